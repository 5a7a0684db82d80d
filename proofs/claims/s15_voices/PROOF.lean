import PyProof.Rows.All
import Wide.All
import OpenK.AllK
import Wide.FinOn
import PyProof.EqAt
import PyProof.EqKinds
import PyProof.TupleCall
import KE.BitLaws
import KE.OsGo
import Open.SpecLaws
import PyProof.AutoIntG2
import PyProof.FactsAll.int_6
import KE.KMinKey
import PySem.Challenge.RW_tonebench_s15_voices
set_option Elab.async false
set_option linter.all false
set_option maxRecDepth 100000
/-! THE HAND LAYER, for ints, bools, texts, own classes, LISTS and tuples (index, slices, in, append, pop ..), calls, loops. Paste it whole ahead of your own text; what your proof does not reach may be deleted. -/
namespace L2
open PySem PySem.Spec PyProof.Rows

/-- a key: an int or a str -/
abbrev Key := Sum Int Str
def keyIs : Key → Value → Bool
  | .inl k, v => Value.isInt k v
  | .inr x, v => Value.isStrOf x v
def keyH (w : World) : Key → Int
  | .inl k => hashInt k
  | .inr x => hashStr w x
theorem keyIs_shape : ∀ {k : Key} {v : Value}, keyIs k v = true → (∃ i t, k = Sum.inl i ∧ v = Value.int i t) ∨ (∃ x t, k = Sum.inr x ∧ v = Value.str x t)
  | .inl i, v, h => by
    obtain ⟨t, e⟩ := Value.isInt_shape (k := i) (v := v) h
    exact .inl ⟨i, t, rfl, e⟩
  | .inr x, v, h => by
    obtain ⟨t, e⟩ := Value.isStrOf_shape (x := x) (v := v) h
    exact .inr ⟨x, t, rfl, e⟩
theorem key_ll (a b : Int) : decide ((Sum.inl a : Key) = Sum.inl b) = (a == b) := by
  by_cases e : a = b
  · subst e; simp
  · have h : ¬ (Sum.inl a : Key) = Sum.inl b := fun q => e (Sum.inl.inj q)
    rw [decide_eq_false h]
    exact (beq_eq_false_iff_ne.mpr e).symm
theorem key_rr (a b : Str) : decide ((Sum.inr a : Key) = Sum.inr b) = decide (a = b) := by
  by_cases e : a = b
  · subst e; simp
  · have h : ¬ (Sum.inr a : Key) = Sum.inr b := fun q => e (Sum.inr.inj q)
    rw [decide_eq_false h, decide_eq_false e]
theorem key_lr (a : Int) (b : Str) : decide ((Sum.inl a : Key) = Sum.inr b) = false := decide_eq_false (fun q => nomatch q)
theorem key_rl (a : Str) (b : Int) : decide ((Sum.inr a : Key) = Sum.inl b) = false := decide_eq_false (fun q => nomatch q)

def mixKind (prog : Program) (w : World) : PySem.KeyKind prog w Key where
  is := keyIs
  hash := keyH w
  inj := fun v a b ha hb => by
    rcases keyIs_shape ha with ⟨i, t, rfl, rfl⟩ | ⟨x, t, rfl, rfl⟩
    · rcases keyIs_shape hb with ⟨j, u, rfl, e⟩ | ⟨y, u, rfl, e⟩
      · injection e with e1 _; rw [e1]
      · exact nomatch e
    · rcases keyIs_shape hb with ⟨j, u, rfl, e⟩ | ⟨y, u, rfl, e⟩
      · exact nomatch e
      · injection e with e1 _; rw [e1]
  byValue := fun k v h => by
    rcases keyIs_shape h with ⟨i, t, rfl, rfl⟩ | ⟨x, t, rfl, rfl⟩ <;> rfl
  pyHash := fun hv h => by
    rcases keyIs_shape hv with ⟨i, t, rfl, rfl⟩ | ⟨x, t, rfl, rfl⟩
    · exact wpAny_pyHash_int h
    · exact wpAny_pyHash_str h
  eqBool := fun hu hv h => by
    rcases keyIs_shape hu with ⟨i, t, rfl, rfl⟩ | ⟨x, t, rfl, rfl⟩
    · rcases keyIs_shape hv with ⟨j, u, rfl, rfl⟩ | ⟨y, u, rfl, rfl⟩
      · rw [key_ll] at h; exact wpAny_eqBool_int h
      · rw [key_lr] at h; exact SeqAt.EqAt.int_str i t y u _ _ _ _ h
    · rcases keyIs_shape hv with ⟨j, u, rfl, rfl⟩ | ⟨y, u, rfl, rfl⟩
      · rw [key_rl] at h; exact SeqAt.EqAt.str_int x t j u _ _ _ _ h
      · rw [key_rr] at h; exact wpAny_eqBool_str h
  «strs» := fun k x t v h => by
    rcases keyIs_shape h with ⟨i, u, rfl, e⟩ | ⟨y, u, rfl, e⟩
    · exact nomatch e
    · injection e with e1 _
      subst e1
      cases v <;> rfl

end L2

namespace L2
open PySem PySem.Spec PyProof.Rows

/-- a value, without the heap -/
inductive V where
  | non | bl (b : Bool) | int (i : Int) | str (x : Str) | byt (b : Array UInt8) | flt (b : UInt64) | ref (a : Addr) | ty (n : String)
  deriving DecidableEq

def RelV : V → Value → Prop
  | .non, u => u = Value.none
  | .bl b, u => u = Value.bool b
  | .int i, u => ∃ t, u = Value.int i t
  | .str x, u => ∃ t, u = Value.str x t
  | .byt b, u => ∃ t, u = Value.bytes b t
  | .flt b, u => ∃ t, u = Value.float b t
  | .ref a, u => u = Value.ref a
  | .ty n, u => u = Value.type n

abbrev Vals : List V → List Value → Prop := Paired RelV
theorem Vals.length {xs : List V} {us : List Value} (r : Vals xs us) : xs.length = us.length := Paired.length r
theorem Vals.get : ∀ {xs : List V} {us : List Value} {i : Nat} {x : V}, Vals xs us → xs[i]? = some x → ∃ u, us[i]? = some u ∧ RelV x u
  | _, _, _, _, .nil, e => by simp at e
  | _, _, 0, _, .cons r _, e => by simp at e; subst e; exact ⟨_, rfl, r⟩
  | _, _, i + 1, x, .cons _ t, e => by
    obtain ⟨u, h1, h2⟩ := Vals.get (i := i) (x := x) t (by simpa using e)
    exact ⟨u, by simpa using h1, h2⟩
theorem Vals.set {x : V} {u : Value} (r : RelV x u) : ∀ {xs : List V} {us : List Value} (i : Nat), Vals xs us → Vals (xs.set i x) (us.set i u)
  | _, _, _, .nil => .nil
  | _, _, 0, .cons _ t => .cons r t
  | _, _, i + 1, .cons q t => .cons q (Vals.set r i t)
theorem Vals.append : ∀ {xs ys : List V} {us ws : List Value}, Vals xs us → Vals ys ws → Vals (xs ++ ys) (us ++ ws)
  | _, _, _, _, .nil, s => s
  | _, _, _, _, .cons r t, s => .cons r (Vals.append t s)
theorem Vals.take : ∀ {xs : List V} {us : List Value} (n : Nat), Vals xs us → Vals (xs.take n) (us.take n)
  | _, _, 0, _ => .nil
  | _, _, _ + 1, .nil => .nil
  | _, _, n + 1, .cons r t => .cons r (Vals.take n t)
theorem Vals.drop : ∀ {xs : List V} {us : List Value} (n : Nat), Vals xs us → Vals (xs.drop n) (us.drop n)
  | _, _, 0, r => r
  | _, _, _ + 1, .nil => .nil
  | _, _, n + 1, .cons _ t => Vals.drop n t
theorem Vals.none_of : ∀ {xs : List V} {us : List Value} {i : Nat}, Vals xs us → xs[i]? = none → us[i]? = none := fun {xs us i} r e => by
  have h1 := r.length
  have h2 : xs.length ≤ i := List.getElem?_eq_none_iff.mp e
  exact List.getElem?_eq_none_iff.mpr (by omega)

def RelO : Option V → Option Value → Prop
  | some v, some u => RelV v u
  | none, none => True
  | _, _ => False
def KV {κ : Type} : List (κ × V) → List (κ × Value) → Prop := Paired fun (p : κ × V) (q : κ × Value) => p.1 = q.1 ∧ RelV p.2 q.2

/-- a key of a dict (00_mix): an int or a text -/
def kV : Key → V
  | .inl i => .int i
  | .inr x => .str x

/-- what stands at a tracked address -/
inductive HO where
  /-- a list -/
  | lst (xs : List V)
  /-- a tuple (never changes) -/
  | tup (xs : List V)
  /-- a dict whose keys are ints and texts; one whose keys are tuples of ints and texts (the empty one is both) -/
  | dK (kvs : List (Key × V)) | dT (kvs : List (List Key × V))
  /-- a set of ints: its members, its size -/
  | set (S : Int → Bool) (n : Nat)
  /-- an instance of the class at C, its dict at dx, its attributes -/
  | ins (C dx : Addr) (fs : List (Str × V))
  /-- the dict of the instance at x -/
  | own (x : Addr)
  /-- the dict of an exception -/
  | xd (fs : List (Str × V))
  /-- a bound method, f of x -/
  | met (f x : Addr)
  /-- a range object lo, lo + 1, .. below hi -/
  | rng (lo hi : Int)
  /-- a thing that is known to the object (the script; a dict while a loop walks it): read, never written while it is so -/
  | frz (o : Obj) (u : HO)
  /-- a code object's table -/
  | tbl (ps : Array Value)
  /-- any other thing, by what is true of its one object (a def of one's own: SetO a S n := HO.ext fun h => ..) -/
  | ext (φ : Heap → Prop)

abbrev Hp := Addr → Option HO
def upd (H : Hp) (a : Addr) (o : HO) : Hp := fun b => if b = a then some o else H b
theorem upd_same {H : Hp} {a : Addr} {o : HO} : upd H a o a = some o := by unfold upd; rw [if_pos rfl]
theorem upd_ne {H : Hp} {a b : Addr} {o : HO} (h : b ≠ a) : upd H a o b = H b := by unfold upd; rw [if_neg h]
/-- two objects of different content stand apart -/
theorem ne_of {H : Hp} {a b : Addr} {o u : HO} (h : H a = some o) (h' : H b = some u) (d : o ≠ u) : a ≠ b := by
  intro e; subst e; rw [h] at h'; exact d (Option.some.inj h')
theorem ne_of_none {H : Hp} {a b : Addr} {o : HO} (h : H a = some o) (h' : H b = none) : a ≠ b := by
  intro e; subst e; rw [h] at h'; cases h'

section
variable (P : Program) (w : World)
def ObjOk (H : Hp) (h : Heap) (a : Addr) : HO → Prop
  | .lst xs => xs.length ≤ sizeLine ∧ ∃ (its : List Value) (n : Nat), Vals xs its ∧ h.get? a = some { cls := .type "list", data := .seq its.toArray n }
  | .tup xs => xs.length ≤ sizeLine ∧ ∃ its : List Value, Vals xs its ∧ IsTup h a its.toArray
  | .dK kvs => kvs.length ≤ sizeLine ∧ (a == sysModules) = false ∧ ∃ vs, KV kvs vs ∧ h.DictOf (mixKind P w) a vs
  | .dT kvs => kvs.length ≤ sizeLine ∧ (a == sysModules) = false ∧ ∃ xs : List (List Key × Addr × Value),
      Paired (fun (p : List Key × V) (q : List Key × Addr × Value) => p.1 = q.1 ∧ H q.2.1 = some (.tup (p.1.map kV)) ∧ RelV p.2 q.2.2) kvs xs ∧
      ∃ o es ep, h.get? a = some o ∧ o.ExactDict ∧ o.data = .dict es ep ∧ es.toList = xs.map (entryOfKey (tupleKind (mixKind P w))) ∧ (xs.map (·.1)).Nodup
  | .set S n => h.SetOf (intKind P w) a S n
  | .ins C dx fs => H dx = some (.own a) ∧ fs.length ≤ 1000 ∧ dx ≠ a ∧ h.get? a = some (PySem.W.instObj C dx) ∧
      ∃ mA, h.Ns1 dx mA ∧ (∀ f, RelO (fs.lookup f) (mA f)) ∧ PySem.Within mA (fs.map (·.1))
  | .own _ => ∃ o, h.get? a = some o
  | .xd fs => ∃ mA, h.Ns1 a mA ∧ ∀ f, RelO (fs.lookup f) (mA f)
  | .rng lo hi => ∃ t u v, h.get? a = some { cls := .type "range", data := .fields #[.int lo t, .int hi u, .int 1 v] }
  | .frz o u => h.get? a = some o ∧ ObjOk H h a u
  | .tbl ps => h.get? a = some { cls := .none, data := .fields ps }
  | .met f x => h.get? a = some (PySem.W.methodObj (.ref f) (.ref x))
  | .ext φ => φ h ∧ (∃ o, h.get? a = some o) ∧ ∀ h1 h2 : Heap, φ h1 → (∀ o, h1.get? a = some o → h2.get? a = some o) → φ h2
/-- the abstract heap is held -/
def HOk (H : Hp) (h : Heap) : Prop := ∀ a o, H a = some o → ObjOk P w H h a o
end

section
variable {P : Program} {w : World} {H H' : Hp} {h h' : Heap} {a : Addr} {o : HO}
theorem ObjOk.lt (x : ObjOk P w H h a o) : a < h.objs.size := by
  cases o with
  | lst xs => obtain ⟨_, _, _, _, e⟩ := x; exact Heap.lt_size e
  | tup xs => obtain ⟨_, _, _, p⟩ := x; exact p.lt
  | dK kvs => obtain ⟨_, _, _, _, o, _, _, e, _⟩ := x; exact Heap.lt_size e
  | dT kvs => obtain ⟨_, _, _, _, o, _, _, e, _⟩ := x; exact Heap.lt_size e
  | set S n => obtain ⟨o, _, _, _, e, _⟩ := x; exact Heap.lt_size e
  | ins C dx fs => obtain ⟨_, _, _, e, _⟩ := x; exact Heap.lt_size e
  | own y => obtain ⟨_, e⟩ := x; exact Heap.lt_size e
  | xd fs => obtain ⟨_, ⟨_, _, _, e, _⟩, _⟩ := x; exact Heap.lt_size e
  | rng lo hi => obtain ⟨_, _, _, e⟩ := x; exact Heap.lt_size e
  | frz ob u => obtain ⟨e, _⟩ := x; exact Heap.lt_size e
  | tbl ps => exact Heap.lt_size (show h.get? a = some _ from x)
  | met f y => exact Heap.lt_size (show h.get? a = some _ from x)
  | ext φ => obtain ⟨_, ⟨_, e⟩, _⟩ := x; exact Heap.lt_size e
theorem Paired.mapP {α β : Type} {F G : α → β → Prop} : ∀ {l₁ : List α} {l₂ : List β}, Paired F l₁ l₂ → (∀ a b, F a b → G a b) → Paired G l₁ l₂
  | _, _, .nil, _ => .nil
  | _, _, .cons r t, f => .cons (f _ _ r) (Paired.mapP t f)
/-- what an object's description leans on: its own object, its own dict, the tuples -/
theorem ObjOk.stay (x : ObjOk P w H h a o) (k : ∀ b u, (b = a ∨ H b = some (.own a)) → h.get? b = some u → h'.get? b = some u)
    (ho : ∀ b, H b = some (.own a) → H' b = some (.own a)) (ht : ∀ b xs, H b = some (.tup xs) → H' b = some (.tup xs)) : ObjOk P w H' h' a o := by
  induction o with
  | lst xs => obtain ⟨z, its, n, r, e⟩ := x; exact ⟨z, its, n, r, k _ _ (.inl rfl) e⟩
  | tup xs => obtain ⟨z, its, r, ob, e, c⟩ := x; exact ⟨z, its, r, ob, k _ _ (.inl rfl) e, c⟩
  | dK kvs => obtain ⟨z, y, vs, r, ob, es, ep, e, c⟩ := x; exact ⟨z, y, vs, r, ob, es, ep, k _ _ (.inl rfl) e, c⟩
  | dT kvs =>
    obtain ⟨z, y, xs, r, ob, es, ep, e, c⟩ := x
    exact ⟨z, y, xs, Paired.mapP r fun p q z => ⟨z.1, ht _ _ z.2.1, z.2.2⟩, ob, es, ep, k _ _ (.inl rfl) e, c⟩
  | set S n => obtain ⟨ob, es, ep, t, e, c⟩ := x; exact ⟨ob, es, ep, t, k _ _ (.inl rfl) e, c⟩
  | ins C dx fs =>
    obtain ⟨d, z, ne, e, mA, ⟨od, es, ep, e2, c⟩, r⟩ := x
    exact ⟨ho _ d, z, ne, k _ _ (.inl rfl) e, mA, ⟨od, es, ep, k _ _ (.inr d) e2, c⟩, r⟩
  | own y => obtain ⟨ob, e⟩ := x; exact ⟨ob, k _ _ (.inl rfl) e⟩
  | xd fs => obtain ⟨mA, ⟨od, es, ep, e, c⟩, r⟩ := x; exact ⟨mA, ⟨od, es, ep, k _ _ (.inl rfl) e, c⟩, r⟩
  | rng lo hi => obtain ⟨t, u, v, e⟩ := x; exact ⟨t, u, v, k _ _ (.inl rfl) e⟩
  | frz ob u ih => obtain ⟨e, q⟩ := x; exact ⟨k _ _ (.inl rfl) e, ih q⟩
  | tbl ps =>
    have e : h.get? a = some { cls := .none, data := .fields ps } := x
    show h'.get? a = some { cls := .none, data := .fields ps }
    exact k a _ (.inl rfl) e
  | met f y =>
    have e : h.get? a = some (PySem.W.methodObj (.ref f) (.ref y)) := x
    show h'.get? a = some (PySem.W.methodObj (.ref f) (.ref y))
    exact k a _ (.inl rfl) e
  | ext φ => obtain ⟨p, ⟨o, e⟩, st⟩ := x; exact ⟨st _ _ p fun o q => k _ _ (.inl rfl) q, ⟨o, k _ _ (.inl rfl) e⟩, st⟩
theorem HOk.lt (x : HOk P w H h) (e : H a = some o) : a < h.objs.size := (x a o e).lt
theorem HOk.fresh (x : HOk P w H h) (e : h.objs.size ≤ a) : H a = none := by
  cases q : H a with
  | none => rfl
  | some u => exact absurd (Nat.lt_of_lt_of_le (x.lt q) e) (Nat.lt_irrefl _)
/-- every object of the heap is kept -/
theorem HOk.kept (x : HOk P w H h) (k : ∀ b u, h.get? b = some u → h'.get? b = some u) : HOk P w H h' := fun a o e =>
  (x a o e).stay (fun b u _ q => k b u q) (fun _ q => q) fun _ _ q => q
/-- a new object is laid and tracked -/
theorem HOk.laid (x : HOk P w H h) (k : ∀ b u, h.get? b = some u → h'.get? b = some u) (hp : h.objs.size ≤ a) (new : ObjOk P w (upd H a o) h' a o) : HOk P w (upd H a o) h' := fun b u e => by
  have hn := x.fresh hp
  by_cases hb : b = a
  · subst hb; rw [upd_same] at e; cases e; exact new
  · rw [upd_ne hb] at e
    exact (x b u e).stay (fun c v _ q => k c v q) (fun c q => by rw [upd_ne (ne_of_none q hn)]; exact q) fun c xs q => by rw [upd_ne (ne_of_none q hn)]; exact q
end

/-- what may be read as u: it is u, or a known u -/
def Rd (H : Hp) (a : Addr) (u : HO) : Prop := H a = some u ∨ ∃ o, H a = some (.frz o u)
theorem Rd.of {H : Hp} {a : Addr} {u : HO} (h : H a = some u) : Rd H a u := .inl h
theorem Rd.ok {P : Program} {w : World} {H : Hp} {h : Heap} {a : Addr} {u : HO} (r : Rd H a u) (x : HOk P w H h) : ObjOk P w H h a u := by
  rcases r with r | ⟨o, r⟩
  · exact x a u r
  · obtain ⟨_, q⟩ := x a _ r
    exact q
/-- what may be written -/
def Mut : Option HO → Prop
  | some (.lst _) => True
  | some (.dK _) => True
  | some (.dT _) => True
  | some (.set _ _) => True
  | some (.ins _ _ _) => True
  | some (.ext _) => True
  | _ => False
section
variable {P : Program} {w : World} {H : Hp} {h h' : Heap} {x e : Addr} {o' : HO}
/-- the object at e is changed: x itself, or the dict of the instance x -/
theorem HOk.write (ok : HOk P w H h) (mu : Mut (H x)) (he : e = x ∨ H e = some (.own x)) (k : ∀ b u, b ≠ e → h.get? b = some u → h'.get? b = some u) (heo : ∃ u, h'.get? e = some u)
    (new : ObjOk P w (upd H x o') h' x o') : HOk P w (upd H x o') h' := fun b u q => by
  have nown : ∀ c y, H c = some (.own y) → c ≠ x := fun c y r z => by subst z; rw [r] at mu; exact mu
  have ntup : ∀ c xs, H c = some (.tup xs) → c ≠ x := fun c xs r z => by subst z; rw [r] at mu; exact mu
  by_cases hb : b = x
  · subst hb; rw [upd_same] at q; cases q; exact new
  · rw [upd_ne hb] at q
    by_cases hbe : b = e
    · have q' : H b = some (.own x) := by
        rcases he with z | z
        · exact absurd (hbe.trans z) hb
        · rw [hbe]; exact z
      rw [q] at q'; cases q'
      obtain ⟨v, hv⟩ := heo
      exact ⟨v, by rw [hbe]; exact hv⟩
    · refine (ok b u q).stay (fun c v hc r => k c v ?_ r) (fun c r => by rw [upd_ne (nown c b r)]; exact r) fun c xs r => by rw [upd_ne (ntup c xs r)]; exact r
      rcases hc with rfl | hc
      · exact hbe
      · rintro rfl
        rcases he with z | z
        · exact nown c b hc z
        · rw [hc] at z; cases z; exact hb rfl
end

/-! ### kept unless tracked; of the frames at fs (the callers') the slots may change (an exception that passes writes there); of the records at ex (iterators) nothing is said -/
structure Un (fs ex : List Addr) (H H' : Hp) (h h' : Heap) : Prop where
  keep : ∀ b o, h.get? b = some o → H b = none → b ∉ fs → b ∉ ex → h'.get? b = some o
  slot : ∀ b o, h.get? b = some o → H b = none → b ∈ fs → b ∉ ex → ∃ sl, h'.get? b = some { o with slots := sl }
  free : ∀ b o, h.get? b = some o → H b = none → b ∉ ex → H' b = none
  there : ∀ b o, h.get? b = some o → b ∉ ex → ∃ o', h'.get? b = some o'
  tups : ∀ b xs, H b = some (.tup xs) → H' b = some (.tup xs)
  frzs : ∀ b o u, H b = some (.frz o u) → H' b = some (.frz o u)
  tbls : ∀ b ps, H b = some (.tbl ps) → ∃ more, H' b = some (.tbl (ps ++ more))
section
variable {fs fs' ex ex' : List Addr} {H H1 H2 : Hp} {h h1 h2 h' : Heap} {a x e : Addr} {o : HO}
theorem Un.any (u : Un fs ex H H1 h h1) {b : Addr} {ob : Obj} (q : h.get? b = some ob) (n : H b = none) (hx : b ∉ ex) : ∃ sl, h1.get? b = some { ob with slots := sl } := by
  by_cases hb : b ∈ fs
  · exact u.slot b ob q n hb hx
  · exact ⟨ob.slots, u.keep b ob q n hb hx⟩
theorem Un.trans (a : Un fs ex H H1 h h1) (b : Un fs ex H1 H2 h1 h2) : Un fs ex H H2 h h2 where
  keep := fun c ob q n hc hx => b.keep c ob (a.keep c ob q n hc hx) (a.free c ob q n hx) hc hx
  slot := fun c ob q n hc hx => by
    obtain ⟨sl, e1⟩ := a.slot c ob q n hc hx
    obtain ⟨sl', e2⟩ := b.slot c _ e1 (a.free c ob q n hx) hc hx
    exact ⟨sl', e2⟩
  free := fun c ob q n hx => by
    obtain ⟨o', e1⟩ := a.there c ob q hx
    exact b.free c o' e1 (a.free c ob q n hx) hx
  there := fun c ob q hx => by
    obtain ⟨o', e1⟩ := a.there c ob q hx
    exact b.there c o' e1 hx
  tups := fun c xs q => b.tups c xs (a.tups c xs q)
  frzs := fun c ob xs q => b.frzs c ob xs (a.frzs c ob xs q)
  tbls := fun c ps q => by
    obtain ⟨m1, e1⟩ := a.tbls c ps q
    obtain ⟨m2, e2⟩ := b.tbls c _ e1
    exact ⟨m1 ++ m2, by rw [e2, Array.append_assoc]⟩
theorem Un.kept (k : ∀ b u, h.get? b = some u → h'.get? b = some u) : Un fs ex H H h h' :=
  ⟨fun b ob q _ _ _ => k b ob q, fun b ob q _ _ _ => ⟨ob.slots, k b ob q⟩, fun _ _ _ n _ => n, fun b ob q _ => ⟨ob, k b ob q⟩, fun _ _ q => q, fun _ _ _ q => q, fun _ ps q => ⟨#[], by rw [q]; simp⟩⟩
theorem Un.refl : Un fs ex H H h h := Un.kept fun _ _ q => q
theorem Un.laid (k : ∀ b u, h.get? b = some u → h'.get? b = some u) (hp : h.objs.size ≤ a) (hn : H a = none) : Un fs ex H (upd H a o) h h' where
  keep := fun b u q _ _ _ => k b u q
  slot := fun b u q _ _ _ => ⟨u.slots, k b u q⟩
  free := fun b u q n _ => by rw [upd_ne (Nat.ne_of_lt (Nat.lt_of_lt_of_le (Heap.lt_size q) hp))]; exact n
  there := fun b u q _ => ⟨u, k b u q⟩
  tups := fun b xs q => by rw [upd_ne (ne_of_none q hn)]; exact q
  frzs := fun b u xs q => by rw [upd_ne (ne_of_none q hn)]; exact q
  tbls := fun b ps q => ⟨#[], by rw [upd_ne (ne_of_none q hn), q]; simp⟩
theorem Un.write (mu : Mut (H x)) (he : e = x ∨ H e = some (.own x)) (k : ∀ b u, b ≠ e → h.get? b = some u → h'.get? b = some u) (heo : ∃ u, h'.get? e = some u) : Un fs ex H (upd H x o) h h' := by
  have hx : ∀ b, H b = none → b ≠ x := fun b n z => by subst z; rw [n] at mu; exact mu
  have hb : ∀ b, H b = none → b ≠ e := fun b n z => by
    subst z
    rcases he with r | r
    · exact hx b n r
    · rw [n] at r; cases r
  have hm : ∀ b u, H b = some u → ¬ Mut (some u) → b ≠ x := fun b u q nm z => by subst z; rw [q] at mu; exact nm mu
  refine ⟨fun b u q n _ _ => k b u (hb b n) q, fun b u q n _ _ => ⟨u.slots, k b u (hb b n) q⟩, fun b u q n _ => by rw [upd_ne (hx b n)]; exact n, fun b u q _ => ?_,
    fun b xs q => by rw [upd_ne (hm b _ q fun z => z)]; exact q, fun b u xs q => by rw [upd_ne (hm b _ q fun z => z)]; exact q, fun b ps q => ⟨#[], by rw [upd_ne (hm b _ q fun z => z), q]; simp⟩⟩
  by_cases hbe : b = e
  · subst hbe; exact heo
  · exact ⟨u, k b u hbe q⟩
theorem Un.mono (u : Un fs ex H H1 h h1) (hs : ∀ b ∈ fs, b ∈ fs') (hx : ∀ b ∈ ex, b ∈ ex') : Un fs' ex' H H1 h h1 :=
  ⟨fun b ob q n hb he => u.keep b ob q n (fun z => hb (hs b z)) fun z => he (hx b z), fun _ _ q n _ he => u.any q n fun z => he (hx _ z), fun b ob q n he => u.free b ob q n fun z => he (hx b z), fun b ob q he => u.there b ob q fun z => he (hx b z), u.tups, u.frzs, u.tbls⟩
end

/-! ### the heap without what is tracked -/
def trk (h : Heap) (H : Hp) : List Addr := (List.range h.objs.size).filter fun a => (H a).isSome
def hidT (h : Heap) (H : Hp) : Heap := PySem.W.hideAll h (trk h H)
theorem hidT_size (h : Heap) (H : Hp) : (hidT h H).objs.size = h.objs.size := PySem.W.hideAll_size _ _
theorem hidT_get {h : Heap} {H : Hp} {b : Addr} {o : Obj} (e : h.get? b = some o) (n : H b = none) : (hidT h H).get? b = some o :=
  PySem.W.hideAll_get _ e fun hm => by
    have q : (H b).isSome = true := (List.mem_filter.mp hm).2
    rw [n] at q; simp at q
theorem of_hidT {h : Heap} {H : Hp} {b : Addr} {o : Obj} (e : (hidT h H).get? b = some o) : h.get? b = some o ∧ H b = none := by
  have e' : h.get? b = some o := PySem.W.of_hideAll (trk h H) e
  refine ⟨e', ?_⟩
  cases q : H b with
  | none => rfl
  | some x =>
    have hm : b ∈ trk h H := List.mem_filter.mpr ⟨List.mem_range.mpr (Heap.lt_size e'), by simp [q]⟩
    have z : (hidT h H).get? b = none := PySem.W.hideAll_none (trk h H) hm
    rw [z] at e; cases e

/-! ### OpenK's ledger, filled with every new object but one -/
def allNews (g h : Heap) (L : Addr) : List (Addr × Obj) := (List.range h.objs.size).filterMap fun a => if a = L ∨ (g.get? a).isSome = true then none else (h.get? a).map fun o => (a, o)
def rest (g h : Heap) (L d : Addr) : List (Addr × Obj) := (allNews g h L).filter fun p => decide (p.1 ≠ d)
end L2

namespace L2
open PySem PySem.Spec PyProof.Rows

/-- the module's facts, over the base: the heap at the law's entry without what is tracked there -/
structure Mod (K : PySem.W.Frag) (mg : Str → Option Value) (base : Heap) : Prop where
  kin : K.In base
  glob : base.Ns mainGlobals mg
  blt : ∃ mb, base.Ns builtinsNs mb ∧ ∀ x : Str, x ≠ "__name__" → mb x = bootBuiltins x
  nolimit : base.NoLimit

/-- the context: a def's body (or a comprehension's block) running. base: fixed through the whole law; s₀, H₀: the entry; outer: the frames whose slots others may change (a def's callers); stack: all frames that run;
   ex: iterators that were made ahead of the entry and are walked here (a comprehension's); fn: the names whose cells were made at the entry (a def: all; a comprehension's block: its own); calm: not within an except suite; pn: pins that every state bears; xe: what is wanted of an exception that leaves the code -/
structure Cx where
  prog : Program
  w : World
  K : PySem.W.Frag
  mg : Str → Option Value
  base : Heap
  A : Around
  N : List Str
  s_0 : Shared
  H_0 : Hp
  env : Env
  outer : List Env
  stack : List Env
  ex : List Addr
  fn : Str → Bool
  calm : Bool
  pn : List (Addr × Obj)
  xe : Value → Shared → Prop
/-- the callers' frames -/
def frs (l : List Env) : List Addr := l.filterMap (·.frame)
abbrev Cx.fs (X : Cx) : List Addr := frs X.outer

def Vis (sc : Scope) (x : Str) : Prop := sc.names.lookup x = some .local ∨ sc.names.lookup x = some .cell ∨ sc.names.lookup x = some .free
def Loc (sc : Scope) (x : Str) : Prop := sc.names.lookup x = some .local ∨ sc.names.lookup x = some .cell
def Look (env : Env) (h : Heap) (m : Str → Option Value) (x : Str) (u : Value) : Prop :=
  (env.kindOf x = some .local ∧ m x = some u) ∨ ((env.kindOf x = some .cell ∨ env.kindOf x = some .free) ∧ ∃ c, env.cells.lookup x = some c ∧ h.IsCell c (some u))

structure Cx.Ok (X : Cx) : Prop where
  mod : Mod X.K X.mg X.base
  kind : X.env.scope.kind = .function
  glob : X.env.globals = mainGlobals
  blt : X.env.builtins = builtinsNs
  above : X.s_0.heap.objs.size ≤ X.env.locals
  inj : ∀ x y c, X.env.cells.lookup x = some c → X.env.cells.lookup y = some c → x = y
  has : ∀ x, (X.env.kindOf x = some .cell ∨ X.env.kindOf x = some .free) → ∃ c, X.env.cells.lookup x = some c
  cab : ∀ x c, X.fn x = true → X.env.cells.lookup x = some c → X.s_0.heap.objs.size ≤ c
  hd : X.calm = true → X.A.handled = none
  frames : X.A.frames = some X.stack
  stk : X.stack = X.outer ∨ (X.stack = X.env :: X.outer ∧ X.env.frame = some X.env.locals)
  exf : ∀ b ∈ X.ex, b ≠ X.env.locals ∧ ∀ x c, X.env.cells.lookup x = some c → c ≠ b
  bs : ∀ b o, X.base.get? b = some o → X.s_0.heap.get? b = some o ∧ X.H_0 b = none
  bsz : X.base.objs.size ≤ X.s_0.heap.objs.size
  noex : ∀ b o, X.base.get? b = some o → b ∉ X.ex
  exfs : ∀ b ∈ X.ex, b ∉ X.fs
  funs : X.s_0.heap.FunFrames X.base X.outer
  frf : ∀ b ∈ X.fs, X.H_0 b = none

structure Inv (X : Cx) (pins : List (Addr × Obj)) (σ : List (Option V)) (H : Hp) (s : Shared) : Prop where
  ok : X.Ok
  os : s.os = X.s_0.os
  bare : AllBare s.gens
  base : Un X.fs X.ex X.H_0 H X.s_0.heap s.heap
  loc : ∃ m, s.heap.Ns X.env.locals m ∧ ∀ (i : Nat) (x : Str) (v : V), X.N[i]? = some x → σ[i]? = some (some v) → Vis X.env.scope x → ∃ u, RelV v u ∧ Look X.env s.heap m x u
  cell : ∀ x c, X.env.cells.lookup x = some c → ∃ v, s.heap.IsCell c v
  free : H X.env.locals = none
  freeC : ∀ x c, X.env.cells.lookup x = some c → H c = none
  pin : ∀ p ∈ X.pn ++ pins, s.heap.get? p.1 = some p.2 ∧ H p.1 = none ∧ p.1 ≠ X.env.locals ∧ p.1 ∉ X.fs ∧ ∀ v, p.2.data ≠ .cell v
  hok : HOk X.prog X.w H s.heap
  len : σ.length = X.N.length

section
variable {X : Cx} {pins : List (Addr × Obj)} {σ : List (Option V)} {H H' : Hp} {s : Shared} {h' : Heap}

theorem Cx.Ok.nofr (ok : X.Ok) {b : Addr} {o : Obj} (e : X.base.get? b = some o) : b ∉ X.fs := fun hb => by
  have := (ok.funs.mem hb).1
  rw [e] at this; cases this
theorem Inv.bs (I : Inv X pins σ H s) : ∀ b o, X.base.get? b = some o → s.heap.get? b = some o ∧ H b = none := fun b o e =>
  ⟨I.base.keep b o (I.ok.bs b o e).1 (I.ok.bs b o e).2 (I.ok.nofr e) (I.ok.noex b o e), I.base.free b o (I.ok.bs b o e).1 (I.ok.bs b o e).2 (I.ok.noex b o e)⟩
theorem Inv.bk (I : Inv X pins σ H s) : ∀ b o, X.base.get? b = some o → s.heap.get? b = some o := fun b o e => (I.bs b o e).1
theorem Inv.mod (I : Inv X pins σ H s) : Mod X.K X.mg X.base := I.ok.mod
theorem Inv.kIn (I : Inv X pins σ H s) : X.K.In s.heap := I.ok.mod.kin.keeps I.bk
theorem Inv.nolimit (I : Inv X pins σ H s) : s.heap.NoLimit := I.ok.mod.nolimit.keeps I.bk
/-- the frame over the base: for OpenK's rules (K.In X.base is I.mod.kin) -/
theorem Inv.fr (I : Inv X pins σ H s) : ∃ m, Fr X.base X.env.locals s.heap m :=
  let ⟨m, hn, _⟩ := I.loc
  ⟨m, hn, I.bk, Nat.le_trans I.ok.bsz I.ok.above⟩
theorem Inv.lt (I : Inv X pins σ H s) : X.env.locals < s.heap.objs.size := let ⟨_, hn, _⟩ := I.loc; hn.lt
theorem Inv.sz (I : Inv X pins σ H s) : X.s_0.heap.objs.size ≤ s.heap.objs.size := Nat.le_trans I.ok.above (Nat.le_of_lt I.lt)
theorem Inv.nofs (I : Inv X pins σ H s) {a : Addr} (h : s.heap.objs.size ≤ a) : a ∉ X.fs := fun hb => by
  obtain ⟨_, o, ho, _⟩ := I.ok.funs.mem hb
  exact absurd (Nat.lt_of_lt_of_le (Heap.lt_size ho) (Nat.le_trans I.sz h)) (Nat.lt_irrefl _)
theorem Inv.cne (I : Inv X pins σ H s) : ∀ x c, X.env.cells.lookup x = some c → c ≠ X.env.locals := fun x c e z => by
  obtain ⟨v, o, ho, hd⟩ := I.cell x c e
  obtain ⟨m, ⟨o', es, ep, ho', hd', _⟩, _⟩ := I.loc
  rw [z, ho'] at ho; cases ho; rw [hd'] at hd; cases hd
theorem Inv.funs (I : Inv X pins σ H s) : s.heap.FunFrames X.base X.outer := by
  have all : ∀ (l : List Env), (∀ b ∈ frs l, b ∈ X.fs) → X.s_0.heap.FunFrames X.base l → s.heap.FunFrames X.base l := by
    intro l
    induction l with
    | nil => intro _ _; trivial
    | cons env r ih =>
      intro hs hl
      obtain ⟨hk, ⟨L, o, hf, hn, ho, hd⟩, hr⟩ := hl
      have hL : L ∈ X.fs := hs L (by unfold frs; rw [List.filterMap_cons, hf]; exact List.mem_cons_self)
      obtain ⟨sl, e⟩ := I.base.slot L o ho (I.ok.frf L hL) hL fun z => I.ok.exfs L z hL
      exact ⟨hk, ⟨L, _, hf, hn, e, hd⟩, ih (fun b hb => hs b (by unfold frs; rw [List.filterMap_cons, hf]; exact List.mem_cons_of_mem _ hb)) hr⟩
  exact all X.outer (fun _ hb => hb) I.ok.funs

/-- the frames that run, for a call -/
theorem Inv.stack (I : Inv X pins σ H s) : s.heap.FunFrames X.base X.stack := by
  rcases I.ok.stk with e | ⟨e, hf⟩
  · rw [e]; exact I.funs
  · rw [e]
    obtain ⟨m, hn, _⟩ := I.loc
    refine .cons (by rw [I.ok.kind]; decide) hf hn ?_ I.funs
    exact Heap.get?_none_of_le (Nat.le_trans I.ok.bsz I.ok.above)
theorem Inv.stkSub (I : Inv X pins σ H s) : ∀ b ∈ frs X.stack, b ∈ X.env.locals :: X.fs := fun b hb => by
  rcases I.ok.stk with e | ⟨e, hf⟩
  · rw [e] at hb; exact List.mem_cons_of_mem _ hb
  · rw [e] at hb
    unfold frs at hb
    rw [List.filterMap_cons, hf] at hb
    exact hb
theorem Inv.stkFree (I : Inv X pins σ H s) : ∀ b ∈ frs X.stack, H b = none := fun b hb => by
  rcases List.mem_cons.mp (I.stkSub b hb) with e | hb
  · rw [e]; exact I.free
  · obtain ⟨_, o, ho, _⟩ := I.ok.funs.mem hb
    exact I.base.free b o ho (I.ok.frf b hb) fun z => I.ok.exfs b z hb

/-- THE STEP: the untracked objects but the frame and the records at ch are kept (the callers' frames up to slots), the frame's map is kept, the new abstract heap is held -/
theorem Inv.step {g' : Array GenState} {t' : Nat} {d' : Drawn} {ch : List Addr} (I : Inv X pins σ H s)
    (hch : ∀ b ∈ ch, (b ∈ X.ex ∨ X.s_0.heap.objs.size ≤ b) ∧ b ≠ X.env.locals ∧ (∀ x c, X.env.cells.lookup x = some c → c ≠ b) ∧ ∀ p ∈ X.pn ++ pins, p.1 ≠ b)
    (keep : ∀ b o, b ≠ X.env.locals → b ∉ X.fs → b ∉ ch → s.heap.get? b = some o → H b = none → h'.get? b = some o)
    (slot : ∀ b o, b ≠ X.env.locals → b ∈ X.fs → b ∉ ch → s.heap.get? b = some o → H b = none → ∃ sl, h'.get? b = some { o with slots := sl }) (free : ∀ b o, b ∉ ch → s.heap.get? b = some o → H b = none → H' b = none)
    (there : ∀ b o, b ∉ ch → s.heap.get? b = some o → ∃ o', h'.get? b = some o')
    (tups : ∀ b xs, H b = some (.tup xs) → H' b = some (.tup xs)) (frzs : ∀ b o u, H b = some (.frz o u) → H' b = some (.frz o u)) (tbls : ∀ b ps, H b = some (.tbl ps) → ∃ more, H' b = some (.tbl (ps ++ more)))
    (ns : ∀ m, s.heap.Ns X.env.locals m → h'.Ns X.env.locals m) (hok : HOk X.prog X.w H' h') (hg : AllBare g') :
    Inv X pins σ H' { s with heap := h', gens := g', drawn := d', toks := t' } := by
  have neL : ∀ b o, X.s_0.heap.get? b = some o → b ≠ X.env.locals := fun b o e => Nat.ne_of_lt (Nat.lt_of_lt_of_le (Heap.lt_size e) I.ok.above)
  have neC : ∀ b o, X.s_0.heap.get? b = some o → b ∉ X.ex → b ∉ ch := fun b o e hx hb => by
    rcases (hch b hb).1 with z | z
    · exact hx z
    · exact absurd (Nat.lt_of_lt_of_le (Heap.lt_size e) z) (Nat.lt_irrefl _)
  have cellK : ∀ x c, X.env.cells.lookup x = some c → ∀ v, s.heap.IsCell c v → h'.IsCell c v := fun x c e v ⟨o, ho, hd⟩ => by
    have nch : c ∉ ch := fun z => (hch c z).2.2.1 x c e rfl
    by_cases hc : c ∈ X.fs
    · obtain ⟨sl, q⟩ := slot c o (I.cne x c e) hc nch ho (I.freeC x c e)
      exact ⟨_, q, hd⟩
    · exact ⟨o, keep c o (I.cne x c e) hc nch ho (I.freeC x c e), hd⟩
  refine ⟨I.ok, I.os, hg, ⟨fun b o e n hb hx => ?_, fun b o e n hb hx => ?_, fun b o e n hx => ?_, fun b o e hx => ?_, fun b xs e => tups b xs (I.base.tups b xs e), fun b o xs e => frzs b o xs (I.base.frzs b o xs e), fun b ps e => ?_⟩, ?_, fun x c e => ?_, ?_, fun x c e => ?_, fun p hp => ?_, hok, I.len⟩
  · exact keep b o (neL b o e) hb (neC b o e hx) (I.base.keep b o e n hb hx) (I.base.free b o e n hx)
  · obtain ⟨sl, e1⟩ := I.base.slot b o e n hb hx
    obtain ⟨sl', e2⟩ := slot b _ (neL b o e) hb (neC b o e hx) e1 (I.base.free b o e n hx)
    exact ⟨sl', e2⟩
  · obtain ⟨o', e1⟩ := I.base.there b o e hx
    exact free b o' (neC b o e hx) e1 (I.base.free b o e n hx)
  · obtain ⟨o', e1⟩ := I.base.there b o e hx
    exact there b o' (neC b o e hx) e1
  · obtain ⟨m1, e1⟩ := I.base.tbls b ps e
    obtain ⟨m2, e2⟩ := tbls b _ e1
    exact ⟨m1 ++ m2, by rw [e2, Array.append_assoc]⟩
  · obtain ⟨m, hn, hl⟩ := I.loc
    refine ⟨m, ns m hn, fun i x v e1 e2 e3 => ?_⟩
    obtain ⟨u, r, l⟩ := hl i x v e1 e2 e3
    refine ⟨u, r, ?_⟩
    rcases l with l | ⟨k, c, e, z⟩
    · exact .inl l
    · exact .inr ⟨k, c, e, cellK x c e _ z⟩
  · obtain ⟨v, z⟩ := I.cell x c e
    exact ⟨v, cellK x c e v z⟩
  · obtain ⟨m, ⟨o, _, _, ho, _⟩, _⟩ := I.loc
    exact free _ o (fun z => (hch _ z).2.1 rfl) ho I.free
  · obtain ⟨v, o, ho, hd⟩ := I.cell x c e
    exact free c o (fun z => (hch c z).2.2.1 x c e rfl) ho (I.freeC x c e)
  · obtain ⟨e, n, ne, nf, d⟩ := I.pin p hp
    have nch : p.1 ∉ ch := fun z => (hch p.1 z).2.2.2 p hp rfl
    exact ⟨keep p.1 p.2 ne nf nch e n, free p.1 p.2 nch e n, ne, nf, d⟩
/-- .. where the frame's own object is kept too -/
theorem Inv.un {t' : Nat} (I : Inv X pins σ H s) (u : Un X.fs [] H H' s.heap h') (hok : HOk X.prog X.w H' h') : Inv X pins σ H' { s with heap := h', toks := t' } := by
  obtain ⟨m, ⟨o, es, ep, ho, r⟩, _⟩ := id I.loc
  obtain ⟨sl, hL⟩ := u.any ho I.free (by simp)
  exact I.step (g' := s.gens) (d' := s.drawn) (ch := []) (fun _ z => nomatch z) (fun b o _ hb _ e n => u.keep b o e n hb (by simp)) (fun b o _ hb _ e n => u.slot b o e n hb (by simp)) (fun b o _ e n => u.free b o e n (by simp)) (fun b o _ e => u.there b o e (by simp)) u.tups u.frzs u.tbls (fun m' hm => by
    obtain ⟨o', es', ep', ho', r'⟩ := hm
    rw [ho] at ho'; cases ho'
    exact ⟨_, es', ep', hL, r'⟩) hok I.bare
/-- behind a call (or a comprehension's block): the slots of this frame may have changed too, the records at ch may have turned -/
theorem Inv.call {g' : Array GenState} {t' : Nat} {d' : Drawn} {ch : List Addr} (I : Inv X pins σ H s) (u : Un (frs X.stack) ch H H' s.heap h') (hok : HOk X.prog X.w H' h') (hg : AllBare g')
    (hch : ∀ b ∈ ch, (b ∈ X.ex ∨ X.s_0.heap.objs.size ≤ b) ∧ b ≠ X.env.locals ∧ (∀ x c, X.env.cells.lookup x = some c → c ≠ b) ∧ ∀ p ∈ X.pn ++ pins, p.1 ≠ b) :
    Inv X pins σ H' { s with heap := h', gens := g', drawn := d', toks := t' } := by
  obtain ⟨m, ⟨o, es, ep, ho, r⟩, _⟩ := id I.loc
  obtain ⟨sl, hL⟩ := u.any ho I.free fun z => (hch _ z).2.1 rfl
  exact I.step (ch := ch) hch (fun b o hL hb hc e n => u.keep b o e n (fun z => (List.mem_cons.mp (I.stkSub b z)).elim hL hb) hc) (fun b o _ _ hc e n => u.any e n hc) (fun b o hc e n => u.free b o e n hc) (fun b o hc e => u.there b o e hc) u.tups u.frzs u.tbls (fun m' hm => by
    obtain ⟨o', es', ep', ho', r'⟩ := hm
    rw [ho] at ho'; cases ho'
    exact ⟨_, es', ep', hL, r'⟩) hok hg
/-- an untracked record of ours (an iterator) has turned -/
theorem Inv.turned {t' : Nat} {it : Addr} (I : Inv X pins σ H s) (k : ∀ b o, b ≠ it → s.heap.get? b = some o → h'.get? b = some o) (hn : H it = none) (hL : it ≠ X.env.locals)
    (h1 : it ∈ X.ex ∨ X.s_0.heap.objs.size ≤ it) (h2 : ∀ x c, X.env.cells.lookup x = some c → c ≠ it) (h3 : ∀ p ∈ X.pn ++ pins, p.1 ≠ it) : Inv X pins σ H { s with heap := h', toks := t' } := by
  have nit : ∀ b u, H b = some u → b ≠ it := fun b u e z => by rw [z, hn] at e; cases e
  refine I.step (g' := s.gens) (d' := s.drawn) (ch := [it]) (fun b hb => ?_) (fun b o _ _ hc e _ => k b o (fun z => hc (by simp [z])) e) (fun b o _ _ hc e _ => ⟨o.slots, k b o (fun z => hc (by simp [z])) e⟩) (fun _ _ _ _ n => n)
    (fun b o hc e => ⟨o, k b o (fun z => hc (by simp [z])) e⟩) (fun _ _ e => e) (fun _ _ _ e => e) (fun b ps e => ⟨#[], by rw [e]; simp⟩) (fun m hm => ?_) (fun b u e => ?_) I.bare
  · have e : b = it := by simpa using hb
    subst e
    exact ⟨h1, hL, h2, h3⟩
  · obtain ⟨o, es, ep, ho, r⟩ := hm
    exact ⟨o, es, ep, k _ o (Ne.symm hL) ho, r⟩
  · refine (I.hok b u e).stay (fun c v hc q => k c v ?_ q) (fun _ q => q) fun _ _ q => q
    rcases hc with z | z
    · rw [z]; exact nit b u e
    · exact nit c _ z
theorem Inv.tok (I : Inv X pins σ H s) (t : Nat) : Inv X pins σ H { s with toks := t } := I.un (h' := s.heap) (t' := t) Un.refl I.hok
/-- all objects kept -/
theorem Inv.kept {t' : Nat} (I : Inv X pins σ H s) (k : ∀ b u, s.heap.get? b = some u → h'.get? b = some u) : Inv X pins σ H { s with heap := h', toks := t' } := I.un (Un.kept k) (I.hok.kept k)
/-- a new object laid and tracked -/
theorem Inv.laid {a : Addr} {o : HO} {t' : Nat} (I : Inv X pins σ H s) (k : ∀ b u, s.heap.get? b = some u → h'.get? b = some u) (hp : s.heap.objs.size ≤ a) (new : ObjOk X.prog X.w (upd H a o) h' a o) :
    Inv X pins σ (upd H a o) { s with heap := h', toks := t' } := I.un (Un.laid k hp (I.hok.fresh hp)) (I.hok.laid k hp new)
/-- an object written -/
theorem Inv.write {x e : Addr} {o : HO} {t' : Nat} (I : Inv X pins σ H s) (mu : Mut (H x)) (he : e = x ∨ H e = some (.own x)) (k : ∀ b u, b ≠ e → s.heap.get? b = some u → h'.get? b = some u) (heo : ∃ u, h'.get? e = some u)
    (new : ObjOk X.prog X.w (upd H x o) h' x o) : Inv X pins σ (upd H x o) { s with heap := h', toks := t' } := I.un (Un.write mu he k heo) (I.hok.write mu he k heo new)
/-- forgetting slots, pins -/
theorem Inv.weak {σ' : List (Option V)} (I : Inv X pins σ H s) (hl : σ'.length = σ.length) (w : ∀ (i : Nat) v, σ'[i]? = some (some v) → σ[i]? = some (some v)) : Inv X pins σ' H s :=
  ⟨I.ok, I.os, I.bare, I.base, let ⟨m, hn, hl'⟩ := I.loc; ⟨m, hn, fun i x v e1 e2 e3 => hl' i x v e1 (w i v e2) e3⟩, I.cell, I.free, I.freeC, I.pin, I.hok, hl.trans I.len⟩
theorem Inv.pins_of {pins' : List (Addr × Obj)} (I : Inv X pins σ H s) (h : ∀ p ∈ pins', s.heap.get? p.1 = some p.2 ∧ H p.1 = none ∧ p.1 ≠ X.env.locals ∧ p.1 ∉ X.fs ∧ ∀ v, p.2.data ≠ .cell v) : Inv X pins' σ H s :=
  ⟨I.ok, I.os, I.bare, I.base, I.loc, I.cell, I.free, I.freeC, fun p hp => (List.mem_append.mp hp).elim (fun z => I.pin p (List.mem_append_left _ z)) (h p), I.hok, I.len⟩

theorem nodup_ix {N : List Str} (hN : N.Nodup) {i j : Nat} {x : Str} (a : N[i]? = some x) (b : N[j]? = some x) : i = j := by
  obtain ⟨h1, e1⟩ := List.getElem?_eq_some_iff.mp a
  obtain ⟨h2, e2⟩ := List.getElem?_eq_some_iff.mp b
  exact (List.getElem_inj hN).mp (e1.trans e2.symm)

/-- a name is stored; what changed -/
theorem store_ok2 {M : Model} {A : Around} {E : Value → Shared → Prop} {i : Nat} {x : Str} {v : V} {u : Value} {Q : Unit → Shared → Prop} (I : Inv X pins σ H s) (hN : X.N.Nodup) (hi : X.N[i]? = some x) (hx : Loc X.env.scope x) (r : RelV v u)
    (h : ∀ s', Inv X pins (σ.set i (some v)) H s' → (∃ a, Heap.SameBut a s.heap s'.heap ∧ (a = X.env.locals ∨ X.env.cells.lookup x = some a)) → Q () s') (hf : X.fn x = true ∨ X.env.scope.names.lookup x = some .local := by first | exact .inl rfl | exact .inr rfl | assumption) : wpAny M A (storeName X.env x u) Q E s := by
  obtain ⟨m, hn, hl⟩ := id I.loc
  have hcls : (X.env.scope.kind == .class || (X.env.scope.kind == .module && X.env.locals != X.env.globals)) = false := by rw [I.ok.kind]; rfl
  have hiσ : i < σ.length := by rw [I.len]; exact (List.getElem?_eq_some_iff.mp hi).1
  have cne := I.cne
  have tracked : ∀ {a : Addr} {h' : Heap}, (∃ o, s.heap.get? a = some o ∧ H a = none) → Heap.SameBut a s.heap h' → HOk X.prog X.w H h' := fun {a h'} ha hs b ob e => by
    obtain ⟨_, _, hfree⟩ := ha
    refine (I.hok b ob e).stay (fun c w' hc q => (hs.2 c ?_).trans q) (fun _ q => q) fun _ _ q => q
    rintro rfl
    rcases hc with rfl | hc
    · rw [hfree] at e; cases e
    · rw [hfree] at hc; cases hc
  rcases hx with hk | hk
  · refine wpAny_storeName_local hk hn (fun h' hn' hs => ?_) hcls
    obtain ⟨oL, _, _, hoL, _⟩ := id hn
    refine h _ ⟨I.ok, I.os, I.bare, ⟨fun b o e n hb hx => ?_, fun b o e n hb hx => ?_, I.base.free, fun b o e hx => ?_, I.base.tups, I.base.frzs, I.base.tbls⟩, ⟨_, hn', fun j y v' e1 e2 e3 => ?_⟩, fun y c e => ?_, I.free, I.freeC, fun p hp => ?_, tracked ⟨oL, hoL, I.free⟩ hs, by simpa using I.len⟩ ⟨_, hs, .inl rfl⟩
    · exact (hs.2 b (Nat.ne_of_lt (Nat.lt_of_lt_of_le (Heap.lt_size e) I.ok.above))).trans (I.base.keep b o e n hb hx)
    · obtain ⟨sl, e1⟩ := I.base.slot b o e n hb hx
      exact ⟨sl, (hs.2 b (Nat.ne_of_lt (Nat.lt_of_lt_of_le (Heap.lt_size e) I.ok.above))).trans e1⟩
    · obtain ⟨o', e1⟩ := I.base.there b o e hx
      exact ⟨o', (hs.2 b (Nat.ne_of_lt (Nat.lt_of_lt_of_le (Heap.lt_size e) I.ok.above))).trans e1⟩
    · by_cases hj : j = i
      · subst hj
        rw [hi] at e1; cases e1
        rw [List.getElem?_set_self hiσ] at e2
        cases e2
        exact ⟨u, r, .inl ⟨hk, by simp⟩⟩
      · rw [List.getElem?_set_ne (Ne.symm hj)] at e2
        obtain ⟨u', r', q⟩ := hl j y v' e1 e2 e3
        refine ⟨u', r', ?_⟩
        rcases q with ⟨k, e⟩ | ⟨k, c, e, z⟩
        · refine .inl ⟨k, ?_⟩
          have : y ≠ x := fun e => hj (nodup_ix hN e1 (e ▸ hi))
          simp [this, e]
        · exact .inr ⟨k, c, e, z.sameBut hs (cne y c e)⟩
    · obtain ⟨w', z⟩ := I.cell y c e
      exact ⟨w', z.sameBut hs (cne y c e)⟩
    · obtain ⟨e, n, ne, nf, d⟩ := I.pin p hp
      exact ⟨(hs.2 p.1 ne).trans e, n, ne, nf, d⟩
  · have hfn : X.fn x = true := by
      rcases hf with z | z
      · exact z
      · rw [z] at hk; cases hk
    obtain ⟨c, hc⟩ := I.ok.has x (.inl hk)
    obtain ⟨w', z⟩ := I.cell x c hc
    refine wpAny_storeName_cell I.ok.kind hk hc z (fun h' hc' hs => ?_)
    obtain ⟨oc, hoc, hocd⟩ := id z
    refine h { s with heap := h' } ⟨I.ok, I.os, I.bare, ⟨fun b o e n hb hx => ?_, fun b o e n hb hx => ?_, I.base.free, fun b o e hx => ?_, I.base.tups, I.base.frzs, I.base.tbls⟩, ⟨m, hn.sameBut hs (Ne.symm (cne x c hc)), fun j y v' e1 e2 e3 => ?_⟩, fun y c' e => ?_, I.free, I.freeC, fun p hp => ?_, tracked ⟨oc, hoc, I.freeC x c hc⟩ hs, by simpa using I.len⟩ ⟨c, hs, .inr hc⟩
    · exact (hs.2 b (Nat.ne_of_lt (Nat.lt_of_lt_of_le (Heap.lt_size e) (I.ok.cab x c hfn hc)))).trans (I.base.keep b o e n hb hx)
    · obtain ⟨sl, e1⟩ := I.base.slot b o e n hb hx
      exact ⟨sl, (hs.2 b (Nat.ne_of_lt (Nat.lt_of_lt_of_le (Heap.lt_size e) (I.ok.cab x c hfn hc)))).trans e1⟩
    · obtain ⟨o', e1⟩ := I.base.there b o e hx
      exact ⟨o', (hs.2 b (Nat.ne_of_lt (Nat.lt_of_lt_of_le (Heap.lt_size e) (I.ok.cab x c hfn hc)))).trans e1⟩
    · by_cases hj : j = i
      · subst hj
        rw [hi] at e1; cases e1
        rw [List.getElem?_set_self hiσ] at e2
        cases e2
        exact ⟨u, r, .inr ⟨.inl hk, c, hc, hc'⟩⟩
      · rw [List.getElem?_set_ne (Ne.symm hj)] at e2
        obtain ⟨u', r', q⟩ := hl j y v' e1 e2 e3
        refine ⟨u', r', ?_⟩
        rcases q with q | ⟨k, c', e, z'⟩
        · exact .inl q
        · refine .inr ⟨k, c', e, z'.sameBut hs ?_⟩
          rintro rfl
          exact hj (nodup_ix hN e1 (I.ok.inj _ _ _ e hc ▸ hi))
    · by_cases hcc : c' = c
      · subst hcc; exact ⟨_, hc'⟩
      · obtain ⟨w2, z2⟩ := I.cell y c' e
        exact ⟨w2, z2.sameBut hs hcc⟩
    · obtain ⟨e, n, ne, nf, d⟩ := I.pin p hp
      refine ⟨(hs.2 p.1 ?_).trans e, n, ne, nf, d⟩
      intro q
      rw [q, hoc] at e
      have q' : oc = p.2 := Option.some.inj e
      exact d w' (by rw [← q']; exact hocd)
theorem store_ok {M : Model} {A : Around} {E : Value → Shared → Prop} {i : Nat} {x : Str} {v : V} {u : Value} {Q : Unit → Shared → Prop} (I : Inv X pins σ H s) (hN : X.N.Nodup) (hi : X.N[i]? = some x) (hx : Loc X.env.scope x) (r : RelV v u)
    (h : ∀ s', Inv X pins (σ.set i (some v)) H s' → Q () s') (hf : X.fn x = true ∨ X.env.scope.names.lookup x = some .local := by first | exact .inl rfl | exact .inr rfl | assumption) : wpAny M A (storeName X.env x u) Q E s :=
  store_ok2 I hN hi hx r (fun s' I' _ => h s' I') hf
/-- behind a call or a block, the state as it is -/
theorem Inv.call' {s' : Shared} {ch : List Addr} (I : Inv X pins σ H s) (ho : s'.os = s.os) (u : Un (frs X.stack) ch H H' s.heap s'.heap) (hok : HOk X.prog X.w H' s'.heap) (hg : AllBare s'.gens)
    (hch : ∀ b ∈ ch, (b ∈ X.ex ∨ X.s_0.heap.objs.size ≤ b) ∧ b ≠ X.env.locals ∧ (∀ x c, X.env.cells.lookup x = some c → c ≠ b) ∧ ∀ p ∈ X.pn ++ pins, p.1 ≠ b) : Inv X pins σ H' s' := by
  obtain ⟨h', g', d', t', o'⟩ := s'
  have e : o' = s.os := ho
  subst e
  exact I.call (g' := g') (t' := t') (d' := d') u hok hg hch
end

/-! ### the judgements -/
/-- an exception: its class, its own dict's address (where it has one), the abstract heap behind it -/
abbrev XK := Value → Option Addr → Hp → Prop
abbrev St := List (Option V)
abbrev VK := V → Hp → Prop
/-- an expression's reading; a test's; an argument list's -/
abbrev TE := St → Hp → VK → Prop
abbrev TT := St → Hp → (Bool → Hp → Prop) → Prop
abbrev TA := St → Hp → (List V → Hp → Prop) → Prop
/-- what is wanted behind a statement -/
structure Ends where
  nx : St → Hp → Prop
  rt : VK
  bk : St → Hp → Prop := fun _ _ => False
  ct : St → Hp → Prop := fun _ _ => False
abbrev TS := Ends → St → Hp → Prop

def EP (X : Cx) (pins : List (Addr × Obj)) (σ : St) (Q : VK) (u : Value) (s' : Shared) : Prop := ∃ v H', Inv X pins σ H' s' ∧ RelV v u ∧ Q v H'
def TP (X : Cx) (pins : List (Addr × Obj)) (σ : St) (Q : Bool → Hp → Prop) (b : Bool) (s' : Shared) : Prop := ∃ H', Inv X pins σ H' s' ∧ Q b H'
def AP (X : Cx) (pins : List (Addr × Obj)) (σ : St) (Q : List V → Hp → Prop) (us : List Value) (s' : Shared) : Prop := ∃ vs H', Inv X pins σ H' s' ∧ Vals vs us ∧ Q vs H'
def SP (X : Cx) (pins : List (Addr × Obj)) (D : Ends) (f : Flow) (s' : Shared) : Prop :=
  match f with
  | .next => ∃ σ' H', Inv X pins σ' H' s' ∧ D.nx σ' H'
  | .brk => ∃ σ' H', Inv X pins σ' H' s' ∧ D.bk σ' H'
  | .cont => ∃ σ' H', Inv X pins σ' H' s' ∧ D.ct σ' H'
  | .ret u => ∃ v σ' H', Inv X pins σ' H' s' ∧ RelV v u ∧ D.rt v H'

def PE (X : Cx) (e : Expr) (t : TE) : Prop :=
  ∀ (pins : List (Addr × Obj)) (s : Shared) (σ : St) (H : Hp) (Q : VK), Inv X pins σ H s → t σ H Q → wpAny (model X.prog X.w) X.A (eval e X.env) (EP X pins σ Q) X.xe s
def PT (X : Cx) (e : Expr) (t : TT) : Prop :=
  ∀ (pins : List (Addr × Obj)) (s : Shared) (σ : St) (H : Hp) (Q : Bool → Hp → Prop), Inv X pins σ H s → t σ H Q → wpAny (model X.prog X.w) X.A (isTrue e X.env (eval e X.env)) (TP X pins σ Q) X.xe s
/-- a test whatever its 'whole' is (and, or) -/
def PW (X : Cx) (e : Expr) (t : TT) : Prop :=
  ∀ (whole : Sem Value) (pins : List (Addr × Obj)) (s : Shared) (σ : St) (H : Hp) (Q : Bool → Hp → Prop), Inv X pins σ H s → t σ H Q → wpAny (model X.prog X.w) X.A (isTrue e X.env whole) (TP X pins σ Q) X.xe s
theorem PW.pt {X : Cx} {e : Expr} {t : TT} (h : PW X e t) : PT X e t := h _
/-- an argument list (no star), from the left -/
def PA (X : Cx) (es : List Expr) (t : TA) : Prop :=
  ∀ (pos : Pos) (pins : List (Addr × Obj)) (s : Shared) (σ : St) (H : Hp) (Q : List V → Hp → Prop), Inv X pins σ H s → t σ H Q → wpAny (model X.prog X.w) X.A (spliced (backTo pos (starEach es X.env))) (AP X pins σ Q) X.xe s
def PS (X : Cx) (st : Stmt) (t : TS) : Prop :=
  ∀ (pins : List (Addr × Obj)) (s : Shared) (σ : St) (H : Hp) (D : Ends), Inv X pins σ H s → t D σ H → wpAny (model X.prog X.w) X.A (exec st X.env) (SP X pins D) X.xe s
def PSs (X : Cx) (st : List Stmt) (t : TS) : Prop :=
  ∀ (pins : List (Addr × Obj)) (s : Shared) (σ : St) (H : Hp) (D : Ends), Inv X pins σ H s → t D σ H → wpAny (model X.prog X.w) X.A (execs st X.env) (SP X pins D) X.xe s
/-- weaken the end -/
theorem thn {α : Type} {t : Sem α} {Q Q' : α → Shared → Prop} {M : Model} {A : Around} {E : Value → Shared → Prop} {s : Shared} (h : wpAny M A t Q E s) (hQ : ∀ a s, Q a s → Q' a s) : wpAny M A t Q' E s := wpAny_mono h hQ fun _ _ x => x
end L2

namespace L2
open PySem PySem.Spec PyProof.Rows
section
variable {X : Cx}

/-! ### names and constants -/
def tVar (i : Nat) : TE := fun σ H Q => ∃ v, σ[i]? = some (some v) ∧ Q v H
def tC (v : V) : TE := fun _ H Q => Q v H
theorem pe_var {i : Nat} {x : Str} {pos : Pos} (hN : X.N[i]? = some x) (hv : Vis X.env.scope x) (hd : (x == ("__debug__" : Str)) = false := by decide) (hcd : (x == ("__classdict__" : Str)) = false := by decide) : PE X (.Name x pos) (tVar i) := by
  intro pins s σ H Q I h
  obtain ⟨v, e, h⟩ := h
  obtain ⟨m, hn, hl⟩ := I.loc
  obtain ⟨u, r, l⟩ := hl i x v hN e hv
  have fin : EP X pins σ Q u s := ⟨v, H, I, r, h⟩
  rcases l with ⟨hk, hm⟩ | ⟨hk, c, hc, hcell⟩
  · exact wpAny_Name (wpAny_loadName_local I.ok.kind hk hn hm fin) hd
  · rcases hk with hk | hk
    · exact wpAny_Name (wpAny_loadName_cell I.ok.kind hk hc hcell fin) hd
    · exact wpAny_Name (wpAny_loadName_free I.ok.kind hk hc hcell fin hcd) hd
theorem pe_int {i j pos} : PE X (.Constant (.int i) j pos) (tC (.int i)) := fun _ _ _ H _ I h => wpAny_Constant_int ⟨.int i, H, I.tok _, ⟨_, rfl⟩, h⟩
/-- a global name of the def -/
def Gl (X : Cx) (x : Str) : Prop := X.env.kindOf x = some .globalImplicit
theorem ld_glob {E : Value → Shared → Prop} {pins : List (Addr × Obj)} {s : Shared} {σ : St} {H : Hp} {x : Str} {u : Value} {pos : Pos} {Q : Value → Shared → Prop} (I : Inv X pins σ H s) (hg : Gl X x) (hm : X.mg x = some u) (h : Q u s)
    (hd : (x == ("__debug__" : Str)) = false := by decide) : wpAny (model X.prog X.w) X.A (eval (.Name x pos) X.env) Q E s :=
  Calls.Name_function_global I.ok.kind hg (Calls.loadGlobal_global (by rw [I.ok.glob]; exact I.mod.glob.keeps I.bk) hm h) hd
theorem ld_blt {E : Value → Shared → Prop} {pins : List (Addr × Obj)} {s : Shared} {σ : St} {H : Hp} {x : Str} {u : Value} {pos : Pos} {Q : Value → Shared → Prop} (I : Inv X pins σ H s) (hg : Gl X x) (hm : X.mg x = none) (hv : bootBuiltins x = some u) (h : Q u s)
    (hn : x ≠ "__name__" := by decide) (hd : (x == ("__debug__" : Str)) = false := by decide) : wpAny (model X.prog X.w) X.A (eval (.Name x pos) X.env) Q E s := by
  obtain ⟨mb, h1, h2⟩ := I.mod.blt
  exact Calls.Name_function_global I.ok.kind hg (Calls.loadGlobal_builtin (by rw [I.ok.glob]; exact I.mod.glob.keeps I.bk) hm (by rw [I.ok.blt]; exact h1.keeps I.bk) ((h2 x hn).trans hv) h) hd
/-- a module's constant, a class, a function, as a value -/
theorem pe_glob {x : Str} {v : V} {u : Value} {pos : Pos} (hg : Gl X x) (hm : X.mg x = some u) (r : RelV v u) (hd : (x == ("__debug__" : Str)) = false := by decide) : PE X (.Name x pos) (tC v) :=
  fun _ _ _ H _ I h => ld_glob I hg hm ⟨v, H, I, r, h⟩ hd
/-! ### arithmetic -/
variable {a b : Expr} {ta tb : TE} {pos : Pos}
/-! ### comparisons -/
/-- a comparison as a value, as a test -/
def tB (t : TE) : TT := fun σ H Q => t σ H fun x H1 => ∃ c, x = .bl c ∧ Q c H1
/-- an expression whose value is a bool, as a test -/
theorem pt_val {e : Expr} {t : TE} (h : PE X e t) (he : ∀ whole, isTrue e X.env whole = (do let v ← whole; standAt e.pos; holding [v] (truthy v)) := by intro _; rfl) : PT X e (tB t) := by
  intro pins s σ H Q I hw
  refine isTrue_plain (thn (h pins s σ H _ I hw) fun v s1 ⟨x, H1, I1, r1, q1⟩ => ?_) (he _)
  obtain ⟨d, rfl, q⟩ := q1
  cases r1
  exact wpAny_truthy_bool ⟨H1, I1, q⟩

/-! ### and, or, not -/
variable {tA tB' : TT} {rest : List Expr}
def tAnd (t u : TT) : TT := fun σ H Q => t σ H fun c H1 => if c = true then u σ H1 Q else Q false H1
def tOr (t u : TT) : TT := fun σ H Q => t σ H fun c H1 => if c = true then Q true H1 else u σ H1 Q
def tNot (t : TT) : TT := fun σ H Q => t σ H fun c H1 => Q (!c) H1
theorem pw_and1 (ha : PT X a tA) : PW X (.BoolOp .And [a] pos) tA := by
  intro wh pins s σ H Q I h
  refine isTrue_and (thn (ha pins s σ H Q I h) fun c s1 e => ?_)
  cases c with
  | true => exact isTrue_and_nil e
  | false => exact e
theorem pw_or1 (ha : PT X a tA) : PW X (.BoolOp .Or [a] pos) tA := by
  intro wh pins s σ H Q I h
  refine isTrue_or (thn (ha pins s σ H Q I h) fun c s1 e => ?_)
  cases c with
  | false => exact isTrue_or_nil e
  | true => exact e
theorem pw_and (ha : PT X a tA) (hb : PW X (.BoolOp .And (b :: rest) pos) tB') : PW X (.BoolOp .And (a :: b :: rest) pos) (tAnd tA tB') := by
  intro wh pins s σ H Q I h
  refine isTrue_and (thn (ha pins s σ H _ I h) fun c s1 ⟨H1, I1, q1⟩ => ?_)
  cases c with
  | true => exact hb wh pins s1 σ H1 Q I1 q1
  | false => exact ⟨H1, I1, q1⟩
theorem pw_or (ha : PT X a tA) (hb : PW X (.BoolOp .Or (b :: rest) pos) tB') : PW X (.BoolOp .Or (a :: b :: rest) pos) (tOr tA tB') := by
  intro wh pins s σ H Q I h
  refine isTrue_or (thn (ha pins s σ H _ I h) fun c s1 ⟨H1, I1, q1⟩ => ?_)
  cases c with
  | true => exact ⟨H1, I1, q1⟩
  | false => exact hb wh pins s1 σ H1 Q I1 q1
theorem pt_not (ha : PT X a tA) : PT X (.UnaryOp .Not a pos) (tNot tA) := by
  intro pins s σ H Q I h
  exact isTrue_not (ha pins s σ H (fun c H1 => Q (!c) H1) I h)
/-- .. as values (bools) -/
def tAndV (ta tb : TE) : TE := fun σ H Q => ta σ H fun x H1 => ∃ c, x = .bl c ∧ if c = true then tb σ H1 Q else Q (.bl false) H1
def tOrV (ta tb : TE) : TE := fun σ H Q => ta σ H fun x H1 => ∃ c, x = .bl c ∧ if c = true then Q (.bl true) H1 else tb σ H1 Q
def tNotV (ta : TE) : TE := fun σ H Q => ta σ H fun x H1 => ∃ c, x = .bl c ∧ Q (.bl (!c)) H1
theorem pe_one {op} {t : TE} (h : PE X a t) : PE X (.BoolOp op [a] pos) t := fun pins s σ H Q I hw => BoolOp_one (h pins s σ H Q I hw)
theorem pe_and (ha : PE X a ta) (hb : PE X (.BoolOp .And (b :: rest) pos) tb) : PE X (.BoolOp .And (a :: b :: rest) pos) (tAndV ta tb) := by
  intro pins s σ H Q I h
  refine BoolOp_and (thn (ha pins s σ H _ I h) fun v s1 ⟨x, H1, I1, r1, q1⟩ => ?_)
  obtain ⟨c, rfl, q1⟩ := q1
  cases r1
  refine wpAny_truthy_bool ?_
  cases c with
  | true => exact hb pins s1 σ H1 Q I1 q1
  | false => exact ⟨.bl false, H1, I1, rfl, q1⟩
theorem pe_or (ha : PE X a ta) (hb : PE X (.BoolOp .Or (b :: rest) pos) tb) : PE X (.BoolOp .Or (a :: b :: rest) pos) (tOrV ta tb) := by
  intro pins s σ H Q I h
  refine BoolOp_or (thn (ha pins s σ H _ I h) fun v s1 ⟨x, H1, I1, r1, q1⟩ => ?_)
  obtain ⟨c, rfl, q1⟩ := q1
  cases r1
  refine wpAny_truthy_bool ?_
  cases c with
  | false => exact hb pins s1 σ H1 Q I1 q1
  | true => exact ⟨.bl true, H1, I1, rfl, q1⟩
theorem pe_not (ha : PE X a ta) : PE X (.UnaryOp .Not a pos) (tNotV ta) := by
  intro pins s σ H Q I h
  refine UnaryOp_ (thn (ha pins s σ H _ I h) fun v s1 ⟨x, H1, I1, r1, q1⟩ => ?_)
  obtain ⟨c, rfl, q1⟩ := q1
  cases r1
  exact not_of (wpAny_truthy_bool ⟨.bl (!c), H1, I1, rfl, q1⟩)
/-- a if t else b -/
def tIf (t : TT) (ta tb : TE) : TE := fun σ H Q => t σ H fun c H1 => if c = true then ta σ H1 Q else tb σ H1 Q
theorem pe_ifExp {c : Expr} (hc : PT X c tA) (ha : PE X a ta) (hb : PE X b tb) : PE X (.IfExp c a b pos) (tIf tA ta tb) := by
  intro pins s σ H Q I h
  refine wpAny_IfExp (thn (hc pins s σ H _ I h) fun d s1 ⟨H1, I1, q1⟩ => ?_)
  cases d with
  | true => exact ha pins s1 σ H1 Q I1 q1
  | false => exact hb pins s1 σ H1 Q I1 q1
end
end L2

namespace L2
open PySem PySem.Spec PyProof.Rows

/-! ### a list, a tuple that is read: tracked, frozen, or an object of the module -/
def SqL (K : PySem.W.Frag) (H : Hp) (a : Addr) (xs : List V) : Prop :=
  Rd H a (.lst xs) ∨
    ∃ (o : Obj) (its : Array Value) (n : Nat), K.lookup a = some o ∧ o.cls = .type "list" ∧ o.dict = none ∧ o.data = .seq its n ∧ its.size ≤ sizeLine ∧ Vals xs its.toList
def SqT (K : PySem.W.Frag) (H : Hp) (a : Addr) (xs : List V) : Prop :=
  Rd H a (.tup xs) ∨
    ∃ (o : Obj) (its : Array Value) (n : Nat), K.lookup a = some o ∧ o.cls = .type "tuple" ∧ o.data = .seq its n ∧ its.size ≤ sizeLine ∧ Vals xs its.toList
def absV : Value → Option V
  | .none => some .non
  | .bool b => some (.bl b)
  | .int i _ => some (.int i)
  | .str x _ => some (.str x)
  | .bytes b _ => some (.byt b)
  | .float b _ => some (.flt b)
  | .ref a => some (.ref a)
  | .type n => some (.ty n)
  | _ => none
theorem RelV.abs {x : V} {u : Value} (r : RelV x u) : absV u = some x := by
  cases x with
  | non => cases r; rfl
  | bl _ => cases r; rfl
  | int _ => obtain ⟨t, rfl⟩ := r; rfl
  | str _ => obtain ⟨t, rfl⟩ := r; rfl
  | byt _ => obtain ⟨t, rfl⟩ := r; rfl
  | flt _ => obtain ⟨t, rfl⟩ := r; rfl
  | ref _ => cases r; rfl
  | ty _ => cases r; rfl
theorem RelV.inj {x y : V} {u : Value} (r : RelV x u) (q : RelV y u) : x = y := Option.some.inj (r.abs.symm.trans q.abs)
theorem Vals.inj : ∀ {xs ys : List V} {us : List Value}, Vals xs us → Vals ys us → xs = ys
  | _, _, _, .nil, .nil => rfl
  | _, _, _, .cons r t, .cons r' t' => by rw [r.inj r', Vals.inj t t']
section
variable {X : Cx} {pins : List (Addr × Obj)} {σ : St} {H : Hp} {s : Shared} {a : Addr} {xs ys : List V}
theorem SqL.of {K : PySem.W.Frag} (h : H a = some (.lst xs)) : SqL K H a xs := .inl (.inl h)
theorem SqT.of {K : PySem.W.Frag} (h : H a = some (.tup xs)) : SqT K H a xs := .inl (.inl h)
theorem Inv.list (I : Inv X pins σ H s) (h : SqL X.K H a xs) : ∃ its : List Value, Vals xs its ∧ PlainL s.heap a its.toArray ∧ xs.length ≤ sizeLine := by
  rcases h with h | ⟨o, its, n, hk, hc, hd, hs, hz, r⟩
  · obtain ⟨z, its, n, r, e⟩ := h.ok I.hok
    exact ⟨its, r, ⟨_, n, e, rfl, rfl, rfl⟩, z⟩
  · refine ⟨its.toList, r, ⟨o, n, I.kIn a o hk, hc, hd, by simpa using hs⟩, ?_⟩
    have e := r.length
    simp only [Array.length_toList] at e
    omega
theorem Inv.tuple (I : Inv X pins σ H s) (h : SqT X.K H a xs) : ∃ its : List Value, Vals xs its ∧ IsTup s.heap a its.toArray ∧ xs.length ≤ sizeLine := by
  rcases h with h | ⟨o, its, n, hk, hc, hs, hz, r⟩
  · obtain ⟨z, its, r, p⟩ := h.ok I.hok
    exact ⟨its, r, p, z⟩
  · refine ⟨its.toList, r, ⟨o, I.kIn a o hk, hc, n, by simpa using hs⟩, ?_⟩
    have e := r.length
    simp only [Array.length_toList] at e
    omega
theorem Inv.list_inj (I : Inv X pins σ H s) (h : SqL X.K H a xs) (h' : SqL X.K H a ys) : xs = ys := by
  obtain ⟨its, r, ⟨o, n, e, _, _, d⟩, _⟩ := I.list h
  obtain ⟨its', r', ⟨o', n', e', _, _, d'⟩, _⟩ := I.list h'
  rw [e] at e'; cases e'
  rw [d] at d'
  injection d' with d1 _
  have : its = its' := by simpa using congrArg Array.toList d1
  subst this
  exact r.inj r'
theorem Inv.tuple_inj (I : Inv X pins σ H s) (h : SqT X.K H a xs) (h' : SqT X.K H a ys) : xs = ys := by
  obtain ⟨its, r, ⟨o, e, _, n, d⟩, _⟩ := I.tuple h
  obtain ⟨its', r', ⟨o', e', _, n', d'⟩, _⟩ := I.tuple h'
  rw [e] at e'; cases e'
  rw [d] at d'
  injection d' with d1 _
  have : its = its' := by simpa using congrArg Array.toList d1
  subst this
  exact r.inj r'
end

/-! ### another wish about exceptions -/
abbrev Cx.wish (X : Cx) (E : Value → Shared → Prop) : Cx := { X with xe := E }
/-- no exception leaves -/
abbrev Cx.nox (X : Cx) : Cx := X.wish fun _ _ => False
theorem Cx.Ok.wish {X : Cx} (ok : X.Ok) (E : Value → Shared → Prop) : (X.wish E).Ok :=
  ⟨ok.mod, ok.kind, ok.glob, ok.blt, ok.above, ok.inj, ok.has, ok.cab, ok.hd, ok.frames, ok.stk, ok.exf, ok.bs, ok.bsz, ok.noex, ok.exfs, ok.funs, ok.frf⟩
theorem Cx.Ok.unwish {X : Cx} {E : Value → Shared → Prop} (ok : (X.wish E).Ok) : X.Ok :=
  ⟨ok.mod, ok.kind, ok.glob, ok.blt, ok.above, ok.inj, ok.has, ok.cab, ok.hd, ok.frames, ok.stk, ok.exf, ok.bs, ok.bsz, ok.noex, ok.exfs, ok.funs, ok.frf⟩
section
variable {X : Cx} {pins : List (Addr × Obj)} {σ : St} {H : Hp} {s : Shared} {E : Value → Shared → Prop}
theorem Inv.wish (I : Inv X pins σ H s) (E : Value → Shared → Prop) : Inv (X.wish E) pins σ H s := ⟨I.ok.wish E, I.os, I.bare, I.base, I.loc, I.cell, I.free, I.freeC, I.pin, I.hok, I.len⟩
theorem Inv.unwish (I : Inv (X.wish E) pins σ H s) : Inv X pins σ H s := ⟨I.ok.unwish, I.os, I.bare, I.base, I.loc, I.cell, I.free, I.freeC, I.pin, I.hok, I.len⟩
theorem SP.unwish {D : Ends} {f : Flow} {s' : Shared} (h : SP (X.wish E) pins D f s') : SP X pins D f s' := by
  cases f with
  | next => obtain ⟨σ', H', I, q⟩ := h; exact ⟨σ', H', I.unwish, q⟩
  | brk => obtain ⟨σ', H', I, q⟩ := h; exact ⟨σ', H', I.unwish, q⟩
  | cont => obtain ⟨σ', H', I, q⟩ := h; exact ⟨σ', H', I.unwish, q⟩
  | ret u => obtain ⟨v, σ', H', I, r, q⟩ := h; exact ⟨v, σ', H', I.unwish, r, q⟩
theorem PE.nox {e : Expr} {t : TE} (h : PE X.nox e t) : PE X e t := fun pins s σ H Q I hw =>
  wpAny_mono (h pins s σ H Q (I.wish _) hw) (fun _ _ ⟨v, H', I', r, q⟩ => ⟨v, H', I'.unwish, r, q⟩) fun _ _ z => False.elim z
theorem PT.nox {e : Expr} {t : TT} (h : PT X.nox e t) : PT X e t := fun pins s σ H Q I hw =>
  wpAny_mono (h pins s σ H Q (I.wish _) hw) (fun _ _ ⟨H', I', q⟩ => ⟨H', I'.unwish, q⟩) fun _ _ z => False.elim z
theorem PSs.nox {st : List Stmt} {t : TS} (h : PSs X.nox st t) : PSs X st t := fun pins s σ H D I hw =>
  wpAny_mono (h pins s σ H D (I.wish _) hw) (fun _ _ q => q.unwish) fun _ _ z => False.elim z
end

/-! ### blocks and small statements -/
section
variable {X : Cx} {st : Stmt} {rest : List Stmt} {t u : TS} {e : Expr} {te : TE} {pos : Pos}
def tNext : TS := fun D σ H => D.nx σ H
def tSeq (t u : TS) : TS := fun D σ H => t { D with nx := u D } σ H
theorem pss_nil : PSs X [] tNext := fun _ _ σ H _ I h => wpAny_execs_nil ⟨σ, H, I, h⟩
theorem pss_cons (h1 : PS X st t) (h2 : PSs X rest u) : PSs X (st :: rest) (tSeq t u) := by
  intro pins s σ H D I h
  refine wpAny_execs_cons (thn (h1 pins s σ H { D with nx := u D } I h) fun f s1 q => ?_)
  cases f with
  | next =>
    obtain ⟨σ', H', I', q⟩ := q
    exact h2 pins s1 σ' H' D I' q
  | ret v => exact q
  | brk => exact q
  | cont => exact q
theorem pss_one (h1 : PS X st t) : PSs X [st] t := by
  intro pins s σ H D I h
  refine wpAny_execs_cons (thn (h1 pins s σ H D I h) fun f s1 q => ?_)
  cases f with
  | next => exact wpAny_execs_nil q
  | ret v => exact q
  | brk => exact q
  | cont => exact q
/-- in a def's body nothing is shown -/
theorem Inv.quiet {pins : List (Addr × Obj)} {σ : St} {H : Hp} {s : Shared} (I : Inv X pins σ H s) : interactive X.env = false := by simp [interactive, I.ok.kind]
/-- an expression whose value is dropped -/
def tDrop (te : TE) : TS := fun D σ H => te σ H fun _ H1 => D.nx σ H1
theorem ps_expr (he : PE X e te) (hs : swapsWith e none pos.line X.env = pure false := by rfl) : PS X (.Expr e pos) (tDrop te) := by
  intro pins s σ H D I h
  exact wpAny_Expr_any (thn (he pins s σ H _ I h) fun v s1 ⟨x, H1, I1, r1, q1⟩ => ⟨σ, H1, I1, q1⟩) I.quiet hs
def tRet (te : TE) : TS := fun D σ H => te σ H D.rt
theorem ps_ret (he : PE X e te) : PS X (.Return (some e) pos) (tRet te) := by
  intro pins s σ H D I h
  exact wpAny_Return_some (thn (he pins s σ H _ I h) fun v s1 ⟨x, H1, I1, r1, q1⟩ => ⟨x, σ, H1, I1, r1, q1⟩)
def tIfS (c : TT) (t u : TS) : TS := fun D σ H => c σ H fun b H1 => if b = true then t D σ H1 else u D σ H1
theorem ps_if {c : Expr} {a b : List Stmt} {tc : TT} (hc : PT X c tc) (ha : PSs X a t) (hb : PSs X b u) : PS X (.If c a b pos) (tIfS tc t u) := by
  intro pins s σ H D I h
  refine wpAny_If (thn (hc pins s σ H _ I h) fun d s1 ⟨H1, I1, q1⟩ => ?_)
  cases d with
  | true => exact ha pins s1 σ H1 D I1 q1
  | false => exact hb pins s1 σ H1 D I1 q1
end

/-! ### targets -/
abbrev TG := V → St → Hp → (St → Hp → Prop) → Prop
def PG (X : Cx) (target : Expr) (t : TG) : Prop :=
  ∀ (pins : List (Addr × Obj)) (s : Shared) (σ : St) (H : Hp) (v : V) (u : Value) (Q : St → Hp → Prop), Inv X pins σ H s → RelV v u → t v σ H Q →
    wpAny (model X.prog X.w) X.A (assign target X.env u) (fun _ s' => ∃ σ' H', Inv X pins σ' H' s' ∧ Q σ' H') X.xe s
/-- a op= b, by values -/
abbrev TIp := V → V → Hp → VK → Prop
def PIp (X : Cx) (op : Operator) (t : TIp) : Prop :=
  ∀ (pins : List (Addr × Obj)) (s : Shared) (σ : St) (H : Hp) (x y : V) (v u : Value) (Q : VK), Inv X pins σ H s → RelV x v → RelV y u → t x y H Q →
    wpAny (model X.prog X.w) X.A (inplaceOp op v u) (EP X pins σ Q) X.xe s
section
variable {X : Cx} {pos : Pos}
def gName (i : Nat) : TG := fun v σ H Q => Q (σ.set i (some v)) H
theorem pg_name {i : Nat} {x : Str} (hN : X.N.Nodup) (hi : X.N[i]? = some x) (hx : Loc X.env.scope x) (hf : X.fn x = true ∨ X.env.scope.names.lookup x = some .local := by first | exact .inl rfl | exact .inr rfl | assumption) : PG X (.Name x pos) (gName i) := by
  intro pins s σ H v u Q I r h
  exact wpAny_assign_Name (store_ok I hN hi hx r (fun s' I' => ⟨_, H, I', h⟩) hf)
/-- target = value -/
def tAsg (te : TE) (g : TG) : TS := fun D σ H => te σ H fun x H1 => g x σ H1 D.nx
/-- name = value -/
theorem ps_set {i : Nat} {x : Str} {e : Expr} {te : TE} {pos' : Pos} (hN : X.N.Nodup) (hi : X.N[i]? = some x) (hx : Loc X.env.scope x) (he : PE X e te) (hs : swapsWith e (some (.Name x pos')) pos.line X.env = pure false := by rfl) (hf : X.fn x = true ∨ X.env.scope.names.lookup x = some .local := by first | exact .inl rfl | exact .inr rfl | assumption) :
    PS X (.Assign [.Name x pos'] e pos) (tAsg te (gName i)) := by
  intro pins s σ H D I h
  refine wpAny_Assign_Name (thn (he pins s σ H _ I h) fun v s1 ⟨y, H1, I1, r1, q1⟩ => ?_) hs
  exact store_ok I1 hN hi hx r1 (fun s2 I2 => ⟨_, H1, I2, q1⟩) hf
/-- name op= e -/
def tAug (i : Nat) (te : TE) (ti : TIp) : TS := fun D σ H => ∃ x, σ[i]? = some (some x) ∧ te σ H fun y H1 => ti x y H1 fun z H2 => D.nx (σ.set i (some z)) H2
theorem ps_aug {i : Nat} {x : Str} {e : Expr} {te : TE} {op : Operator} {ti : TIp} {pos' : Pos} (hN : X.N.Nodup) (hi : X.N[i]? = some x) (hx : Loc X.env.scope x) (he : PE X e te) (ho : PIp X op ti) (hf : X.fn x = true ∨ X.env.scope.names.lookup x = some .local := by first | exact .inl rfl | exact .inr rfl | assumption) :
    PS X (.AugAssign (.Name x pos') op e pos) (tAug i te ti) := by
  intro pins s σ H D I h
  obtain ⟨v, e1, h⟩ := h
  obtain ⟨m, hn, hl⟩ := I.loc
  have vis : Vis X.env.scope x := by rcases hx with k | k; exact .inl k; exact .inr (.inl k)
  obtain ⟨u, r, l⟩ := hl i x v hi e1 vis
  refine wpAny_AugAssign_Name ?_
  have go : wpAny (model X.prog X.w) X.A (eval e X.env) (fun w s₂ => wpAny (model X.prog X.w) X.A (inplaceOp op u w) (fun r s₃ => wpAny (model X.prog X.w) X.A (storeName X.env x r) (fun _ => SP X pins D .next) X.xe s₃) X.xe s₂) X.xe s := by
    refine thn (he pins s σ H _ I h) fun w s1 ⟨y, H1, I1, r1, q1⟩ => ?_
    refine thn (ho pins s1 σ H1 v y u w _ I1 r r1 q1) fun z s2 ⟨zv, H2, I2, r2, q2⟩ => ?_
    exact store_ok I2 hN hi hx r2 (fun s3 I3 => ⟨_, H2, I3, q2⟩) hf
  rcases l with ⟨hk, hm⟩ | ⟨hk, c, hc, hcell⟩
  · exact wpAny_loadName_local I.ok.kind hk hn hm go
  · rcases hk with hk | hk
    · exact wpAny_loadName_cell I.ok.kind hk hc hcell go
    · rcases hx with k | k
      · have : X.env.scope.names.lookup x = some .free := hk
        rw [k] at this; cases this
      · have : X.env.scope.names.lookup x = some .free := hk
        rw [k] at this; cases this
/-- ints -/
def ipI (f : Int → Int → Int) : TIp := fun x y H Q => ∃ i j, x = .int i ∧ y = .int j ∧ Q (.int (f i j)) H
theorem ip_add : PIp X .Add (ipI fun i j => i + j) := by
  intro pins s σ H x y v u Q I r1 r2 h
  obtain ⟨i, j, e1, e2, q⟩ := h
  subst e1; subst e2
  obtain ⟨t, rfl⟩ := r1
  obtain ⟨t', rfl⟩ := r2
  exact iadd_int ⟨.int _, H, I.tok _, ⟨_, rfl⟩, q⟩
end

/-! ### while -/
section
variable {X : Cx} {pos : Pos}
end

/-! ### what a loop or a comprehension walks -/
/-- at turn i: it yields x (the heap may grow), or it stops -/
structure It where
  go : Nat → Hp → Prop
  yld : Nat → Hp → V → Hp → Prop
  stop : Nat → Hp → Prop
/-- the iterator's own objects may turn: they are not the frame's, not pinned, younger than the entry (or a comprehension's own) -/
def FpOk (X : Cx) (pins : List (Addr × Obj)) (H : Hp) (b : Addr) : Prop :=
  H b = none ∧ b ≠ X.env.locals ∧ b ∉ X.fs ∧ (b ∈ X.ex ∨ X.s_0.heap.objs.size ≤ b) ∧ (∀ x c, X.env.cells.lookup x = some c → c ≠ b) ∧ ∀ p ∈ X.pn ++ pins, p.1 ≠ b
theorem Inv.fpOk {X : Cx} {pins : List (Addr × Obj)} {σ : St} {H H' : Hp} {s : Shared} {b : Addr} (I : Inv X pins σ H s) (hb : s.heap.objs.size ≤ b) (hn : H' b = none) : FpOk X pins H' b := by
  refine ⟨hn, Nat.ne_of_gt (Nat.lt_of_lt_of_le I.lt hb), I.nofs hb, .inr (Nat.le_trans I.sz hb), fun x c e z => ?_, fun p hp z => ?_⟩
  · obtain ⟨v, q⟩ := I.cell x c e
    exact absurd (Nat.lt_of_lt_of_le q.lt (by rw [z]; exact hb)) (Nat.lt_irrefl _)
  · exact absurd (Nat.lt_of_lt_of_le (Heap.lt_size (I.pin p hp).1) (by rw [z]; exact hb)) (Nat.lt_irrefl _)
structure Turn (P : Program) (w : World) (K : PySem.W.Frag) (tg : Expr) (J : It) (fp : List Addr) (it : Addr) (tn : Nat → Heap → Prop) : Prop where
  mem : it ∈ fp
  obj : ∀ i h, tn i h → ∀ b ∈ fp, ∃ o, h.get? b = some o ∧ ∀ v, o.data ≠ .cell v
  keep : ∀ i h h', tn i h → (∀ b ∈ fp, ∀ o, h.get? b = some o → h'.get? b = some o) → tn i h'
  item : ∀ (X : Cx), X.prog = P → X.w = w → X.K = K → X.calm = true → ∀ (i : Nat) (pins : List (Addr × Obj)) (s : Shared) (σ : St) (H : Hp) (E : Value → Shared → Prop), Inv X pins σ H s → (∀ b ∈ fp, FpOk X pins H b) → tn i s.heap → J.go i H →
    wpAny (model P w) X.A (pyNext (.ref it)) (fun r s1 => ∃ u, r = some u ∧
      wpAny (model P w) X.A (letOwnedTupleGo tg (.ref it) u) (fun _ s2 => ∃ x H', Inv X pins σ H' s2 ∧ RelV x u ∧ J.yld i H x H' ∧ tn (i + 1) s2.heap ∧ ∀ b ∈ fp, H' b = none) E s1) E s
  done : ∀ (X : Cx), X.prog = P → X.w = w → X.K = K → X.calm = true → ∀ (i : Nat) (pins : List (Addr × Obj)) (s : Shared) (σ : St) (H : Hp) (E : Value → Shared → Prop), Inv X pins σ H s → (∀ b ∈ fp, FpOk X pins H b) → tn i s.heap → J.stop i H →
    wpAny (model P w) X.A (pyNext (.ref it)) (fun r s1 => r = none ∧ Inv X pins σ H s1) E s
  self : ∀ (A : Around) (i : Nat) (s : Shared) (Q : Value → Shared → Prop) (E : Value → Shared → Prop), tn i s.heap → Q (.ref it) s → wpAny (model P w) A (pyIter (.ref it)) Q E s
abbrev TI := St → Hp → (It → Hp → Prop) → Prop
/-- an iterator has come -/
def PIE (X : Cx) (pins : List (Addr × Obj)) (σ : St) (tg : Expr) (R : It → Hp → Prop) (itv : Value) (s2 : Shared) : Prop :=
  ∃ (it : Addr) (fp : List Addr) (tn : Nat → Heap → Prop) (J : It) (H' : Hp), itv = .ref it ∧ Inv X pins σ H' s2 ∧ Turn X.prog X.w X.K tg J fp it tn ∧ tn 0 s2.heap ∧ (∀ b ∈ fp, FpOk X pins H' b) ∧ R J H'
def PI (X : Cx) (tg iter : Expr) (wi : TI) : Prop :=
  ∀ (pins : List (Addr × Obj)) (s : Shared) (σ : St) (H : Hp) (R : It → Hp → Prop), Inv X pins σ H s → wi σ H R →
    wpAny (model X.prog X.w) X.A (eval iter X.env) (fun v s1 => wpAny (model X.prog X.w) X.A (pyIter v) (PIE X pins σ tg R) X.xe s1) X.xe s

/-- the step ahead of the store is nothing for an iterator that keeps no tuple -/
theorem go_of {M : Model} {A : Around} {E : Value → Shared → Prop} {s : Shared} {tg : Expr} {it : Addr} {u : Value} {o : Obj} {n : String} {vs : Array Value} {Q : Unit → Shared → Prop} (ho : s.heap.get? it = some o) (hc : o.cls = .type n) (hd : o.data = .fields vs)
    (hn : ["enumerate", "zip", "dict_itemiterator", "dict_reverseitemiterator", "odict_iterator", "itertools.zip_longest", "itertools.pairwise"].contains n = false) (hQ : Q () s) : wpAny M A (letOwnedTupleGo tg (.ref it) u) Q E s := by
  unfold letOwnedTupleGo
  cases tg <;> first
    | exact wpAny_pure hQ
    | (cases u <;> first
        | exact wpAny_pure hQ
        | (refine wpAny_bind (wpAny_load ho ?_)
           rw [hc, hd]
           show wpAny M A (if (["enumerate", "zip", "dict_itemiterator", "dict_reverseitemiterator", "odict_iterator", "itertools.zip_longest", "itertools.pairwise"].contains n && vs[0]? == some (rawInt _)) = true then _ else _) Q E s
           rw [if_neg (by intro h; rw [hn, Bool.false_and] at h; cases h)]
           exact wpAny_pure hQ))

/-- the list at a, as it stands at each turn (a loop may append to it) -/
def Itl (K : PySem.W.Frag) (a : Addr) : It :=
  ⟨fun i H => ∃ xs x, SqL K H a xs ∧ xs[i]? = some x, fun i H x H' => H' = H ∧ ∀ xs, SqL K H a xs → xs[i]? = some x, fun i H => ∃ xs, SqL K H a xs ∧ xs.length ≤ i⟩
def Itt (K : PySem.W.Frag) (a : Addr) : It :=
  ⟨fun i H => ∃ xs x, SqT K H a xs ∧ xs[i]? = some x, fun i H x H' => H' = H ∧ ∀ xs, SqT K H a xs → xs[i]? = some x, fun i H => ∃ xs, SqT K H a xs ∧ xs.length ≤ i⟩
/-- lo, lo + 1, .. (n of them) -/
def Itr (lo : Int) (n : Nat) : It := ⟨fun i _ => i < n, fun i H x H' => H' = H ∧ x = .int (lo + i), fun i _ => n ≤ i⟩
theorem turn_list {P : Program} {w : World} {K : PySem.W.Frag} {tg : Expr} (a it : Addr) : Turn P w K tg (Itl K a) [it] it (fun i h => h.IsListIter it a i) where
  mem := by simp
  obj := fun i h st b hb => by
    have e : b = it := by simpa using hb
    subst e
    obtain ⟨o, e, c, d⟩ := st
    exact ⟨o, e, fun v z => by rw [d] at z; cases z⟩
  keep := fun i h h' st k => st.at fun o e => k it (by simp) o e
  item := by
    intro X hP hw hK hc i pins s σ H E I hf st hg
    subst hP hw hK
    obtain ⟨xs, x, hq, hx⟩ := hg
    obtain ⟨its, rv, p, hz⟩ := I.list hq
    obtain ⟨u, hu, ru⟩ := rv.get hx
    obtain ⟨f0, f1, f2, f3, f4, f5⟩ := hf it (by simp)
    refine wpAny_pyNext_list_item st p.isList (x := u) (by simpa using hu) fun h' st' sb => ?_
    have I1 : Inv X pins σ H { s with heap := h' } := I.turned (t' := s.toks) (fun b o hb e => (sb.2 b hb).trans e) f0 f1 f3 f4 f5
    obtain ⟨o, e, c, d⟩ := id st'
    exact ⟨u, rfl, go_of (s := { s with heap := h' }) e c d (by decide) ⟨x, H, I1, ru, ⟨rfl, fun ys hy => by rw [I.list_inj hy hq]; exact hx⟩, st', fun b hb => (hf b hb).1⟩⟩
  done := by
    intro X hP hw hK hc i pins s σ H E I hf st hg
    subst hP hw hK
    obtain ⟨xs, hq, hx⟩ := hg
    obtain ⟨its, rv, p, hz⟩ := I.list hq
    obtain ⟨f0, f1, f2, f3, f4, f5⟩ := hf it (by simp)
    have hl := rv.length
    exact wpAny_pyNext_list_end (I.ok.hd hc) st p.isList (by simp; omega) fun h' eb => ⟨rfl, I.turned (t' := s.toks) (fun b o hb e => eb b o hb e) f0 f1 f3 f4 f5⟩
  self := fun _ _ _ _ _ st h => wpAny_pyIter_listiter st h
theorem turn_tuple {P : Program} {w : World} {K : PySem.W.Frag} {tg : Expr} (a it : Addr) : Turn P w K tg (Itt K a) [it] it (fun i h => h.IsTupleIter it a i) where
  mem := by simp
  obj := fun i h st b hb => by
    have e : b = it := by simpa using hb
    subst e
    obtain ⟨o, e, c, d⟩ := st
    exact ⟨o, e, fun v z => by rw [d] at z; cases z⟩
  keep := fun i h h' st k => st.at fun o e => k it (by simp) o e
  item := by
    intro X hP hw hK hc i pins s σ H E I hf st hg
    subst hP hw hK
    obtain ⟨xs, x, hq, hx⟩ := hg
    obtain ⟨its, rv, p, hz⟩ := I.tuple hq
    obtain ⟨u, hu, ru⟩ := rv.get hx
    obtain ⟨f0, f1, f2, f3, f4, f5⟩ := hf it (by simp)
    refine wpAny_pyNext_tuple_item st (show s.heap.IsTuple a its.toArray from p) (x := u) (by simpa using hu) fun h' st' sb => ?_
    have I1 : Inv X pins σ H { s with heap := h' } := I.turned (t' := s.toks) (fun b o hb e => (sb.2 b hb).trans e) f0 f1 f3 f4 f5
    obtain ⟨o, e, c, d⟩ := id st'
    exact ⟨u, rfl, go_of (s := { s with heap := h' }) e c d (by decide) ⟨x, H, I1, ru, ⟨rfl, fun ys hy => by rw [I.tuple_inj hy hq]; exact hx⟩, st', fun b hb => (hf b hb).1⟩⟩
  done := by
    intro X hP hw hK hc i pins s σ H E I hf st hg
    subst hP hw hK
    obtain ⟨xs, hq, hx⟩ := hg
    obtain ⟨its, rv, p, hz⟩ := I.tuple hq
    obtain ⟨f0, f1, f2, f3, f4, f5⟩ := hf it (by simp)
    have hl := rv.length
    exact wpAny_pyNext_tuple_end (I.ok.hd hc) st (show s.heap.IsTuple a its.toArray from p) (by simp; omega) fun h' eb => ⟨rfl, I.turned (t' := s.toks) (fun b o hb e => eb b o hb e) f0 f1 f3 f4 f5⟩
  self := fun _ _ _ _ _ st h => wpAny_pyIter_tupleiter st h
theorem turn_range {P : Program} {w : World} {K : PySem.W.Frag} {tg : Expr} (it : Addr) (lo : Int) (n : Nat) : Turn P w K tg (Itr lo n) [it] it (fun i h => IsRangeIter h it (lo + (i : Nat) * 1) ((n : Int) - (i : Nat)) 1) where
  mem := by simp
  obj := fun i h st b hb => by
    have e : b = it := by simpa using hb
    subst e
    exact ⟨_, st, fun v z => by
      have z' : Data.fields _ = Data.cell v := z
      cases z'⟩
  keep := fun i h h' st k => k it (by simp) _ st
  item := by
    intro X hP hw hK hc i pins s σ H E I hf st hg
    subst hP hw hK
    obtain ⟨f0, f1, f2, f3, f4, f5⟩ := hf it (by simp)
    have W := Walks.range (prog := X.prog) (w := X.w) (I.ok.hd hc) it lo 1 n
    refine W.item i s _ _ hg st fun v h' tk hv st' kk => ?_
    obtain ⟨t, rfl⟩ := hv
    have I1 : Inv X pins σ H { s with heap := h', toks := tk } := I.turned (fun b o hb e => kk b o (by simpa using hb) e) f0 f1 f3 f4 f5
    refine ⟨_, rfl, go_of (s := { s with heap := h', toks := tk }) (n := "range_iterator") st' rfl rfl (by decide) ⟨.int (lo + i), H, I1, ⟨t, ?_⟩, ⟨rfl, rfl⟩, st', fun b hb => (hf b hb).1⟩⟩
    rw [Int.mul_one]
  done := by
    intro X hP hw hK hc i pins s σ H E I hf st hg
    subst hP hw hK
    obtain ⟨f0, f1, f2, f3, f4, f5⟩ := hf it (by simp)
    exact wpAny_pyNext_range_end (I.ok.hd hc) st (by have : n ≤ i := hg; omega) fun h' eb => ⟨rfl, I.turned (t' := s.toks) (fun b o hb e => eb b o hb e) f0 f1 f3 f4 f5⟩
  self := fun _ _ _ _ _ st h => wpAny_pyIter_rangeiter st h
end L2

namespace L2
open PySem PySem.Spec PyProof.Rows
section
variable {X : Cx} {tg : Expr}
def iList (K : PySem.W.Frag) (tl : TE) : TI := fun σ H R => tl σ H fun x H1 => ∃ a, x = .ref a ∧ (∃ xs, SqL K H1 a xs) ∧ R (Itl K a) H1
def iTup (K : PySem.W.Frag) (tl : TE) : TI := fun σ H R => tl σ H fun x H1 => ∃ a, x = .ref a ∧ (∃ xs, SqT K H1 a xs) ∧ R (Itt K a) H1
theorem pi_list {l : Expr} {tl : TE} (hl : PE X l tl) : PI X tg l (iList X.K tl) := by
  intro pins s σ H R I h
  refine thn (hl pins s σ H _ I h) fun v s1 ⟨x, H1, I1, r1, q1⟩ => ?_
  obtain ⟨a, e, ⟨xs, hq⟩, q⟩ := q1
  subst e
  cases r1
  obtain ⟨its, rv, p, hz⟩ := I1.list hq
  refine wpAny_pyIter_list p.isList ?_
  refine ⟨s1.heap.objs.size, [s1.heap.objs.size], _, _, H1, rfl, I1.kept (t' := s1.toks) fun b o e => Heap.get?_push_of_some _ e, turn_list a _, ⟨_, Heap.get?_push_size _ rfl, rfl, rfl⟩, fun b hb => ?_, q⟩
  have e : b = s1.heap.objs.size := by simpa using hb
  subst e
  exact I1.fpOk (Nat.le_refl _) (I1.hok.fresh (Nat.le_refl _))
theorem pi_tup {l : Expr} {tl : TE} (hl : PE X l tl) : PI X tg l (iTup X.K tl) := by
  intro pins s σ H R I h
  refine thn (hl pins s σ H _ I h) fun v s1 ⟨x, H1, I1, r1, q1⟩ => ?_
  obtain ⟨a, e, ⟨xs, hq⟩, q⟩ := q1
  subst e
  cases r1
  obtain ⟨its, rv, p, hz⟩ := I1.tuple hq
  refine wpAny_pyIter_tuple (show s1.heap.IsTuple a its.toArray from p) ?_
  refine ⟨s1.heap.objs.size, [s1.heap.objs.size], _, _, H1, rfl, I1.kept (t' := s1.toks) fun b o e => Heap.get?_push_of_some _ e, turn_tuple a _, ⟨_, Heap.get?_push_size _ rfl, rfl, rfl⟩, fun b hb => ?_, q⟩
  have e : b = s1.heap.objs.size := by simpa using hb
  subst e
  exact I1.fpOk (Nat.le_refl _) (I1.hok.fresh (Nat.le_refl _))
/-- a range object just made, walked -/
theorem range_it {pins : List (Addr × Obj)} {σ : St} {H : Hp} {s : Shared} {R : It → Hp → Prop} {E : Value → Shared → Prop} {lo hi : Int} {t u v : Tok} {tk : Nat} (I : Inv X pins σ H s) (h1 : -(2 ^ 62) ≤ lo) (h2 : lo < 2 ^ 62) (h3 : -(2 ^ 62) ≤ hi) (h4 : hi < 2 ^ 62)
    (q : R (Itr lo (hi - lo).toNat) H) : wpAny (model X.prog X.w) X.A (pyIter (.ref s.heap.objs.size)) (PIE X pins σ tg R) E { s with heap := s.heap.push { cls := .type "range", data := .fields #[.int lo t, .int hi u, .int 1 v] }, toks := tk } := by
  refine wpAny_pyIter_range (IsRange.new ..) (small_one h1 h2 h3 h4) ?_
  have I1 : Inv X pins σ H { s with heap := s.heap.push { cls := .type "range", data := .fields #[.int lo t, .int hi u, .int 1 v] }, toks := tk } := I.kept fun b o e => Heap.get?_push_of_some _ e
  refine ⟨(s.heap.push { cls := .type "range", data := .fields #[.int lo t, .int hi u, .int 1 v] }).objs.size, [(s.heap.push { cls := .type "range", data := .fields #[.int lo t, .int hi u, .int 1 v] }).objs.size], _, _, H, rfl,
    I1.kept (t' := tk) fun b o e => Heap.get?_push_of_some _ e, turn_range _ lo (hi - lo).toNat, ?_, fun b hb => ?_, q⟩
  · have e1 : lo + ((0 : Nat) : Int) * 1 = lo := by simp
    have e2 : (((hi - lo).toNat : Nat) : Int) - ((0 : Nat) : Int) = Builtin.Range.rangeSize lo hi 1 := by rw [rangeSize_one]; split <;> omega
    show IsRangeIter _ _ (lo + ((0 : Nat) : Int) * 1) ((((hi - lo).toNat : Nat) : Int) - ((0 : Nat) : Int)) 1
    rw [e1, e2]
    exact Heap.get?_push_size _ rfl
  · have e : b = (s.heap.push { cls := .type "range", data := .fields #[.int lo t, .int hi u, .int 1 v] }).objs.size := by simpa using hb
    subst e
    exact I1.fpOk (Nat.le_refl _) (I1.hok.fresh (Nat.le_refl _))
def iRng1 (ta : TA) : TI := fun σ H R => ta σ H fun vs H1 => ∃ j : Int, vs = [.int j] ∧ -(2 ^ 62) ≤ j ∧ j < 2 ^ 62 ∧ R (Itr 0 j.toNat) H1
theorem pi_range1 {a : Expr} {ta : TA} {p pos : Pos} (hg : Gl X "range") (hm : X.mg "range" = none) (ha : PA X [a] ta) (hs : starEach [a] X.env = [(false, eval a X.env)] := by rfl) : PI X tg (.Call (.Name "range" p) [a] [] pos) (iRng1 ta) := by
  intro pins s σ H R I h
  refine Call_ (ld_blt I hg hm boot_range (PyProof.Rows.callWith_type1 (thn (ha pos pins s σ H _ I h) fun us s1 ⟨vs, H1, I1, r1, q1⟩ => ?_) hs rfl))
  obtain ⟨j, e, q1, q2, q⟩ := q1
  subst e
  cases r1 with
  | cons r rr =>
    cases rr
    obtain ⟨t, rfl⟩ := r
    exact call_range_1 (range_it I1 (by omega) (by omega) q1 q2 (by simpa using q))
/-! ### for -/
/-- W: the invariant by the turn and a measure; N: what the body is to reach -/
def tFor (wi : TI) (g : TG) (tb : TS) : TS := fun D σ H => wi σ H fun J H1 => ∃ W : Nat → Nat → St → Hp → Prop, (∃ m, W 0 m σ H1) ∧ ∀ i m σ H, W i m σ H →
  (J.stop i H ∧ D.nx σ H) ∨ (J.go i H ∧ ∃ N : St → Hp → Prop, (∀ σ' H', N σ' H' → ∃ m', m' < m ∧ W (i + 1) m' σ' H') ∧ ∀ x H', J.yld i H x H' → g x σ H' fun σ2 H2 => tb { D with nx := N, ct := N, bk := D.nx } σ2 H2)
/-- the records at fp as they stand -/
def pinsAt (fp : List Addr) (h : Heap) : List (Addr × Obj) := fp.filterMap fun b => (h.get? b).map fun o => (b, o)
theorem mem_pinsAt {fp : List Addr} {h : Heap} {b : Addr} {o : Obj} (hb : b ∈ fp) (e : h.get? b = some o) : (b, o) ∈ pinsAt fp h := List.mem_filterMap.mpr ⟨b, hb, by rw [e]; rfl⟩
theorem of_pinsAt {fp : List Addr} {h : Heap} {p : Addr × Obj} (hp : p ∈ pinsAt fp h) : p.1 ∈ fp ∧ h.get? p.1 = some p.2 := by
  obtain ⟨b, hb, e⟩ := List.mem_filterMap.mp hp
  cases q : h.get? b with
  | none => rw [q] at e; cases e
  | some o =>
    rw [q] at e
    have e' : (b, o) = p := Option.some.inj e
    subst e'
    exact ⟨hb, q⟩
theorem Inv.pinned {pins : List (Addr × Obj)} {σ : St} {H : Hp} {s : Shared} {fp : List Addr} (I : Inv X pins σ H s) (hf : ∀ b ∈ fp, FpOk X pins H b) (ho : ∀ b ∈ fp, ∃ o, s.heap.get? b = some o ∧ ∀ v, o.data ≠ .cell v) : Inv X (pins ++ pinsAt fp s.heap) σ H s :=
  I.pins_of fun p hp => (List.mem_append.mp hp).elim (fun z => I.pin p (List.mem_append_right _ z)) fun z => by
    obtain ⟨hb, e⟩ := of_pinsAt z
    obtain ⟨f0, f1, f2, _⟩ := hf p.1 hb
    obtain ⟨o, e', d⟩ := ho p.1 hb
    rw [e] at e'; cases e'
    exact ⟨e, f0, f1, f2, d⟩
theorem Inv.unpinned {pins pl : List (Addr × Obj)} {σ : St} {H : Hp} {s : Shared} (I : Inv X (pins ++ pl) σ H s) : Inv X pins σ H s := I.pins_of fun p hp => I.pin p (List.mem_append_right _ (List.mem_append_left _ hp))
theorem ps_for {iter : Expr} {body : List Stmt} {wi : TI} {g : TG} {tb : TS} {pos : Pos} (hp : PassesOwn (model X.prog X.w) X.A X.env X.xe) (hc : X.calm = true) (hi : PI X tg iter wi) (hg : PG X tg g) (hb : PSs X body tb)
    (hs : ∀ x, foldedSetIterable iter X.env x = pure x := by intro _; rfl) : PS X (.For tg iter body [] pos) (tFor wi g tb) := by
  intro pins s σ H D I h
  refine wpAny_For (thn (hi pins s σ H _ I h) fun v s1 h1 => thn h1 fun itv s2 h2 => ?_) hs
  obtain ⟨it, fp, tn, J, H2, e, I2, T, st2, f2, W, ⟨m0, w0⟩, turn⟩ := h2
  subst e
  -- what stays true of the iterator's objects through the loop
  have stat : ∀ {H' : Hp}, (∀ b ∈ fp, H' b = none) → ∀ b ∈ fp, FpOk X pins H' b := fun hn b hb => ⟨hn b hb, (f2 b hb).2⟩
  refine codeAny_forLoop_any (fun n s' => ∃ i σ' H', Inv X pins σ' H' s' ∧ tn i s'.heap ∧ (∀ b ∈ fp, H' b = none) ∧ W i n σ' H') ?_ m0 ⟨0, σ, H2, I2, st2, fun b hb => (f2 b hb).1, w0⟩
  rintro n s3 ⟨i, σ3, H3, I3, st3, fr3, w3⟩
  rcases turn i n σ3 H3 w3 with ⟨stop, qn⟩ | ⟨go, N, hN, step⟩
  · refine wpAny_passesOwn hp (thn (T.done X rfl rfl rfl hc i pins s3 σ3 H3 X.xe I3 (stat fr3) st3 stop) fun r s4 ⟨hr, I4⟩ => ?_)
    subst hr
    exact wpAny_execs_nil ⟨σ3, H3, I4, qn⟩
  · refine wpAny_passesOwn hp (thn (T.item X rfl rfl rfl hc i pins s3 σ3 H3 X.xe I3 (stat fr3) st3 go) fun r s4 ⟨u, hr, h4⟩ => ?_)
    subst hr
    refine wpAny_passesOwn hp (thn h4 fun _ s5 ⟨x, H5, I5, r5, y5, st5, fr5⟩ => ?_)
    have I5' := I5.pinned (stat fr5) (T.obj _ _ st5)
    refine wpAny_passesOwn hp (thn (hg _ s5 σ3 H5 x u _ I5' r5 (step x H5 y5)) fun _ s6 ⟨σ6, H6, I6, q6⟩ => ?_)
    refine wpAny_passesOwn hp (thn (hb _ s6 σ6 H6 _ I6 q6) fun f s7 q7 => ?_)
    have again : ∀ {σ7 : St} {H7 : Hp}, Inv X (pins ++ pinsAt fp s5.heap) σ7 H7 s7 → N σ7 H7 → ∃ m, m < n ∧ ∃ i σ' H', Inv X pins σ' H' s7 ∧ tn i s7.heap ∧ (∀ b ∈ fp, H' b = none) ∧ W i m σ' H' := fun {σ7 H7} I7 n7 => by
      obtain ⟨m', hm, w7⟩ := hN σ7 H7 n7
      refine ⟨m', hm, i + 1, σ7, H7, I7.unpinned, T.keep _ _ _ st5 fun b hb o e => (I7.pin (b, o) (List.mem_append_right _ (List.mem_append_right _ (mem_pinsAt hb e)))).1, fun b hb => ?_, w7⟩
      obtain ⟨o, e, d⟩ := T.obj _ _ st5 b hb
      exact (I7.pin (b, o) (List.mem_append_right _ (List.mem_append_right _ (mem_pinsAt hb e)))).2.1
    cases f with
    | next => obtain ⟨σ7, H7, I7, n7⟩ := q7; exact again I7 n7
    | cont => obtain ⟨σ7, H7, I7, n7⟩ := q7; exact again I7 n7
    | brk => obtain ⟨σ7, H7, I7, q7⟩ := q7; exact ⟨σ7, H7, I7.unpinned, q7⟩
    | ret v => obtain ⟨x7, σ7, H7, I7, r7, q7⟩ := q7; exact ⟨x7, σ7, H7, I7.unpinned, r7, q7⟩
end

/-! ### the forms one uses -/
/-- over a list that the body leaves as it is -/
theorem for_list {K : PySem.W.Frag} {a : Addr} {xs : List V} {g : TG} {tb : TS} {D : Ends} {σ : St} {H : Hp} (Pv : Nat → St → Hp → Prop) (h0 : Pv 0 σ H) (hl : ∀ i σ H, i ≤ xs.length → Pv i σ H → SqL K H a xs)
    (hs : ∀ i x σ H, xs[i]? = some x → Pv i σ H → g x σ H fun σ2 H2 => tb { D with nx := Pv (i + 1), ct := Pv (i + 1), bk := D.nx } σ2 H2) (hd : ∀ σ H, Pv xs.length σ H → D.nx σ H) :
    ∃ W : Nat → Nat → St → Hp → Prop, (∃ m, W 0 m σ H) ∧ ∀ i m σ H, W i m σ H →
      ((Itl K a).stop i H ∧ D.nx σ H) ∨ ((Itl K a).go i H ∧ ∃ N : St → Hp → Prop, (∀ σ' H', N σ' H' → ∃ m', m' < m ∧ W (i + 1) m' σ' H') ∧ ∀ x H', (Itl K a).yld i H x H' → g x σ H' fun σ2 H2 => tb { D with nx := N, ct := N, bk := D.nx } σ2 H2) := by
  refine ⟨fun i m σ H => m = xs.length - i ∧ i ≤ xs.length ∧ Pv i σ H, ⟨xs.length, by simp, Nat.zero_le _, h0⟩, ?_⟩
  rintro i m σ H ⟨rfl, hi, p⟩
  have q := hl i σ H hi p
  by_cases hlt : i < xs.length
  · refine .inr ⟨⟨xs, xs[i], q, by simp [hlt]⟩, Pv (i + 1), fun σ' H' p' => ⟨xs.length - (i + 1), by omega, rfl, hlt, p'⟩, fun x H' y => ?_⟩
    obtain ⟨e, y⟩ := y
    subst e
    exact hs i x σ _ (y xs q) p
  · have e : i = xs.length := by omega
    subst e
    exact .inl ⟨⟨xs, q, Nat.le_refl _⟩, hd σ H p⟩
theorem for_range {lo : Int} {n : Nat} {g : TG} {tb : TS} {D : Ends} {σ : St} {H : Hp} (Pv : Nat → St → Hp → Prop) (h0 : Pv 0 σ H)
    (hs : ∀ i σ H, i < n → Pv i σ H → g (.int (lo + i)) σ H fun σ2 H2 => tb { D with nx := Pv (i + 1), ct := Pv (i + 1), bk := D.nx } σ2 H2) (hd : ∀ σ H, Pv n σ H → D.nx σ H) :
    ∃ W : Nat → Nat → St → Hp → Prop, (∃ m, W 0 m σ H) ∧ ∀ i m σ H, W i m σ H →
      ((Itr lo n).stop i H ∧ D.nx σ H) ∨ ((Itr lo n).go i H ∧ ∃ N : St → Hp → Prop, (∀ σ' H', N σ' H' → ∃ m', m' < m ∧ W (i + 1) m' σ' H') ∧ ∀ x H', (Itr lo n).yld i H x H' → g x σ H' fun σ2 H2 => tb { D with nx := N, ct := N, bk := D.nx } σ2 H2) := by
  refine ⟨fun i m σ H => m = n - i ∧ i ≤ n ∧ Pv i σ H, ⟨n, by simp, Nat.zero_le _, h0⟩, ?_⟩
  rintro i m σ H ⟨rfl, hi, p⟩
  by_cases hlt : i < n
  · refine .inr ⟨hlt, Pv (i + 1), fun σ' H' p' => ⟨n - (i + 1), by omega, rfl, hlt, p'⟩, fun x H' y => ?_⟩
    obtain ⟨e, y⟩ := y
    subst e y
    exact hs i σ _ hlt p
  · have e : i = n := by omega
    subst e
    exact .inl ⟨Nat.le_refl _, hd σ H p⟩
end L2

namespace L2
open PySem PySem.Spec PyProof.Rows

abbrev R2 := V → V → Hp → VK → Prop
/-- a two-place operation on values: f is binaryOp op, inplaceOp op or compareOp op -/
def OpR (X : Cx) (f : Value → Value → Sem Value) (r : R2) : Prop :=
  ∀ (pins : List (Addr × Obj)) (s : Shared) (σ : St) (H : Hp) (x y : V) (v u : Value) (Q : VK), Inv X pins σ H s → RelV x v → RelV y u → r x y H Q →
    wpAny (model X.prog X.w) X.A (f v u) (EP X pins σ Q) X.xe s
/-- a one-place operation -/
def UnR (X : Cx) (f : Value → Sem Value) (r : V → Hp → VK → Prop) : Prop :=
  ∀ (pins : List (Addr × Obj)) (s : Shared) (σ : St) (H : Hp) (x : V) (v : Value) (Q : VK), Inv X pins σ H s → RelV x v → r x H Q →
    wpAny (model X.prog X.w) X.A (f v) (EP X pins σ Q) X.xe s
/-- a call of a value that is known (a builtin, a type) with values -/
def CallR (X : Cx) (f : Value) (r : List V → Hp → VK → Prop) : Prop :=
  ∀ (pins : List (Addr × Obj)) (s : Shared) (σ : St) (H : Hp) (xs : List V) (us : List Value) (Q : VK), Inv X pins σ H s → Vals xs us → r xs H Q →
    wpAny (model X.prog X.w) X.A (call f us) (EP X pins σ Q) X.xe s
/-- a value's truth -/
def TruR (X : Cx) (r : V → Hp → (Bool → Hp → Prop) → Prop) : Prop :=
  ∀ (pins : List (Addr × Obj)) (s : Shared) (σ : St) (H : Hp) (x : V) (v : Value) (Q : Bool → Hp → Prop), Inv X pins σ H s → RelV x v → r x H Q →
    wpAny (model X.prog X.w) X.A (truthy v) (TP X pins σ Q) X.xe s

def tOp (r : R2) (ta tb : TE) : TE := fun σ H Q => ta σ H fun x H1 => tb σ H1 fun y H2 => r x y H2 Q
def tUn (r : V → Hp → VK → Prop) (ta : TE) : TE := fun σ H Q => ta σ H fun x H1 => r x H1 Q
/-- ints in, under C, and a value out -/
def rI (C : Int → Int → Prop) (g : Int → Int → V) : R2 := fun x y H Q => ∃ i j, x = .int i ∧ y = .int j ∧ C i j ∧ Q (g i j) H
def rI0 (g : Int → Int → V) : R2 := fun x y H Q => ∃ i j, x = .int i ∧ y = .int j ∧ Q (g i j) H
def rU (g : Int → V) : V → Hp → VK → Prop := fun x H Q => ∃ i, x = .int i ∧ Q (g i) H

section
variable {X : Cx} {a b c : Expr} {ta tb tc : TE} {pos : Pos}

theorem binT (ha : PE X a ta) (hb : PE X b tb) {pins : List (Addr × Obj)} {s : Shared} {σ : St} {H : Hp} {R : V → V → Hp → Prop} (I : Inv X pins σ H s)
    (h : ta σ H fun x H1 => tb σ H1 fun y H2 => R x y H2) {Q : Value → Shared → Prop} {f : Value → Value → Sem Value}
    (hf : ∀ v u s2 x y H2, Inv X pins σ H2 s2 → RelV x v → RelV y u → R x y H2 → wpAny (model X.prog X.w) X.A (f v u) Q X.xe s2) :
    wpAny (model X.prog X.w) X.A (eval a X.env) (fun v s₁ => wpAny (model X.prog X.w) X.A (eval b X.env) (fun u s₂ => wpAny (model X.prog X.w) X.A (f v u) Q X.xe s₂) X.xe s₁) X.xe s := by
  refine thn (ha pins s σ H _ I h) fun v s1 ⟨x, H1, I1, r1, q1⟩ => ?_
  refine thn (hb pins s1 σ H1 _ I1 q1) fun u s2 ⟨y, H2, I2, r2, q2⟩ => ?_
  exact hf v u s2 x y H2 I2 r1 r2 q2

theorem pe_op {op : Operator} {r : R2} (ho : OpR X (binaryOp op) r) (ha : PE X a ta) (hb : PE X b tb) : PE X (.BinOp a op b pos) (tOp r ta tb) := by
  intro pins s σ H Q I h
  exact wpAny_BinOp (binT ha hb I h fun v u s2 x y H2 I2 rx ry q => ho pins s2 σ H2 x y v u Q I2 rx ry q)
theorem pe_un {op : UnaryOp} {r : V → Hp → VK → Prop} (ho : UnR X (unaryOp op) r) (ha : PE X a ta) : PE X (.UnaryOp op a pos) (tUn r ta) := by
  intro pins s σ H Q I h
  exact UnaryOp_ (thn (ha pins s σ H _ I h) fun v s1 ⟨x, H1, I1, r1, q1⟩ => ho pins s1 σ H1 x v Q I1 r1 q1)
/-! ### ints -/
theorem opI {f : Value → Value → Sem Value} {C : Int → Int → Prop} {g : Int → Int → Int}
    (rule : ∀ (i j : Int) (t u : Tok) (s : Shared) (Q : Value → Shared → Prop) (E : Value → Shared → Prop), C i j → Q (.int (g i j) s.toks) { s with toks := s.toks + 1 } → wpAny (model X.prog X.w) X.A (f (.int i t) (.int j u)) Q E s) :
    OpR X f (rI C fun i j => .int (g i j)) := by
  intro pins s σ H x y v u Q I rx ry h
  obtain ⟨i, j, rfl, rfl, hc, q⟩ := h
  obtain ⟨t, rfl⟩ := rx
  obtain ⟨t', rfl⟩ := ry
  exact rule i j t t' s _ _ hc ⟨.int (g i j), H, I.tok _, ⟨_, rfl⟩, q⟩
theorem opI0 {f : Value → Value → Sem Value} {g : Int → Int → Int}
    (rule : ∀ (i j : Int) (t u : Tok) (s : Shared) (Q : Value → Shared → Prop) (E : Value → Shared → Prop), Q (.int (g i j) s.toks) { s with toks := s.toks + 1 } → wpAny (model X.prog X.w) X.A (f (.int i t) (.int j u)) Q E s) :
    OpR X f (rI0 fun i j => .int (g i j)) := by
  intro pins s σ H x y v u Q I rx ry h
  obtain ⟨i, j, rfl, rfl, q⟩ := h
  obtain ⟨t, rfl⟩ := rx
  obtain ⟨t', rfl⟩ := ry
  exact rule i j t t' s _ _ ⟨.int (g i j), H, I.tok _, ⟨_, rfl⟩, q⟩
theorem opB0 {f : Value → Value → Sem Value} {g : Int → Int → Bool}
    (rule : ∀ (i j : Int) (t u : Tok) (s : Shared) (Q : Value → Shared → Prop) (E : Value → Shared → Prop), Q (.bool (g i j)) s → wpAny (model X.prog X.w) X.A (f (.int i t) (.int j u)) Q E s) :
    OpR X f (rI0 fun i j => .bl (g i j)) := by
  intro pins s σ H x y v u Q I rx ry h
  obtain ⟨i, j, rfl, rfl, q⟩ := h
  obtain ⟨t, rfl⟩ := rx
  obtain ⟨t', rfl⟩ := ry
  exact rule i j t t' s _ _ ⟨.bl (g i j), H, I, rfl, q⟩

def CMul (i j : Int) : Prop := (-(2 ^ 64) < i ∧ i < 2 ^ 64) ∨ (-(2 ^ 64) < j ∧ j < 2 ^ 64)
theorem CMul.ok {i j : Int} (h : CMul i j) : IntMulOk i j := by
  rcases h with ⟨h1, h2⟩ | ⟨h1, h2⟩
  · exact .of_left (intBits_le_64 h1 h2)
  · exact .of_right (intBits_le_64 h1 h2)
theorem two_pow_nn (k : Nat) : (0 : Int) ≤ 2 ^ k := by
  rw [two_pow_cast]
  exact Int.natCast_nonneg _

theorem op_add : OpR X (binaryOp .Add) (rI0 fun i j => .int (i + j)) := opI0 fun _ _ _ _ _ _ _ q => add_int q
theorem op_sub : OpR X (binaryOp .Sub) (rI0 fun i j => .int (i - j)) := opI0 fun _ _ _ _ _ _ _ q => sub_int q
theorem op_mul : OpR X (binaryOp .Mult) (rI CMul fun i j => .int (i * j)) := opI fun _ _ _ _ _ _ _ hc q => mul_int q hc.ok
/-- % by a positive divisor of any size -/
theorem op_mod : OpR X (binaryOp .Mod) (rI (fun _ j => 0 < j) fun i j => .int (i % j)) := opI fun i j _ _ _ _ _ hc q => by
  have h1 : (0 : Int) < j := hc
  exact mod_int' (by omega) (by rw [Int.fmod_eq_emod_of_nonneg i (by omega)]; exact q)
theorem op_shr : OpR X (binaryOp .RShift) (rI (fun _ j => 0 ≤ j) fun i j => .int (i / 2 ^ j.toNat)) := opI fun i j _ _ _ _ _ hc q =>
  rshift_int hc (by rw [Int.fdiv_eq_ediv_of_nonneg i (two_pow_nn _)]; exact q)
theorem op_and : OpR X (binaryOp .BitAnd) (rI0 fun i j => .int (Builtin.bitAnd i j)) := opI0 fun _ _ _ _ _ _ _ q => and_int q
theorem op_or : OpR X (binaryOp .BitOr) (rI0 fun i j => .int (Builtin.bitOr i j)) := opI0 fun _ _ _ _ _ _ _ q => or_int q
theorem op_xor : OpR X (binaryOp .BitXor) (rI0 fun i j => .int (Builtin.bitXor i j)) := opI0 fun _ _ _ _ _ _ _ q => xor_int q

theorem unI {f : Value → Sem Value} {g : Int → Int}
    (rule : ∀ (i : Int) (t : Tok) (s : Shared) (Q : Value → Shared → Prop) (E : Value → Shared → Prop), Q (.int (g i) s.toks) { s with toks := s.toks + 1 } → wpAny (model X.prog X.w) X.A (f (.int i t)) Q E s) :
    UnR X f (rU fun i => .int (g i)) := by
  intro pins s σ H x v Q I rx h
  obtain ⟨i, rfl, q⟩ := h
  obtain ⟨t, rfl⟩ := rx
  exact rule i t s _ _ ⟨.int (g i), H, I.tok _, ⟨_, rfl⟩, q⟩
theorem un_neg : UnR X (unaryOp .USub) (rU fun i => .int (-i)) := unI fun _ _ _ _ _ q => neg_int q
/-! ### bools among ints: n += (a < b) -/
end

/-! ### comparisons -/
/-- the scalars that == tells apart as data does -/
def scal : V → V → Bool
  | .non, .non => true | .non, .int _ => true | .int _, .non => true | .non, .bl _ => true | .bl _, .non => true | .non, .str _ => true | .str _, .non => true
  | .int _, .int _ => true | .bl _, .bl _ => true | .str _, .str _ => true | .byt _, .byt _ => true
  | .int _, .str _ => true | .str _, .int _ => true | .bl _, .str _ => true | .str _, .bl _ => true
  | _, _ => false
def rEq : R2 := fun x y H Q => scal x y = true ∧ Q (.bl (decide (x = y))) H
def rNe : R2 := fun x y H Q => scal x y = true ∧ Q (.bl (!decide (x = y))) H

theorem dec_int {i j : Int} : decide (V.int i = V.int j) = (i == j) := by
  rw [Bool.eq_iff_iff]
  simp
theorem dec_bl {i j : Bool} : decide (V.bl i = V.bl j) = (i == j) := by
  rw [Bool.eq_iff_iff]
  simp
theorem dec_str {i j : Str} : decide (V.str i = V.str j) = (i == j) := by
  rw [Bool.eq_iff_iff]
  simp
theorem dec_byt {i j : Array UInt8} : decide (V.byt i = V.byt j) = (i.toList == j.toList) := by
  rw [Bool.eq_iff_iff]
  cases i
  cases j
  simp

section
variable {X : Cx} {a b c : Expr} {ta tb tc : TE} {pos : Pos}
theorem fin_bl {pins : List (Addr × Obj)} {σ : St} {H : Hp} {s : Shared} {Q : VK} {k k' : Bool} (I : Inv X pins σ H s) (q : Q (.bl k) H) (e : k = k') : EP X pins σ Q (.bool k') s := by
  subst e
  exact ⟨.bl k, H, I, rfl, q⟩
theorem op_eq : OpR X (compareOp .Eq) rEq := by
  intro pins s σ H x y v u Q I rx ry h
  obtain ⟨hs, q⟩ := h
  cases x with
  | non =>
    cases rx
    cases y with
    | non => cases ry; exact PySem.EqNone.eq_none_none (fin_bl I q (by simp))
    | bl j => cases ry; exact PySem.EqNone.eq_none_bool (fin_bl I q (by simp))
    | int j => obtain ⟨t', rfl⟩ := ry; exact PySem.EqNone.eq_none_int (fin_bl I q (by simp))
    | str j => obtain ⟨t', rfl⟩ := ry; exact PySem.EqNone.eq_none_str (fin_bl I q (by simp))
    | _ => exact absurd (show false = true from hs) Bool.false_ne_true
  | bl i =>
    cases rx
    cases y with
    | non => cases ry; exact PySem.EqNone.eq_bool_none (fin_bl I q (by simp))
    | bl j => cases ry; exact eq_bool (fin_bl I q dec_bl)
    | str j => obtain ⟨t', rfl⟩ := ry; exact PySem.EqMixed.eq_bool_str (fin_bl I q (by simp))
    | _ => exact absurd (show false = true from hs) Bool.false_ne_true
  | int i =>
    obtain ⟨t, rfl⟩ := rx
    cases y with
    | non => cases ry; exact PySem.EqNone.eq_int_none (fin_bl I q (by simp))
    | int j => obtain ⟨t', rfl⟩ := ry; exact eq_int (fin_bl I q dec_int)
    | str j => obtain ⟨t', rfl⟩ := ry; exact PySem.EqMixed.eq_int_str (fin_bl I q (by simp))
    | _ => exact absurd (show false = true from hs) Bool.false_ne_true
  | str i =>
    obtain ⟨t, rfl⟩ := rx
    cases y with
    | non => cases ry; exact PySem.EqNone.eq_str_none (fin_bl I q (by simp))
    | bl j => cases ry; exact PySem.EqMixed.eq_str_bool (fin_bl I q (by simp))
    | int j => obtain ⟨t', rfl⟩ := ry; exact PySem.EqMixed.eq_str_int (fin_bl I q (by simp))
    | str j => obtain ⟨t', rfl⟩ := ry; exact eq_str (fin_bl I q dec_str)
    | _ => exact absurd (show false = true from hs) Bool.false_ne_true
  | byt i =>
    obtain ⟨t, rfl⟩ := rx
    cases y with
    | byt j => obtain ⟨t', rfl⟩ := ry; exact PySem.W.eq_bytes (fin_bl I q dec_byt)
    | _ => exact absurd (show false = true from hs) Bool.false_ne_true
  | _ => cases y <;> exact absurd (show false = true from hs) Bool.false_ne_true
theorem op_ne : OpR X (compareOp .NotEq) rNe := by
  intro pins s σ H x y v u Q I rx ry h
  obtain ⟨hs, q⟩ := h
  cases x with
  | non =>
    cases rx
    cases y with
    | non => cases ry; exact PySem.EqNone.ne_none_none (fin_bl I q (by simp))
    | bl j => cases ry; exact PySem.EqNone.ne_none_bool (fin_bl I q (by simp))
    | int j => obtain ⟨t', rfl⟩ := ry; exact PySem.EqNone.ne_none_int (fin_bl I q (by simp))
    | str j => obtain ⟨t', rfl⟩ := ry; exact PySem.EqNone.ne_none_str (fin_bl I q (by simp))
    | _ => exact absurd (show false = true from hs) Bool.false_ne_true
  | bl i =>
    cases rx
    cases y with
    | non => cases ry; exact PySem.EqNone.ne_bool_none (fin_bl I q (by simp))
    | bl j => cases ry; exact ne_bool (fin_bl I q (congrArg not dec_bl))
    | str j => obtain ⟨t', rfl⟩ := ry; exact PySem.EqMixed.ne_bool_str (fin_bl I q (by simp))
    | _ => exact absurd (show false = true from hs) Bool.false_ne_true
  | int i =>
    obtain ⟨t, rfl⟩ := rx
    cases y with
    | non => cases ry; exact PySem.EqNone.ne_int_none (fin_bl I q (by simp))
    | int j => obtain ⟨t', rfl⟩ := ry; exact ne_int (fin_bl I q (congrArg not dec_int))
    | str j => obtain ⟨t', rfl⟩ := ry; exact PySem.EqMixed.ne_int_str (fin_bl I q (by simp))
    | _ => exact absurd (show false = true from hs) Bool.false_ne_true
  | str i =>
    obtain ⟨t, rfl⟩ := rx
    cases y with
    | non => cases ry; exact PySem.EqNone.ne_str_none (fin_bl I q (by simp))
    | bl j => cases ry; exact PySem.EqMixed.ne_str_bool (fin_bl I q (by simp))
    | int j => obtain ⟨t', rfl⟩ := ry; exact PySem.EqMixed.ne_str_int (fin_bl I q (by simp))
    | str j => obtain ⟨t', rfl⟩ := ry; exact ne_str (fin_bl I q (congrArg not dec_str))
    | _ => exact absurd (show false = true from hs) Bool.false_ne_true
  | byt i =>
    obtain ⟨t, rfl⟩ := rx
    cases y with
    | byt j => obtain ⟨t', rfl⟩ := ry; exact PySem.W.ne_bytes (fin_bl I q (congrArg not dec_byt))
    | _ => exact absurd (show false = true from hs) Bool.false_ne_true
  | _ => cases y <;> exact absurd (show false = true from hs) Bool.false_ne_true

theorem op_lt : OpR X (compareOp .Lt) (rI0 fun i j => .bl (decide (i < j))) := opB0 fun _ _ _ _ _ _ _ q => lt_int q
theorem op_le : OpR X (compareOp .LtE) (rI0 fun i j => .bl (decide (i ≤ j))) := opB0 fun _ _ _ _ _ _ _ q => le_int q
theorem op_gt : OpR X (compareOp .Gt) (rI0 fun i j => .bl (decide (j < i))) := opB0 fun _ _ _ _ _ _ _ q => gt_int q
theorem op_ge : OpR X (compareOp .GtE) (rI0 fun i j => .bl (decide (j ≤ i))) := opB0 fun _ _ _ _ _ _ _ q => ge_int q
/-- two rules for one operation: by cases -/
theorem OpR.or {f : Value → Value → Sem Value} {r r' : R2} (h : OpR X f r) (h' : OpR X f r') : OpR X f (fun x y H Q => r x y H Q ∨ r' x y H Q) := by
  intro pins s σ H x y v u Q I rx ry q
  rcases q with q | q
  · exact h pins s σ H x y v u Q I rx ry q
  · exact h' pins s σ H x y v u Q I rx ry q

theorem nomark (b : Expr) {op : CmpOp} (h : op ≠ .In := by decide) (h2 : op ≠ .NotIn := by decide) : behindInMarks op b = false := by
  have e1 : (op == CmpOp.In) = false := by cases op <;> first | rfl | exact absurd rfl h
  have e2 : (op == CmpOp.NotIn) = false := by cases op <;> first | rfl | exact absurd rfl h2
  cases b <;> simp [behindInMarks, e1, e2]
/-- a comparison as a value; hm: nomark b, or (for in, not in) by with_unfolding_all rfl -/
theorem pe_cmpR {op : CmpOp} {r : R2} (ho : OpR X (compareOp op) r) (ha : PE X a ta) (hb : PE X b tb) (hm : behindInMarks op b = false) : PE X (.Compare a [op] [b] pos) (tOp r ta tb) := by
  intro pins s σ H Q I h
  exact wpAny_Compare1 (binT ha hb I h fun v u s2 x y H2 I2 rx ry q => ho pins s2 σ H2 x y v u Q I2 rx ry q) hm
/-- a reading of a value as a test -/
def tTest (t : TE) : TT := fun σ H Q => t σ H fun x H' => ∃ k, x = .bl k ∧ Q k H'
theorem pt_cmpR {op : CmpOp} {r : R2} (ho : OpR X (compareOp op) r) (ha : PE X a ta) (hb : PE X b tb) (hm : behindInMarks op b = false) : PT X (.Compare a [op] [b] pos) (tTest (tOp r ta tb)) := by
  intro pins s σ H Q I h
  refine wpAny_isTrue_Compare1 (thn (ha pins s σ H _ I h) fun v s1 ⟨x, H1, I1, r1, q1⟩ => thn (hb pins s1 σ H1 _ I1 q1) fun u s2 ⟨y, H2, I2, r2, q2⟩ =>
    thn (ho pins s2 σ H2 x y v u _ I2 r1 r2 q2) fun c s3 ⟨z, H3, I3, r3, k, e, q3⟩ => ?_) hm
  subst e
  cases r3
  exact wpAny_truthy_bool ⟨H3, I3, q3⟩
/-- a op1 b op2 c -/
def tChain (r r' : R2) (ta tb tc : TE) : TE := fun σ H Q => ta σ H fun x H1 => tb σ H1 fun y H2 => r x y H2 fun z H3 => ∃ k, z = .bl k ∧
  (if k = true then tc σ H3 fun w' H4 => r' y w' H4 Q else Q (.bl false) H3)
theorem pt_chain {op op' : CmpOp} {r r' : R2} (ho : OpR X (compareOp op) r) (ho' : OpR X (compareOp op') r') (ha : PE X a ta) (hb : PE X b tb) (hc : PE X c tc)
    (hm : lastMarks [op, op'] [b, c] = false := by with_unfolding_all rfl) : PT X (.Compare a [op, op'] [b, c] pos) (tTest (tChain r r' ta tb tc)) := by
  intro pins s σ H Q I h
  refine isTrue_chain (thn (ha pins s σ H _ I h) fun v s1 ⟨x, H1, I1, r1, q1⟩ => test_link (thn (hb pins s1 σ H1 _ I1 q1) fun u s2 ⟨y, H2, I2, r2, q2⟩ =>
    thn (ho pins s2 σ H2 x y v u _ I2 r1 r2 q2) fun d s3 ⟨z, H3, I3, r3, k, e, q3⟩ => ?_)) hm
  subst e
  cases r3
  refine wpAny_truthy_bool ?_
  cases k with
  | false =>
    obtain ⟨k', e', q'⟩ := q3
    cases e'
    exact ite_ff ⟨H3, I3, q'⟩
  | true =>
    refine ite_tt (test_last (thn (hc pins s3 σ H3 _ I3 q3) fun w' s4 ⟨z', H4, I4, r4, q4⟩ => thn (ho' pins s4 σ H4 y z' u w' _ I4 r2 r4 q4) fun d' s5 ⟨z2, H5, I5, r5, k2, e2, q5⟩ => ?_))
    subst e2
    cases r5
    exact wpAny_truthy_bool ⟨H5, I5, q5⟩

/-! ### truth -/
/-- a value's truth by the abstract heap -/
def TruV (K : PySem.W.Frag) (x : V) (H : Hp) (k : Bool) : Prop :=
  match x with
  | .non => k = false
  | .bl b => k = b
  | .int i => k = (i != 0)
  | .str y => y.length ≤ sizeLine ∧ k = ((y.length : Int) != 0)
  | .byt y => y.size ≤ sizeLine ∧ k = ((y.size : Int) != 0)
  | .ref p => (∃ xs, SqL K H p xs ∧ k = !xs.isEmpty) ∨ (∃ xs, SqT K H p xs ∧ k = !xs.isEmpty) ∨ ∃ kvs, H p = some (.dK kvs) ∧ k = !kvs.isEmpty
  | _ => False
theorem isEmpty_kv {κ : Type} {kvs : List (κ × V)} {vs : List (κ × Value)} (r : KV kvs vs) : (!vs.isEmpty) = !kvs.isEmpty := by
  cases r <;> rfl
theorem isEmpty_of {xs : List V} {its : List Value} (r : Vals xs its) : (!its.toArray.isEmpty) = !xs.isEmpty := by
  cases r <;> simp
theorem line63 : (sizeLine : Nat) < 2 ^ 63 := by rw [sizeLine_eq]; decide
theorem tru_ok : TruR X (fun x H Q => ∃ k, TruV X.K x H k ∧ Q k H) := by
  intro pins s σ H x v Q I rx h
  obtain ⟨k, e, q⟩ := h
  have hl := line63
  have hs : sizeLine = 16777216 := sizeLine_eq
  cases x with
  | non =>
    cases rx
    have e' : k = false := e
    subst e'
    exact truthy_none ⟨H, I, q⟩
  | bl b =>
    cases rx
    have e' : k = b := e
    subst e'
    exact wpAny_truthy_bool ⟨H, I, q⟩
  | int i =>
    obtain ⟨t, rfl⟩ := rx
    have e' : k = (i != 0) := e
    subst e'
    exact PySem.P.truthy_int ⟨H, I, q⟩
  | str y =>
    obtain ⟨t, rfl⟩ := rx
    obtain ⟨hy, e'⟩ : y.length ≤ sizeLine ∧ k = ((y.length : Int) != 0) := e
    subst e'
    exact PySem.P.truthy_str (by omega) ⟨H, I.tok _, q⟩
  | byt y =>
    obtain ⟨t, rfl⟩ := rx
    obtain ⟨hy, e'⟩ : y.size ≤ sizeLine ∧ k = ((y.size : Int) != 0) := e
    subst e'
    exact PySem.W.truthy_bytes (by omega) ⟨H, I.tok _, q⟩
  | ref p =>
    cases rx
    have e' : (∃ xs, SqL X.K H p xs ∧ k = !xs.isEmpty) ∨ (∃ xs, SqT X.K H p xs ∧ k = !xs.isEmpty) ∨ ∃ kvs, H p = some (.dK kvs) ∧ k = !kvs.isEmpty := e
    rcases e' with ⟨xs, hx, e'⟩ | ⟨xs, hx, e'⟩ | ⟨kvs, hx, e'⟩
    · subst e'
      obtain ⟨its, r, pl, hz⟩ := I.list hx
      have hlen := r.length
      exact wpAny_truthy_list pl.isList (by simp only [List.size_toArray]; omega) ⟨H, I.tok _, by rw [isEmpty_of r]; exact q⟩
    · subst e'
      obtain ⟨its, r, pl, hz⟩ := I.tuple hx
      have hlen := r.length
      exact truthy_tuple pl (by simp only [List.size_toArray]; omega) ⟨H, I.tok _, by rw [isEmpty_of r]; exact q⟩
    · subst e'
      obtain ⟨hz, hS, vs, r, m⟩ : kvs.length ≤ sizeLine ∧ (p == sysModules) = false ∧ ∃ vs, KV kvs vs ∧ s.heap.DictOf (mixKind X.prog X.w) p vs := I.hok p _ hx
      have hlen : kvs.length = vs.length := Paired.length r
      exact wpAny_truthy_dict hS m (by omega) ⟨H, I.tok _, by rw [isEmpty_kv r]; exact q⟩
  | _ => exact (show False from e).elim
/-- any expression whose test is its value's truth (a name, a call, a subscript, a field ..: he by fun _ => rfl) -/
theorem pt_truth (ha : PE X a ta) (he : ∀ whole, isTrue a X.env whole = (do let v ← whole; standAt a.pos; holding [v] (truthy v))) :
    PT X a (fun σ H Q => ta σ H fun x H' => ∃ k, TruV X.K x H' k ∧ Q k H') := by
  intro pins s σ H Q I h
  exact isTrue_plain (thn (ha pins s σ H _ I h) fun v s1 ⟨x, H1, I1, r1, q1⟩ => tru_ok pins s1 σ H1 x v Q I1 r1 q1) (he _)

/-! ### strs and bytes -/
/-! ### scalar builtins, by CallR -/
theorem vals1 {x : V} {us : List Value} (r : Vals [x] us) : ∃ u, us = [u] ∧ RelV x u := by
  cases r with
  | cons r1 r2 => cases r2; exact ⟨_, rfl, r1⟩
theorem vals2 {x y : V} {us : List Value} (r : Vals [x, y] us) : ∃ u w', us = [u, w'] ∧ RelV x u ∧ RelV y w' := by
  cases r with
  | cons r1 r2 =>
    cases r2 with
    | cons r3 r4 => cases r4; exact ⟨_, _, rfl, r1, r3⟩
theorem call_abs : CallR X (.builtin "abs") (fun xs H Q => ∃ i, xs = [.int i] ∧ Q (.int (if i < 0 then -i else i)) H) := by
  intro pins s σ H xs us Q I r h
  obtain ⟨i, rfl, q⟩ := h
  obtain ⟨u, rfl, t, rfl⟩ := vals1 r
  exact call_abs_int fun u tk => ⟨.int (if i < 0 then -i else i), H, I.tok _, ⟨_, rfl⟩, q⟩
theorem call_max2 (hc : X.calm = true) : CallR X (.builtin "max") (fun xs H Q => ∃ i j, xs = [.int i, .int j] ∧ Q (.int (if j > i then j else i)) H) := by
  intro pins s σ H xs us Q I r h
  obtain ⟨i, j, rfl, q⟩ := h
  obtain ⟨u, w', rfl, ⟨t, rfl⟩, ⟨t', rfl⟩⟩ := vals2 r
  refine max_two_ints (I.ok.hd hc) fun h' tk k => ⟨_, H, I.kept k, ?_, q⟩
  by_cases hj : j > i
  · rw [if_pos hj, if_pos hj]; exact ⟨_, rfl⟩
  · rw [if_neg hj, if_neg hj]; exact ⟨_, rfl⟩
theorem call_min2 (hc : X.calm = true) : CallR X (.builtin "min") (fun xs H Q => ∃ i j, xs = [.int i, .int j] ∧ Q (.int (if j < i then j else i)) H) := by
  intro pins s σ H xs us Q I r h
  obtain ⟨i, j, rfl, q⟩ := h
  obtain ⟨u, w', rfl, ⟨t, rfl⟩, ⟨t', rfl⟩⟩ := vals2 r
  refine min_two_ints (I.ok.hd hc) fun h' tk k => ⟨_, H, I.kept k, ?_, q⟩
  by_cases hj : j < i
  · rw [if_pos hj, if_pos hj]; exact ⟨_, rfl⟩
  · rw [if_neg hj, if_neg hj]; exact ⟨_, rfl⟩
end
end L2

namespace L2
open PySem PySem.Spec PyProof.Rows

/-! ### an instance, its attributes a map -/
structure ObjM (h : Heap) (x dx C : Addr) (mA : Str → Option Value) : Prop where
  obj : h.get? x = some (PySem.W.instObj C dx)
  ns : h.Ns1 dx mA
  ne : dx ≠ x

theorem lookIn_ns {h : Heap} {dx : Addr} {mA : Str → Option Value} (n : h.Ns1 dx mA) : ∃ od, h.get? dx = some od ∧ ∀ name, PySem.W.lookIn name od = some (mA name) := by
  obtain ⟨o, es, ep, ho, hd, hk, _, hm⟩ := n
  refine ⟨o, ho, fun name => ?_⟩
  have e := hm name
  unfold nsFind findBy at e
  rw [← Array.find?_toList] at e
  unfold PySem.W.lookIn
  rw [hd]
  dsimp only
  split
  · rename_i y q
    rw [q] at e
    exact congrArg some e
  · rename_i q
    rw [q] at e
    have a : es.toList.any (·.refKey) = false := by
      rw [List.any_eq_false]
      intro y hy
      obtain ⟨z, t, hkey⟩ := hk y (Array.mem_toList_iff.mp hy)
      simp [DictEntry.refKey, hkey]
    have a' : ¬ es.toList.any (·.refKey) = true := by rw [a]; exact Bool.false_ne_true
    rw [if_neg a']
    exact congrArg some e

theorem ObjM.look {h : Heap} {x dx C : Addr} {mA : Str → Option Value} (I : ObjM h x dx C mA) : ∃ od, PySem.W.InstAt h x (PySem.W.instObj C dx) C (some od) ∧ ∀ name, PySem.W.lookIn name od = some (mA name) :=
  let ⟨od, ho, hl⟩ := lookIn_ns I.ns
  ⟨od, ⟨I.obj, rfl, rfl, ho⟩, hl⟩

section
variable {prog : Program} {w : World} {A : Around} {E : Value → Shared → Prop} {s : Shared} {K : PySem.W.Frag} {x dx C f : Addr} {mA : Str → Option Value} {name : Str} {v : Value}

theorem get_map {expr : Bool} {Q : Value → Shared → Prop} (X : K.In s.heap) (I : ObjM s.heap x dx C mA) (hg : PySem.W.plainGet K C name = true) (hh : PySem.W.hasDictIn K C = true)
    (ha : PySem.W.findIn K (.ref C) name = some none) (hv : mA name = some v) (hv' : PySem.W.handedIn v = true) (h : Q v { s with toks := s.toks + 1 }) :
    wpAny (model prog w) A (getAttr (.ref x) name expr) Q E s := by
  obtain ⟨od, J, hl⟩ := I.look
  exact PySem.W.get_value X J (PySem.W.plainGet_of hg).1 (PySem.W.findObj_own hh ha rfl (by rw [hl, hv])) hv' h

theorem get_meth {pl : Sem Bool} {Q : Value × List Value → Shared → Prop} (X : K.In s.heap) (I : ObjM s.heap x dx C mA) (hg : PySem.W.plainGet K C name = true)
    (hf : PySem.W.findIn K (.ref C) name = some (some (.ref f))) (ht : PySem.W.isFn K (.ref f) = true) (hv : mA name = none) (h : Q (.ref f, [.ref x]) s) :
    wpAny (model prog w) A (getMethod (.ref x) name pl) Q E s := by
  obtain ⟨od, J, hl⟩ := I.look
  exact PySem.W.method_fn X J (PySem.W.plainGet_of hg).1 (PySem.W.plainGet_of hg).2 hf (beq_iff_eq.mp ht) (by show (PySem.W.lookIn name od).map (·.isSome) = some false; rw [hl, hv]; rfl) h

theorem set_map {ns : List Str} {Q : Unit → Shared → Prop} (X : K.In s.heap) (I : ObjM s.heap x dx C mA)
    (hs : PySem.W.findIn K (.ref C) "__setattr__" = some (some (.builtin "object.__setattr__"))) (hp : PySem.W.plainOver K C = true) (ht : PySem.W.takerIn K C name = some none) (hh : PySem.W.hasDictIn K C = true)
    (hw : PySem.Within mA ns) (hsz : ns.length ≤ sizeLine)
    (h : ∀ h', ObjM h' x dx C (fun y => if y = name then some v else mA y) → Heap.SameBut dx s.heap h' → Q () { s with heap := h', toks := s.toks + 2 }) :
    wpAny (model prog w) A (setAttr (.ref x) name v) Q E s := by
  obtain ⟨od, J, hl⟩ := I.look
  refine PySem.W.set_plain X J hs (PySem.W.osa_open (s := { s with toks := s.toks + 1 }) (r := none) X J hp ht fun b => ?_)
  obtain ⟨cd, hc, hd'⟩ := PySem.W.any_some hh
  have hx : s.heap.get? x = some ⟨.ref C, some dx, .plain, #[]⟩ := I.obj
  refine wpAny_bind (wpAny_pure (wpAny_bind (wpAny_bind (wpAny_loadPart hx (wpAny_bind (PySem.W.Looks.here (s := { s with toks := s.toks + 1 }) (PySem.W.looks_clsIn X hc) ?_))))))
  rw [hd']
  refine wpAny_pure (a := some dx) (wpAny_bind (wpAny_pure (wpAny_bind ?_)))
  refine wpAny_nsSet1 (s := { s with toks := s.toks + 1 }) I.ns fun h' hn2 hs2 => ?_
  obtain ⟨oD, esD, epD, hoD, hdD, hcD⟩ := hn2.count (PySem.Within.cons name v hw)
  refine wpAny_bind (wpAny_lookBehind hoD (by rw [hdD]; exact pastItsLine_dict (Nat.le_trans hcD (by rw [List.length_cons]; omega))) ?_)
  exact wpAny_pure (h _ ⟨(hs2.2 _ (Ne.symm I.ne)).trans I.obj, hn2, I.ne⟩ hs2)

/-- C(..): the dict at the heap's end, the instance behind it; then its __init__ -/
theorem make_map {R : Result → Shared → Prop} {vs : List Value} {kw : List (Str × Value)} (X : K.In s.heap) (hm : PySem.W.makesIn K C = true)
    (hi : PySem.W.findIn K (.ref C) "__init__" = some (some (.ref f))) (hf : PySem.W.typeIn K (.ref f) = some (.type "function"))
    (h : codeAny (model prog w) (A.under (.builtin "type.__call__" ⟨.ref C :: vs, kw⟩)) (.call (.ref f) ⟨.ref (s.heap.objs.size + 1) :: vs, kw⟩) (PySem.W.InitBack (s.heap.objs.size + 1) R)
      { s with heap := (s.heap.push PySem.W.emptyDict).push (PySem.W.instObj C s.heap.objs.size) }) :
    codeAny (model prog w) A (.call (.ref C) ⟨vs, kw⟩) R s := by
  obtain ⟨hh, g, d, t, os⟩ := s
  exact PySem.W.make_core (PySem.W.makes_of X hm) (PySem.W.looks_findIn X hi) (fun self => PySem.W.bind_fn X self hf) (.inl rfl) h
end

/-! ### the attributes as a list of pairs -/
def putF (f : Str) (v : V) : List (Str × V) → List (Str × V)
  | [] => [(f, v)]
  | (g, x) :: r => if g = f then (g, v) :: r else (g, x) :: putF f v r
theorem lookup_putF (f g : Str) (v : V) : ∀ fs : List (Str × V), (putF f v fs).lookup g = if g = f then some v else fs.lookup g
  | [] => by
    show List.lookup g [(f, v)] = _
    by_cases h : g = f
    · have hb : (g == f) = true := beq_iff_eq.mpr h
      simp only [List.lookup, hb, if_pos h]
    · have hb : (g == f) = false := beq_eq_false_iff_ne.mpr h
      simp only [List.lookup, hb, if_neg h]
  | (k, x) :: r => by
    have ih := lookup_putF f g v r
    rw [show putF f v ((k, x) :: r) = (if k = f then (k, v) :: r else (k, x) :: putF f v r) from rfl]
    by_cases hk : k = f
    · rw [if_pos hk]
      by_cases h : g = k
      · have hb : (g == k) = true := beq_iff_eq.mpr h
        simp only [List.lookup, hb, if_pos (h.trans hk)]
      · have hb : (g == k) = false := beq_eq_false_iff_ne.mpr h
        simp only [List.lookup, hb, if_neg (fun e : g = f => h (e.trans hk.symm))]
    · rw [if_neg hk]
      by_cases h : g = k
      · have hb : (g == k) = true := beq_iff_eq.mpr h
        simp only [List.lookup, hb, if_neg (fun e : g = f => hk (h.symm.trans e))]
      · have hb : (g == k) = false := beq_eq_false_iff_ne.mpr h
        simp only [List.lookup, hb]
        exact ih
theorem keys_putF (f : Str) (v : V) : ∀ fs : List (Str × V), f ∈ (putF f v fs).map (·.1) ∧ ∀ g, g ∈ fs.map (·.1) → g ∈ (putF f v fs).map (·.1)
  | [] => ⟨by simp [putF], fun g h => by simp at h⟩
  | (k, x) :: r => by
    obtain ⟨i1, i2⟩ := keys_putF f v r
    rw [show putF f v ((k, x) :: r) = (if k = f then (k, v) :: r else (k, x) :: putF f v r) from rfl]
    by_cases hk : k = f
    · rw [if_pos hk]
      subst hk
      exact ⟨by simp, fun g h => by simpa using h⟩
    · rw [if_neg hk]
      refine ⟨?_, fun g h => ?_⟩
      · rw [List.map_cons]
        exact List.mem_cons_of_mem _ i1
      · rw [List.map_cons] at h ⊢
        rcases List.mem_cons.mp h with e | e
        · exact List.mem_cons.mpr (.inl e)
        · exact List.mem_cons_of_mem _ (i2 g e)
theorem length_putF (f : Str) (v : V) : ∀ fs : List (Str × V), (putF f v fs).length ≤ fs.length + 1
  | [] => by simp [putF]
  | (k, x) :: r => by
    have ih := length_putF f v r
    rw [show putF f v ((k, x) :: r) = (if k = f then (k, v) :: r else (k, x) :: putF f v r) from rfl]
    by_cases hk : k = f
    · rw [if_pos hk, List.length_cons, List.length_cons]; omega
    · rw [if_neg hk, List.length_cons, List.length_cons]; omega

theorem RelO.some_of {v : V} {o : Option Value} (r : RelO (some v) o) : ∃ u, o = some u ∧ RelV v u := by
  cases o with
  | none => exact (show False from r).elim
  | some u => exact ⟨u, rfl, r⟩
theorem RelO.none_of {o : Option Value} (r : RelO none o) : o = none := by
  cases o with
  | none => rfl
  | some u => exact (show False from r).elim
theorem handed_of {v : V} {u : Value} (r : RelV v u) : PySem.W.handedIn u = true := by
  cases v with
  | non => cases (show u = Value.none from r); rfl
  | bl b => cases (show u = Value.bool b from r); rfl
  | int i => obtain ⟨t, e⟩ := (show ∃ t, u = Value.int i t from r); cases e; rfl
  | str x => obtain ⟨t, e⟩ := (show ∃ t, u = Value.str x t from r); cases e; rfl
  | byt b => obtain ⟨t, e⟩ := (show ∃ t, u = Value.bytes b t from r); cases e; rfl
  | flt b => obtain ⟨t, e⟩ := (show ∃ t, u = Value.float b t from r); cases e; rfl
  | ref a => cases (show u = Value.ref a from r); rfl
  | ty n => cases (show u = Value.type n from r); rfl

section
variable {P : Program} {w : World} {H H' : Hp} {h h' : Heap} {a C dx : Addr} {fs fs' : List (Str × V)}
theorem ins_get (hok : HOk P w H h) (e : H a = some (.ins C dx fs)) : ∃ mA, ObjM h a dx C mA ∧ (∀ f, RelO (fs.lookup f) (mA f)) ∧ PySem.Within mA (fs.map (·.1)) ∧ fs.length ≤ 1000 ∧ H dx = some (.own a) := by
  obtain ⟨d, z, ne, ob, mA, n, r, q⟩ := (show ObjOk P w H h a (.ins C dx fs) from hok a _ e)
  exact ⟨mA, ⟨ob, n, ne⟩, r, q, z, d⟩
end

/-! ### what of the text a class must have -/
structure Cls (K : PySem.W.Frag) (C : Addr) : Prop where
  pg : PySem.W.plainGet K C Str.empty = true
  hd : PySem.W.hasDictIn K C = true
  po : PySem.W.plainOver K C = true
  sa : PySem.W.findIn K (.ref C) "__setattr__" = some (some (.builtin "object.__setattr__"))
theorem Cls.get {K : PySem.W.Frag} {C : Addr} (c : Cls K C) (f : Str) : PySem.W.plainGet K C f = true := c.pg
/-- no class of it has the name -/
def NoAttr (K : PySem.W.Frag) (C : Addr) (f : Str) : Prop := PySem.W.findIn K (.ref C) f = some none
theorem NoAttr.taker {K : PySem.W.Frag} {C : Addr} {f : Str} (n : NoAttr K C f) : PySem.W.takerIn K C f = some none := by
  unfold PySem.W.takerIn
  rw [show PySem.W.findIn K (.ref C) f = some none from n]
  rfl
/-- a constant of the class -/
structure Con (K : PySem.W.Frag) (C : Addr) (f : Str) (v : V) (u : Value) : Prop where
  at_ : PySem.W.findIn K (.ref C) f = some (some u)
  rel : RelV v u
  get : PySem.W.specialIn K u "__get__" = some none
  cp : PySem.W.copiedNames.contains f = false
/-- a method: a plain def of the class or of one above it -/
structure Meth (K : PySem.W.Frag) (C : Addr) (m : Str) (f : Addr) : Prop where
  at_ : PySem.W.findIn K (.ref C) m = some (some (.ref f))
  fn : PySem.W.isFn K (.ref f) = true
  kp : PySem.W.keepIn K (.ref f) = true

section
variable {X : Cx} {pins : List (Addr × Obj)} {σ : St} {H : Hp} {s : Shared} {a C dx : Addr} {fs : List (Str × V)} {f : Str} {v : V} {A : Around} {E : Value → Shared → Prop}

theorem getattr_ok {b : Bool} {Q : Value → Shared → Prop} (I : Inv X pins σ H s) (e : H a = some (.ins C dx fs)) (c : Cls X.K C) (n : NoAttr X.K C f) (l : fs.lookup f = some v)
    (h : ∀ u s', Inv X pins σ H s' → RelV v u → Q u s') : wpAny (model X.prog X.w) A (getAttr (.ref a) f b) Q E s := by
  obtain ⟨mA, O, r, _, _, _⟩ := ins_get I.hok e
  obtain ⟨u, hu, ru⟩ := RelO.some_of (v := v) (o := mA f) (by rw [← l]; exact r f)
  exact get_map I.kIn O (c.get f) c.hd n hu (handed_of ru) (h u _ (I.tok _) ru)

theorem getmeth_ok {m : Str} {g : Addr} {pl : Sem Bool} {Q : Value × List Value → Shared → Prop} (I : Inv X pins σ H s) (e : H a = some (.ins C dx fs)) (c : Cls X.K C) (k : Meth X.K C m g) (l : fs.lookup m = none)
    (h : Q (.ref g, [.ref a]) s) : wpAny (model X.prog X.w) A (getMethod (.ref a) m pl) Q E s := by
  obtain ⟨mA, O, r, _, _, _⟩ := ins_get I.hok e
  have hn : mA m = none := RelO.none_of (by rw [← l]; exact r m)
  exact get_meth I.kIn O (c.get m) k.at_ k.fn hn h

theorem setattr_ok {y : V} {u : Value} {Q : Unit → Shared → Prop} (I : Inv X pins σ H s) (e : H a = some (.ins C dx fs)) (c : Cls X.K C) (n : NoAttr X.K C f) (hl : fs.length < 1000) (ry : RelV y u)
    (h : ∀ s', Inv X pins σ (upd H a (.ins C dx (putF f y fs))) s' → Q () s') : wpAny (model X.prog X.w) A (setAttr (.ref a) f u) Q E s := by
  obtain ⟨mA, O, r, wi, _, ho⟩ := ins_get I.hok e
  have hz : (fs.map (·.1)).length ≤ sizeLine := by rw [List.length_map, sizeLine_eq]; omega
  refine set_map I.kIn O c.sa c.po n.taker c.hd wi hz fun h' O' sb => h _ ?_
  have hd : ∃ o, h'.get? dx = some o := let ⟨o, _, _, e', _⟩ := O'.ns; ⟨o, e'⟩
  refine I.write (x := a) (e := dx) (by rw [e]; exact True.intro) (.inr ho) (fun b q hb z => (sb.2 b hb).trans z) hd ?_
  refine ⟨by rw [upd_ne O.ne]; exact ho, ?_, O.ne, O'.obj, _, O'.ns, fun g => ?_, fun g hg => ?_⟩
  · have := length_putF f y fs; omega
  · show RelO ((putF f y fs).lookup g) (if g = f then some u else mA g)
    rw [lookup_putF]
    by_cases q : g = f
    · rw [if_pos q, if_pos q]; exact ry
    · rw [if_neg q, if_neg q]; exact r g
  · by_cases q : g = f
    · rw [q]; exact (keys_putF f y fs).1
    · refine (keys_putF f y fs).2 g (wi g fun z => hg ?_)
      show (if g = f then some u else mA g) = none
      rw [if_neg q]; exact z

/-- a new instance, tracked, without attributes -/
theorem Inv.made (I : Inv X pins σ H s) : Inv X pins σ (upd (upd H s.heap.objs.size (.own (s.heap.objs.size + 1))) (s.heap.objs.size + 1) (.ins C s.heap.objs.size []))
    { s with heap := (s.heap.push PySem.W.emptyDict).push (PySem.W.instObj C s.heap.objs.size) } := by
  have e1 : (s.heap.push PySem.W.emptyDict).get? s.heap.objs.size = some PySem.W.emptyDict := Heap.get?_push_size s.heap rfl
  have e2 : ((s.heap.push PySem.W.emptyDict).push (PySem.W.instObj C s.heap.objs.size)).get? (s.heap.objs.size + 1) = some (PySem.W.instObj C s.heap.objs.size) := by
    have := Heap.get?_push_size (s.heap.push PySem.W.emptyDict) (o := PySem.W.instObj C s.heap.objs.size) rfl
    rwa [Heap.size_push] at this
  have e3 : (s.heap.push PySem.W.emptyDict).Ns s.heap.objs.size (fun _ => none) := ⟨PySem.W.emptyDict, #[], _, e1, rfl, (fun e he => absurd he (by simp)), fun _ => rfl⟩
  have I1 := I.laid (a := s.heap.objs.size) (o := .own (s.heap.objs.size + 1)) (h' := s.heap.push PySem.W.emptyDict) (t' := s.toks) (fun b u q => Heap.get?_push_of_some _ q) (Nat.le_refl _) ⟨_, e1⟩
  refine I1.laid (a := s.heap.objs.size + 1) (o := .ins C s.heap.objs.size []) (t' := s.toks) (fun b u q => Heap.get?_push_of_some _ q) (Nat.le_of_eq (Heap.size_push _ _)) ?_
  have ne : s.heap.objs.size ≠ s.heap.objs.size + 1 := Nat.ne_of_lt (Nat.lt_succ_self _)
  refine ⟨by rw [upd_ne ne, upd_same], Nat.zero_le _, ne, e2, fun _ => none, (Heap.Ns1.of_empty e3).at fun o q => Heap.get?_push_of_some _ q, fun _ => True.intro, fun y hy => absurd rfl hy⟩

/-- e.f where nothing but the object is asked: through attributeBase (super) and the last hold -/
theorem attr_of {prog : Program} {w : World} {env : Env} {e : Expr} {f : Str} {pos : Pos} {s : Shared} {Q : Value → Shared → Prop} (hb : attributeBase e f env (eval e env) = eval e env)
    (h : wpAny (model prog w) A (eval e env) (fun o s₁ => wpAny (model prog w) A (getAttr o f true) Q E s₁) E s) : wpAny (model prog w) A (eval (.Attribute e f pos) env) Q E s :=
  Attribute_any_ h (by rw [arm_eval_Attribute, hb])
end

/-! ### readings and rules -/
/-- e.f, an attribute of the instance -/
def tFld (K : PySem.W.Frag) (ta : TE) (f : Str) : TE := fun σ H Q => ta σ H fun x H1 => ∃ a C dx fs v, x = .ref a ∧ H1 a = some (.ins C dx fs) ∧ Cls K C ∧ NoAttr K C f ∧ fs.lookup f = some v ∧ Q v H1
/-- e.f = value -/
def sFld (K : PySem.W.Frag) (ta tv : TE) (f : Str) : TS := fun D σ H => tv σ H fun y H1 => ta σ H1 fun x H2 => ∃ a C dx fs, x = .ref a ∧ H2 a = some (.ins C dx fs) ∧ Cls K C ∧ NoAttr K C f ∧ fs.length < 1000 ∧
  D.nx σ (upd H2 a (.ins C dx (putF f y fs)))
section
variable {X : Cx} {o e value : Expr} {f : Str} {pos pos' tpos : Pos} {ta tv : TE}
theorem pe_fld (he : PE X e ta) (hb : attributeBase e f X.env (eval e X.env) = eval e X.env) : PE X (.Attribute e f pos) (tFld X.K ta f) := by
  intro pins s σ H Q I h
  refine attr_of hb (thn (he pins s σ H _ I h) fun u s1 ⟨x, H1, I1, rx, a, C, dx, fs, v, ex, ea, c, n, l, q⟩ => ?_)
  subst ex
  obtain rfl : u = Value.ref a := rx
  exact getattr_ok I1 ea c n l fun u' s2 I2 ru => ⟨v, H1, I2, ru, q⟩
theorem ps_fld (ha : PE X o ta) (hv : PE X value tv) (hs : swapsWith value (some (.Attribute o f pos')) pos.line X.env = pure false) : PS X (.Assign [.Attribute o f pos'] value pos) (sFld X.K ta tv f) := by
  intro pins s σ H D I h
  refine plainObj_wpAny_Assign_Attribute (thn (hv pins s σ H _ I h) fun u s1 ⟨y, H1, I1, ry, q⟩ => thn (ha pins s1 σ H1 _ I1 q) fun ov s2 ⟨x, H2, I2, rx, a, C, dx, fs, ex, ea, c, n, l, q2⟩ => ?_) hs
  subst ex
  obtain rfl : ov = Value.ref a := rx
  exact setattr_ok I2 ea c n l ry fun s3 I3 => ⟨σ, _, I3, q2⟩
end

/-! ### isinstance -/
section
variable {X : Cx} {pins : List (Addr × Obj)} {σ : St} {H : Hp} {s : Shared} {A : Around} {E : Value → Shared → Prop} {Q : Value → Shared → Prop} {c : Value} {b : Bool}
/-- the type of a value, as the fragment's deciders take it; for an instance its class -/
inductive TyOf (K : PySem.W.Frag) (H : Hp) : V → Value → Prop where
  | non : TyOf K H .non (.type "NoneType")
  | bl (x : Bool) : TyOf K H (.bl x) (.type "bool")
  | int (i : Int) : TyOf K H (.int i) (.type "int")
  | str (x : Str) : TyOf K H (.str x) (.type "str")
  | flt (x : UInt64) : TyOf K H (.flt x) (.type "float")
  | lst {a : Addr} {xs : List V} (e : H a = some (.lst xs)) : TyOf K H (.ref a) (.type "list")
  | frz {a : Addr} {o : Obj} {xs : List V} (e : H a = some (.frz o (.lst xs))) : TyOf K H (.ref a) (.type "list")
  | tup {a : Addr} {xs : List V} (e : H a = some (.tup xs)) : TyOf K H (.ref a) (.type "tuple")
  | dK {a : Addr} {kvs : List (Key × V)} (e : H a = some (.dK kvs)) : TyOf K H (.ref a) (.type "dict")
  | dT {a : Addr} {kvs : List (List Key × V)} (e : H a = some (.dT kvs)) : TyOf K H (.ref a) (.type "dict")
  | ins {a C dx : Addr} {fs : List (Str × V)} (e : H a = some (.ins C dx fs)) (cl : Cls K C) (ha : PySem.W.findIn K (.ref C) "__class__" = some (some (.builtin "object.__class__")))
      (hn : PySem.W.specialIn K (.builtin "object.__class__") "__get__" = some (some (.builtin "getset_descriptor.__get__"))) (htk : PySem.W.takesIn K (.builtin "object.__class__") = some true)
      (hm : PySem.W.mroIn K C (.type "object") = some true) : TyOf K H (.ref a) (.ref C)
end
end L2

namespace L2
open PySem PySem.Spec PyProof.Rows

/-! ### room -/
structure Room (k : Nat) (A : Around) : Prop where
  hd : A.handled = none
  dp : A.depth + 3 * k + 5 < recursionLimit
  un : A.units + 16 * k + 200 < cLine
theorem Room.mono {j k : Nat} {A : Around} (r : Room k A) (h : j ≤ k) : Room j A := ⟨r.hd, by have := r.dp; omega, by have := r.un; omega⟩
theorem Room.deeper {k : Nat} {A : Around} (r : Room (k + 1) A) (env : Env) : Room k (A.deeper env) :=
  ⟨r.hd, by have := r.dp; show A.depth + 1 + 3 * k + 5 < _; omega, by have := r.un; show A.units + 3 + 16 * k + 200 < _; omega⟩
theorem Room.in1 {k : Nat} {A : Around} (r : Room (k + 1) A) : Room k A.in1 :=
  ⟨r.hd, by have := r.dp; show A.depth + 3 * k + 5 < _; omega, by have := r.un; show A.units + 1 + 16 * k + 200 < _; omega⟩
theorem make_depth {A : Around} {C : Addr} {us : List Value} {kw : List (Str × Value)} : (A.under (.builtin "type.__call__" ⟨.ref C :: us, kw⟩)).depth = A.depth + 1 := by
  first | rfl | simp [Around.under, Code.weight, Code.isCreation, Code.isGuard, Code.isCaller, Code.frames, Code.isFrame, guardIds]
theorem make_units {A : Around} {C : Addr} {us : List Value} {kw : List (Str × Value)} : (A.under (.builtin "type.__call__" ⟨.ref C :: us, kw⟩)).units = A.units + 1 := by
  first | rfl | simp [Around.under, Code.cUnits, Code.frames, Code.isFrame]
theorem Room.make {k : Nat} {A : Around} (r : Room (k + 1) A) (C : Addr) (us : List Value) (kw : List (Str × Value)) : Room k (A.under (.builtin "type.__call__" ⟨.ref C :: us, kw⟩)) :=
  ⟨r.hd, by have := r.dp; rw [make_depth]; omega, by have := r.un; rw [make_units]; omega⟩
theorem Room.depth {k : Nat} {A : Around} (r : Room k A) : A.depth < recursionLimit := by have := r.dp; omega
theorem Room.units {k : Nat} {A : Around} (r : Room k A) : A.units + 64 < cLine := by have := r.un; omega
/-! ### argument lists and displays -/
def tNil : TA := fun _ H Q => Q [] H
def tCons (ta : TE) (tr : TA) : TA := fun σ H Q => ta σ H fun x H1 => tr σ H1 fun xs H2 => Q (x :: xs) H2
section
variable {X : Cx} {e : Expr} {es : List Expr} {te : TE} {t : TA} {pos : Pos}
theorem pa_nil : PA X [] tNil := fun _ _ _ _ H Q I h => Calls.spliced_nil ⟨[], H, I, .nil, h⟩
theorem pa_cons (ha : PE X e te) (hr : PA X es t) (hs : starEach (e :: es) X.env = (false, eval e X.env) :: starEach es X.env := by rfl) : PA X (e :: es) (tCons te t) := by
  intro pos pins s σ H Q I h
  rw [hs]
  show wpAny _ _ (spliced ((false, eval e X.env) :: backTo pos (starEach es X.env))) _ _ s
  refine Calls.spliced_cons (thn (ha pins s σ H _ I h) fun u s1 ⟨x, H1, I1, r1, q1⟩ => ?_)
  exact thn (hr pos pins s1 σ H1 _ I1 q1) fun us s2 ⟨xs, H2, I2, r2, q2⟩ => ⟨x :: xs, H2, I2, .cons r1 r2, q2⟩

/-- a tuple, a list of written items -/
def tTup (t : TA) : TE := fun σ H Q => t σ H fun xs H1 => xs.length ≤ sizeLine ∧ ∀ p, H1 p = none → Q (.ref p) (upd H1 p (.tup xs))
def tLst (t : TA) : TE := fun σ H Q => t σ H fun xs H1 => xs.length ≤ sizeLine ∧ ∀ p, H1 p = none → Q (.ref p) (upd H1 p (.lst xs))
theorem pe_tup {x1} (h : PA X es t) : PE X (.Tuple es x1 pos) (tTup t) := by
  intro pins s σ H Q I hq
  refine wpAny_Tuple_spliced (thn (h pos pins s σ H _ I hq) fun us s1 ⟨xs, H1, I1, r, z, q⟩ => ⟨by rw [← r.length]; exact z, ?_⟩)
  have hf : H1 s1.heap.objs.size = none := I1.hok.fresh (Nat.le_refl _)
  refine ⟨.ref s1.heap.objs.size, upd H1 s1.heap.objs.size (.tup xs), I1.laid (t' := s1.toks) (fun b u e => Heap.get?_push_of_some _ e) (Nat.le_refl _) ?_, rfl, q _ hf⟩
  exact ⟨z, us, r, ⟨_, Heap.get?_push_size _ rfl, rfl, _, rfl⟩⟩
theorem pe_lst (h : PA X es t) : PE X (.List es pos) (tLst t) := by
  intro pins s σ H Q I hq
  refine wpAny_List_spliced (thn (h pos pins s σ H _ I hq) fun us s1 ⟨xs, H1, I1, r, z, q⟩ => ⟨by rw [← r.length]; exact z, ?_⟩)
  have hf : H1 s1.heap.objs.size = none := I1.hok.fresh (Nat.le_refl _)
  refine ⟨.ref s1.heap.objs.size, upd H1 s1.heap.objs.size (.lst xs), I1.laid (t' := s1.toks) (fun b u e => Heap.get?_push_of_some _ e) (Nat.le_refl _) ?_, rfl, q _ hf⟩
  exact ⟨z, us, 0, r, Heap.get?_push_size _ rfl⟩
end

/-! ### what a def promises -/
/-- a def's promise: the bound arguments in the parameters' order, the heap, the wanted end, the wanted exception -/
abbrev Sp := List V → Hp → VK → XK → Prop
/-- how an exception lies behind a call (file 08 gives it): the callers' frames, abstract heap and state ahead of the call, the wish, the exception, the state -/
abbrev CXT := List Env → Hp → Shared → XK → Value → Shared → Prop

/-- the state at a call -/
structure Env0 (P : Program) (w : World) (K : PySem.W.Frag) (mg : Str → Option Value) (base : Heap) (A : Around) (outer : List Env) (s : Shared) (H : Hp) : Prop where
  frames : A.frames = some outer
  mod : Mod K mg base
  bs : ∀ b o, base.get? b = some o → s.heap.get? b = some o ∧ H b = none
  bsz : base.objs.size ≤ s.heap.objs.size
  funs : s.heap.FunFrames base outer
  frf : ∀ b ∈ frs outer, H b = none
  hok : HOk P w H s.heap
  bare : AllBare s.gens
/-- a call's end -/
def CE (outer : List Env) (P : Program) (w : World) (H : Hp) (s : Shared) (Q : VK) (u : Value) (s' : Shared) : Prop :=
  ∃ v H', s'.os = s.os ∧ AllBare s'.gens ∧ Un (frs outer) [] H H' s.heap s'.heap ∧ HOk P w H' s'.heap ∧ RelV v u ∧ Q v H'
def CR (CX : CXT) (outer : List Env) (P : Program) (w : World) (H : Hp) (s : Shared) (Q : VK) (E : XK) (r : Result) (s' : Shared) : Prop :=
  match r with
  | .ok (.ret u) => CE outer P w H s Q u s'
  | .ok _ => False
  | .error e => CX outer H s E e s'
structure FnOk (P : Program) (w : World) (K : PySem.W.Frag) (mg : Str → Option Value) (base : Heap) (CX : CXT) (k : Nat) (f : Addr) (fd : FuncData) (ps : List Str) (sp : Sp) : Prop where
  len : ∀ vs H Q E, sp vs H Q E → vs.length = ps.length
  run : ∀ (A : Around) (outer : List Env) (s : Shared) (H : Hp) (args : Args) (us : List Value) (vs : List V) (Q : VK) (E : XK), Room k A → Env0 P w K mg base A outer s H → BindsTo s fd args (ps.zip us) → Vals vs us → sp vs H Q E →
    codeAny (model P w) A (.call (.ref f) args) (CR CX outer P w H s Q E) s
theorem FnOk.mono {P : Program} {w : World} {K : PySem.W.Frag} {mg : Str → Option Value} {base : Heap} {CX : CXT} {j k : Nat} {f : Addr} {fd : FuncData} {ps : List Str} {sp : Sp} (F : FnOk P w K mg base CX j f fd ps sp) (h : j ≤ k) :
    FnOk P w K mg base CX k f fd ps sp := ⟨F.len, fun A outer s H args us vs Q E hr => F.run A outer s H args us vs Q E (hr.mono h)⟩
theorem Env0.make {P : Program} {w : World} {K : PySem.W.Frag} {mg : Str → Option Value} {base : Heap} {A : Around} {outer : List Env} {s : Shared} {H : Hp} (e : Env0 P w K mg base A outer s H) (C : Addr) (us : List Value) (kw : List (Str × Value)) :
    Env0 P w K mg base (A.under (.builtin "type.__call__" ⟨.ref C :: us, kw⟩)) outer s H := ⟨by first | exact e.frames | (simpa [Around.under, Code.envs, Code.isFrame, pushEnvs] using e.frames), e.mod, e.bs, e.bsz, e.funs, e.frf, e.hok, e.bare⟩
theorem Env0.in1 {P : Program} {w : World} {K : PySem.W.Frag} {mg : Str → Option Value} {base : Heap} {A : Around} {outer : List Env} {s : Shared} {H : Hp} (e : Env0 P w K mg base A outer s H) :
    Env0 P w K mg base A.in1 outer s H := ⟨e.frames, e.mod, e.bs, e.bsz, e.funs, e.frf, e.hok, e.bare⟩

section
variable {X : Cx} {pins : List (Addr × Obj)} {σ : St} {H : Hp} {s s' : Shared}
/-- from a body: what a callee wants -/
theorem Inv.env0 (I : Inv X pins σ H s) : Env0 X.prog X.w X.K X.mg X.base X.A X.stack s H :=
  ⟨I.ok.frames, I.ok.mod, I.bs, Nat.le_trans I.ok.bsz I.sz, I.stack, I.stkFree, I.hok, I.bare⟩
/-- behind a call -/
theorem Inv.after {Q : VK} {u : Value} (I : Inv X pins σ H s) (h : CE X.stack X.prog X.w H s Q u s') : EP X pins σ Q u s' := by
  obtain ⟨v, H', os, bare, un, hok, r, q⟩ := h
  obtain ⟨hh, g, d, t, os'⟩ := s'
  obtain rfl : os' = s.os := os
  exact ⟨v, H', I.call (h' := hh) (g' := g) (d' := d) (t' := t) (ch := []) un hok bare (fun b z => absurd z (by simp)), r, q⟩
end

/-! ### calls -/
/-- f(..): the written arguments, then the defaults dvs; E: what is wanted of an exception -/
def tCall (sp : Sp) (dvs : List V) (E : XK) (t : TA) : TE := fun σ H Q => t σ H fun vs H1 => sp (vs ++ dvs) H1 Q E
/-- o.m(..) of an instance of the class at C -/
def tMeth (C : Addr) (m : Str) (sp : Sp) (dvs : List V) (E : XK) (ta : TE) (t : TA) : TE := fun σ H Q => ta σ H fun x H1 => ∃ a dx fs, x = .ref a ∧ H1 a = some (.ins C dx fs) ∧ fs.lookup m = none ∧
  t σ H1 fun vs H2 => sp (x :: (vs ++ dvs)) H2 Q E
/-- C(..): a new instance and its dict, then __init__ -/
def tMake (C : Addr) (sp : Sp) (dvs : List V) (E : XK) (t : TA) : TE := fun σ H Q => t σ H fun vs H1 => ∀ x dx, H1 x = none → H1 dx = none → dx ≠ x →
  sp (.ref x :: (vs ++ dvs)) (upd (upd H1 dx (.own x)) x (.ins C dx [])) (fun v H2 => v = .non ∧ Q (.ref x) H2) E

/-- how the parameters are bound: us the positional arguments, kw the keywords' values by name, ds the defaults that fill up -/
def Binds (K : PySem.W.Frag) (fd : FuncData) (ps : List Str) (ds : List Value) : Prop :=
  ∀ (s : Shared) (us : List Value), K.In s.heap → (us ++ ds).length = ps.length → BindsTo s fd ⟨us, []⟩ (ps.zip (us ++ ds))
/-- every parameter is given -/
theorem Binds.all {K : PySem.W.Frag} {fd : FuncData} {ps : List Str} (h : ∀ us : List Value, us.length = ps.length → bindArgs fd ⟨us, []⟩ = pure (ps.zip us)) : Binds K fd ps [] := fun s us _ hl => by
  rw [List.append_nil] at hl ⊢
  exact .of_eq (h us hl)

/-- an exception of a callee reaches what this body wants of exceptions -/
def Passes (CX : CXT) (X : Cx) (E : XK) : Prop := ∀ (pins : List (Addr × Obj)) (σ : St) (H : Hp) (s : Shared) (e : Value) (s' : Shared), Inv X pins σ H s → CX X.stack H s E e s' → X.xe e s'

section
variable {X : Cx} {CX : CXT} {k : Nat} {f C : Addr} {fd : FuncData} {ps : List Str} {sp : Sp} {dvs : List V} {ds : List Value} {E : XK} {x m : Str} {p pos apos : Pos} {e o : Expr} {es : List Expr} {ta : TE} {t : TA}

/-- the callee runs -/
theorem run_fn {pins : List (Addr × Obj)} {σ : St} {H : Hp} {s : Shared} {Q : VK} {us : List Value} {vs : List V} (F : FnOk X.prog X.w X.K X.mg X.base CX k f fd ps sp) (hr : Room k X.A) (hb : Binds X.K fd ps ds) (hd : Vals dvs ds) (hx : Passes CX X E)
    (I : Inv X pins σ H s) (r : Vals vs us) (h : sp (vs ++ dvs) H Q E) : wpAny (model X.prog X.w) X.A (call (.ref f) us) (EP X pins σ Q) X.xe s := by
  have r2 : Vals (vs ++ dvs) (us ++ ds) := r.append hd
  have hl : (us ++ ds).length = ps.length := by rw [← r2.length]; exact F.len _ _ _ _ h
  refine wpAny_call (codeAny_mono (F.run X.A X.stack s H ⟨us, []⟩ (us ++ ds) (vs ++ dvs) Q E hr I.env0 (hb s us I.kIn hl) r2 h) fun r s' hq => ?_)
  cases r with
  | error e => exact hx pins σ H s e s' I hq
  | ok fl =>
    cases fl with
    | ret u => exact I.after hq
    | next => exact False.elim hq
    | brk => exact False.elim hq
    | cont => exact False.elim hq

theorem pe_call (F : FnOk X.prog X.w X.K X.mg X.base CX k f fd ps sp) (hr : Room k X.A) (hg : Gl X x) (hm : X.mg x = some (.ref f)) (hk : PySem.W.keepIn X.K (.ref f) = true) (hb : Binds X.K fd ps ds) (hd : Vals dvs ds) (hx : Passes CX X E)
    (ha : PA X (e :: es) t) (hdb : (x == ("__debug__" : Str)) = false := by decide) (he : starEach (e :: es) X.env = (false, eval e X.env) :: starEach es X.env := by rfl) (hpl : (backTo pos (starEach es X.env)).any (·.1) = false := by rfl) :
    PE X (.Call (.Name x p) (e :: es) [] pos) (tCall sp dvs E t) := by
  intro pins s σ H Q I h
  refine wpAny_Call_Name_kw (ld_glob I hg hm ?_ hdb)
  refine PySem.W.callWith_K (h₀ := X.base) I.ok.mod.kin hk (thn (ha pos pins s σ H _ I h) fun us s1 ⟨vs, H1, I1, r, q⟩ => ⟨I1.kIn, ?_⟩) he hpl
  exact run_fn F hr hb hd hx I1 r q
theorem pe_call0 (F : FnOk X.prog X.w X.K X.mg X.base CX k f fd ps sp) (hr : Room k X.A) (hg : Gl X x) (hm : X.mg x = some (.ref f)) (hk : PySem.W.keepIn X.K (.ref f) = true) (hb : Binds X.K fd ps ds) (hd : Vals dvs ds) (hx : Passes CX X E)
    (hdb : (x == ("__debug__" : Str)) = false := by decide) : PE X (.Call (.Name x p) [] [] pos) (tCall sp dvs E tNil) := by
  intro pins s σ H Q I h
  refine wpAny_Call_Name_kw (ld_glob I hg hm ?_ hdb)
  exact PySem.W.callWith_K0 I.kIn hk (run_fn (us := []) F hr hb hd hx I .nil h)

/-- o.m(e, ..) -/
theorem pe_meth {pl : Sem Bool} (he : PE X o ta) (c : Cls X.K C) (hm : Meth X.K C m f) (F : FnOk X.prog X.w X.K X.mg X.base CX k f fd ps sp) (hr : Room k X.A) (hb : Binds X.K fd ps ds) (hd : Vals dvs ds) (hx : Passes CX X E) (ha : PA X (e :: es) t)
    (hst : starEach (e :: es) X.env = (false, eval e X.env) :: starEach es X.env := by rfl) (hpl : (backTo pos (starEach es X.env)).any (·.1) = false := by rfl)
    (ht : eval (.Call (.Attribute o m apos) (e :: es) [] pos) X.env = (do
      let ov ← eval o X.env
      standAt apos.atName
      let (f, first) ← holding [ov] (getMethod ov m pl)
      callWith pos f first (backTo pos (starEach (e :: es) X.env)) (backToKw pos (keywordEach [] X.env))) := by rfl) :
    PE X (.Call (.Attribute o m apos) (e :: es) [] pos) (tMeth C m sp dvs E ta t) := by
  intro pins s σ H Q I h
  refine PySem.W.methodCall_KW (pl := pl) (thn (he pins s σ H _ I h) fun u s1 ⟨x, H1, I1, rx, a, dx, fs, ex, ea, l, q⟩ => ?_) ht
  subst ex
  obtain rfl : u = Value.ref a := rx
  refine getmeth_ok I1 ea c hm l ?_
  refine PySem.W.callWith_K (first := [.ref a]) (h₀ := X.base) I.ok.mod.kin hm.kp (thn (ha pos pins s1 σ H1 _ I1 q) fun us s2 ⟨vs, H2, I2, r, q2⟩ => ⟨I2.kIn, ?_⟩) hst hpl
  exact run_fn (us := .ref a :: us) (vs := .ref a :: vs) F hr hb hd hx I2 (.cons rfl r) q2
/-- o.m() -/
theorem pe_meth0 {pl : Sem Bool} (he : PE X o ta) (c : Cls X.K C) (hm : Meth X.K C m f) (F : FnOk X.prog X.w X.K X.mg X.base CX k f fd ps sp) (hr : Room k X.A) (hb : Binds X.K fd ps ds) (hd : Vals dvs ds) (hx : Passes CX X E)
    (ht : eval (.Call (.Attribute o m apos) [] [] pos) X.env = (do
      let ov ← eval o X.env
      standAt apos.atName
      let (f, first) ← holding [ov] (getMethod ov m pl)
      callWith pos f first (backTo pos (starEach [] X.env)) (backToKw pos (keywordEach [] X.env))) := by rfl) :
    PE X (.Call (.Attribute o m apos) [] [] pos) (tMeth C m sp dvs E ta tNil) := by
  intro pins s σ H Q I h
  refine PySem.W.methodCall_KW (pl := pl) (thn (he pins s σ H _ I h) fun u s1 ⟨x, H1, I1, rx, a, dx, fs, ex, ea, l, q⟩ => ?_) ht
  subst ex
  obtain rfl : u = Value.ref a := rx
  refine getmeth_ok I1 ea c hm l ?_
  exact PySem.W.callWith_K0 (first := [.ref a]) I1.kIn hm.kp (run_fn (us := [.ref a]) (vs := [.ref a]) F hr hb hd hx I1 (.cons rfl .nil) q)

/-- what a class must have to be made -/
structure Mk (K : PySem.W.Frag) (C f : Addr) : Prop where
  makes : PySem.W.makesIn K C = true
  init : PySem.W.findIn K (.ref C) "__init__" = some (some (.ref f))
  fn : PySem.W.isFn K (.ref f) = true
  kp : PySem.W.keepIn K (.ref C) = true

theorem run_make {pins : List (Addr × Obj)} {σ : St} {H : Hp} {s : Shared} {Q : VK} {us : List Value} {vs : List V} (M : Mk X.K C f) (F : FnOk X.prog X.w X.K X.mg X.base CX k f fd ps sp) (hr : Room (k + 1) X.A) (hb : Binds X.K fd ps ds) (hd : Vals dvs ds)
    (hx : Passes CX X E) (I : Inv X pins σ H s) (r : Vals vs us)
    (h : ∀ x dx, H x = none → H dx = none → dx ≠ x → sp (.ref x :: (vs ++ dvs)) (upd (upd H dx (.own x)) x (.ins C dx [])) (fun v H2 => v = .non ∧ Q (.ref x) H2) E) :
    wpAny (model X.prog X.w) X.A (call (.ref C) us) (EP X pins σ Q) X.xe s := by
  have hq := h (s.heap.objs.size + 1) s.heap.objs.size (I.hok.fresh (Nat.le_succ _)) (I.hok.fresh (Nat.le_refl _)) (Nat.ne_of_lt (Nat.lt_succ_self _))
  have I2 := Inv.made (C := C) I
  have r2 : Vals (V.ref (s.heap.objs.size + 1) :: (vs ++ dvs)) (Value.ref (s.heap.objs.size + 1) :: (us ++ ds)) := .cons rfl (r.append hd)
  have hl : (Value.ref (s.heap.objs.size + 1) :: us ++ ds).length = ps.length := by
    have e := r2.length
    rw [F.len _ _ _ _ hq] at e
    exact e.symm
  refine wpAny_call (make_map (f := f) I.kIn M.makes M.init (beq_iff_eq.mp M.fn) (codeAny_mono (F.run _ X.stack _ _ ⟨Value.ref (s.heap.objs.size + 1) :: us, []⟩ (Value.ref (s.heap.objs.size + 1) :: (us ++ ds)) _ _ E (hr.make C us [])
    (I2.env0.make C us []) (hb _ (Value.ref (s.heap.objs.size + 1) :: us) I2.kIn hl) r2 hq) fun r s' hq' => ?_))
  cases r with
  | error e => exact hx pins σ _ _ e s' I2 hq'
  | ok fl =>
    cases fl with
    | ret u =>
      obtain ⟨v, H', I3, rv, ev, q3⟩ := I2.after hq'
      subst ev
      exact ⟨rv, ⟨V.ref (s.heap.objs.size + 1), H', I3, rfl, q3⟩⟩
    | next => exact False.elim hq'
    | brk => exact False.elim hq'
    | cont => exact False.elim hq'
theorem pe_make0 (M : Mk X.K C f) (F : FnOk X.prog X.w X.K X.mg X.base CX k f fd ps sp) (hr : Room (k + 1) X.A) (hg : Gl X x) (hm : X.mg x = some (.ref C)) (hb : Binds X.K fd ps ds) (hd : Vals dvs ds) (hx : Passes CX X E)
    (hdb : (x == ("__debug__" : Str)) = false := by decide) : PE X (.Call (.Name x p) [] [] pos) (tMake C sp dvs E tNil) := by
  intro pins s σ H Q I h
  refine wpAny_Call_Name_kw (ld_glob I hg hm ?_ hdb)
  exact PySem.W.callWith_K0 I.kIn M.kp (run_make (us := []) M F hr hb hd hx I .nil h)
end

/-! ### keywords -/
section
variable {X : Cx} {CX : CXT} {k : Nat} {f C : Addr} {fd : FuncData} {ps ks : List Str} {sp : Sp} {E : XK} {x m : Str} {p pos apos kpos : Pos} {e o : Expr} {es : List Expr} {kws : List Keyword} {te ta : TE} {t tk : TA} {nm : Option Str}
/-- how a call with keywords binds: g puts the positional values us and the keywords' values ws (names ks) in the parameters' order, defaults among them -/
structure KBinds (K : PySem.W.Frag) (fd : FuncData) (ps ks : List Str) (g : List Value → List Value → List Value) (gV : List V → List V → List V) : Prop where
  to : ∀ (s : Shared) (us ws : List Value), K.In s.heap → (g us ws).length = ps.length → BindsTo s fd ⟨us, ks.zip ws⟩ (ps.zip (g us ws))
  rel : ∀ {vs : List V} {us : List Value} {zs : List V} {ws : List Value}, Vals vs us → Vals zs ws → Vals (gV vs zs) (g us ws)
variable {g : List Value → List Value → List Value} {gV : List V → List V → List V}
end

/-! ### a def's body keeps its promise -/
/-- names: the parameters first -/
structure FnScope (N P : List Str) (sc : Scope) : Prop where
  kind : sc.kind = .function
  co : sc.isCoroutine = false
  gen : sc.isGenerator = false
  nd : N.Nodup
  pre : N.take P.length = P
  par : ∀ x ∈ P, sc.names.lookup x = some .local ∨ sc.names.lookup x = some .cell
  nofree : ∀ y ∈ sc.names, y.2 ≠ .free

theorem bindL_out {kindOf : Str → Option NameKind} {x : Str} : ∀ {binds : List (Str × Value)} {m : Str → Option Value}, (∀ v, (x, v) ∉ binds) → bindL kindOf binds m x = m x
  | [], _, _ => rfl
  | (n, v) :: r, m, h => by
    unfold bindL
    rw [bindL_out fun w hw => h w (List.mem_cons_of_mem _ hw)]
    split
    · have : x ≠ n := by rintro rfl; exact h v List.mem_cons_self
      simp [this]
    · rfl
theorem bindC_out {kindOf : Str → Option NameKind} {x : Str} : ∀ {binds : List (Str × Value)} {m : Str → Option Value}, (∀ v, (x, v) ∉ binds) → bindC kindOf binds m x = m x
  | [], _, _ => rfl
  | (n, v) :: r, m, h => by
    unfold bindC
    rw [bindC_out fun w hw => h w (List.mem_cons_of_mem _ hw)]
    split
    · rfl
    · have : x ≠ n := by rintro rfl; exact h v List.mem_cons_self
      simp [this]
theorem bindL_get {kindOf : Str → Option NameKind} {x : Str} {v : Value} : ∀ {P : List Str} {vs : List Value} {i : Nat} {m : Str → Option Value}, P.Nodup → P[i]? = some x → vs[i]? = some v → kindOf x = some .local →
    bindL kindOf (P.zip vs) m x = some v
  | [], _, _, _, _, h, _, _ => by simp at h
  | _ :: _, [], _, _, _, _, h, _ => by simp at h
  | p :: P, w :: vs, 0, m, nd, h1, h2, hk => by
    simp at h1 h2; subst h1; subst h2
    show bindL kindOf ((p, w) :: P.zip vs) m p = _
    unfold bindL
    rw [bindL_out fun v hv => (List.nodup_cons.mp nd).1 (List.of_mem_zip hv).1, if_pos hk]
    simp
  | p :: P, w :: vs, i + 1, m, nd, h1, h2, hk => by
    show bindL kindOf ((p, w) :: P.zip vs) m x = _
    unfold bindL
    exact bindL_get (i := i) (List.nodup_cons.mp nd).2 (by simpa using h1) (by simpa using h2) hk
theorem bindC_get {kindOf : Str → Option NameKind} {x : Str} {v : Value} : ∀ {P : List Str} {vs : List Value} {i : Nat} {m : Str → Option Value}, P.Nodup → P[i]? = some x → vs[i]? = some v → kindOf x ≠ some .local →
    bindC kindOf (P.zip vs) m x = some v
  | [], _, _, _, _, h, _, _ => by simp at h
  | _ :: _, [], _, _, _, _, h, _ => by simp at h
  | p :: P, w :: vs, 0, m, nd, h1, h2, hk => by
    simp at h1 h2; subst h1; subst h2
    show bindC kindOf ((p, w) :: P.zip vs) m p = _
    unfold bindC
    rw [bindC_out fun v hv => (List.nodup_cons.mp nd).1 (List.of_mem_zip hv).1, if_neg hk]
    simp
  | p :: P, w :: vs, i + 1, m, nd, h1, h2, hk => by
    show bindC kindOf ((p, w) :: P.zip vs) m x = _
    unfold bindC
    exact bindC_get (i := i) (List.nodup_cons.mp nd).2 (by simpa using h1) (by simpa using h2) hk

/-- the names' values at the entry -/
def start (N : List Str) (vs : List V) : St := vs.map some ++ List.replicate (N.length - vs.length) none

/-- the context of a def's body, at its entry; an exception leaves the frame, then lies as CX says -/
def cxOf (CX : CXT) (P : Program) (w : World) (K : PySem.W.Frag) (mg : Str → Option Value) (base : Heap) (N : List Str) (qual : Str) (scope : Scope) (f : Addr) (cd : Value) (A : Around) (outer : List Env) (s : Shared) (H : Hp) (E : XK) : Cx where
  prog := P
  w := w
  K := K
  mg := mg
  base := base
  A := A.deeper (envOfC qual scope s.heap.objs.size f cd)
  N := N
  s_0 := s
  H_0 := H
  env := envOfC qual scope s.heap.objs.size f cd
  outer := outer
  stack := envOfC qual scope s.heap.objs.size f cd :: outer
  ex := []
  calm := true
  fn := fun _ => true
  pn := []
  xe := fun e s' => wpAny (model P w) (A.deeper (envOfC qual scope s.heap.objs.size f cd)) (leaving (envOfC qual scope s.heap.objs.size f cd) e) (fun _ s'' => CX outer H s E e s'') (fun e' s'' => CX outer H s E e' s'') s'

theorem cell_has {sc : Scope} {n : Nat} {x : Str} (h : sc.names.lookup x = some .cell) : ∃ c, (cellsFrom n sc.names []).lookup x = some c := by
  have q := PySem.W.cellsFrom_some sc.names n [] (.inl h)
  exact Option.isSome_iff_exists.mp q

theorem inv_start {CX : CXT} {P : Program} {w : World} {K : PySem.W.Frag} {mg : Str → Option Value} {base : Heap} {N ps : List Str} {qual : Str} {scope : Scope} {f : Addr} {cd : Value} {A : Around} {outer : List Env} {s s1 : Shared} {H : Hp} {E : XK} {us : List Value} {vs : List V}
    (S : FnScope N ps scope) (hd : A.handled = none) (e0 : Env0 P w K mg base A outer s H) (hl : vs.length = ps.length) (r : Vals vs us)
    (x : InCallC s s.heap.objs.size (bindL (envOfC qual scope s.heap.objs.size f cd).kindOf (ps.zip us) fun _ => none) (cellsFrom (s.heap.objs.size + 1) scope.names []) (bindC (envOfC qual scope s.heap.objs.size f cd).kindOf (ps.zip us) fun _ => none) s1) :
    Inv (cxOf CX P w K mg base N qual scope f cd A outer s H E) [] (start N vs) H s1 := by
  have hpl : ps.length ≤ N.length := by have := congrArg List.length S.pre; rw [List.length_take] at this; omega
  obtain ⟨h1, tk, rfl, hk⟩ := x.done
  have noA : ∀ b : Addr, b ∉ (cxOf CX P w K mg base N qual scope f cd A outer s H E).ex := fun b z => absurd (show b ∈ ([] : List Addr) from z) (by simp)
  refine ⟨⟨e0.mod, S.kind, rfl, rfl, Nat.le_refl _, fun y z c h1 h2 => ?_, fun y hy => ?_, fun y c _ h => ?_, fun _ => hd, Around.frames_deeper e0.frames, .inr ⟨rfl, rfl⟩, fun b z => absurd z (noA b), e0.bs, e0.bsz, fun b _ _ => noA b, fun b z => absurd z (noA b), e0.funs, e0.frf⟩,
    rfl, e0.bare, Un.kept hk, ⟨_, x.toInCall.ns, fun i y v h1 h2 h3 => ?_⟩, fun y c h => ⟨_, x.cell y c h⟩, e0.hok.fresh (Nat.le_refl _), fun y c h => ?_, fun p hp => absurd (show p ∈ ([] : List (Addr × Obj)) from hp) (by simp), e0.hok.kept hk, ?_⟩
  · exact name_of_addr x.apart (PySem.mem_of_lookup h1) (PySem.mem_of_lookup h2)
  · have hy : scope.names.lookup y = some .cell ∨ scope.names.lookup y = some .free := hy
    rcases hy with hy | hy
    · exact cell_has hy
    · exact absurd rfl (S.nofree _ (PySem.mem_of_lookup hy))
  · exact Nat.le_of_lt (x.above y c (PySem.mem_of_lookup h))
  · have hi : i < vs.length := by
      unfold start at h2
      by_cases hi : i < vs.length
      · exact hi
      · rw [List.getElem?_append_right (by simpa using hi)] at h2
        rw [List.getElem?_replicate] at h2
        split at h2 <;> cases h2
    have ha : vs[i]? = some v := by
      unfold start at h2
      rw [List.getElem?_append_left (by simpa using hi), List.getElem?_map] at h2
      cases e : vs[i]? with
      | none => rw [e] at h2; cases h2
      | some a => rw [e] at h2; cases h2; rfl
    obtain ⟨u, hu, rv⟩ := r.get ha
    have hp : ps[i]? = some y := by
      rw [← S.pre, List.getElem?_take_of_lt (by omega)]; exact h1
    have ndP : ps.Nodup := by rw [← S.pre]; exact S.nd.sublist (List.take_sublist _ _)
    refine ⟨u, rv, ?_⟩
    rcases S.par y (List.mem_of_getElem? hp) with k | k
    · exact .inl ⟨k, bindL_get ndP hp hu k⟩
    · obtain ⟨c, e⟩ := cell_has (n := s.heap.objs.size + 1) k
      refine .inr ⟨.inl k, c, e, ?_⟩
      have q := x.cell y c e
      rw [bindC_get ndP hp hu (by show scope.names.lookup y ≠ _; rw [k]; decide)] at q
      exact q
  · exact e0.hok.fresh (Nat.le_of_lt (x.above y c (PySem.mem_of_lookup h)))
  · unfold start
    show _ = N.length
    rw [List.length_append, List.length_map, List.length_replicate]
    omega

/-- THE RULE: a def (or a method) of the text, by its body. The body's reading t is chosen for each entry; it is run at the parameters' values -/
theorem fn_of {CX : CXT} {P : Program} {w : World} {K : PySem.W.Frag} {mg : Str → Option Value} {base : Heap} {k : Nat} {f : Addr} {name qual : Str} {params : Arguments} {body : List Stmt} {scope : Scope} {dV kV doc pm cdv ct oc : Value} {an od : Option Addr}
    {osl : Array (Option Value)} {N ps : List Str} {sp : Sp} (lk : K.lookup f = some ⟨oc, od, .func (PySem.W.fnOf name qual params body scope dV kV doc pm an cdv ct), osl⟩) (hcd : PySem.W.codeIn K cdv qual = true) (S : FnScope N ps scope)
    (len : ∀ vs H Q E, sp vs H Q E → vs.length = ps.length)
    (hbody : ∀ (A : Around) (outer : List Env) (s : Shared) (H : Hp) (vs : List V) (Q : VK) (E : XK), Room k (A.deeper (envOfC qual scope s.heap.objs.size f cdv)) → sp vs H Q E →
      ∃ t, PSs (cxOf CX P w K mg base N qual scope f cdv A outer s H E) body t ∧ t { nx := fun _ H' => Q .non H', rt := Q } (start N vs) H) :
    FnOk P w K mg base CX (k + 1) f (PySem.W.fnOf name qual params body scope dV kV doc pm an cdv ct) ps sp := by
  refine ⟨len, fun A outer s H args us vs Q E hr e0 hb r hsp => ?_⟩
  have hl := len _ _ _ _ hsp
  have KX : K.In s.heap := e0.mod.kin.keeps fun b o e => (e0.bs b o e).1
  have lim : s.heap.NoLimit := e0.mod.nolimit.keeps fun b o e => (e0.bs b o e).1
  have hkind : ∀ y ∈ ps.zip us, scope.names.lookup y.1 = some .local ∨ (scope.names.lookup y.1 = some .cell ∧ ((cellsFrom (s.heap.objs.size + 1) scope.names []).lookup y.1).isSome = true) := fun ⟨n, v⟩ hy => by
    rcases S.par n (List.of_mem_zip hy).1 with q | q
    · exact .inl q
    · exact .inr ⟨q, PySem.W.cellsFrom_some _ _ _ (.inl q)⟩
  refine codeAny_call_function hr.depth (KX _ _ lk) rfl S.co S.gen rfl (PySem.W.codeRec_of KX hcd) (hb _ _ _ _ ?_)
  refine wpAny_newFunctionEnv_cells S.kind hkind fun env he s1 x => ?_
  subst he
  refine ⟨lim.keeps x.toInCall.keep, codeAny_func ?_⟩
  obtain ⟨t, ht, hq⟩ := hbody A outer s H vs Q E (hr.deeper _) hsp
  have I : Inv (cxOf CX P w K mg base N qual scope f cdv A outer s H E) [] (start N vs) H s1 := inv_start S hr.hd e0 hl r x
  refine wpAny_mono (ht [] s1 (start N vs) H _ I hq) (fun fl s' hs => ?_) fun e s' hs => hs
  have fin : ∀ {σ' : St} {H' : Hp} {v : V} {u : Value}, Inv (cxOf CX P w K mg base N qual scope f cdv A outer s H E) [] σ' H' s' → RelV v u → Q v H' → CE outer P w H s Q u s' :=
    fun {σ' H' v u} J rv q => ⟨v, H', J.os, J.bare, J.base, J.hok, rv, q⟩
  cases fl with
  | ret u =>
    obtain ⟨v, σ', H', J, rv, q⟩ := hs
    exact fin J rv q
  | next =>
    obtain ⟨σ', H', J, q⟩ := hs
    exact fin (v := V.non) (u := Value.none) J rfl q
  | brk =>
    obtain ⟨_, _, _, q⟩ := hs
    exact False.elim q
  | cont =>
    obtain ⟨_, _, _, q⟩ := hs
    exact False.elim q
end L2

namespace L2
open PySem PySem.Spec PyProof.Rows
section
variable {X : Cx} {x : Str} {p pos : Pos} {e : Expr} {es : List Expr} {t : TA} {id T : String} {r : List V → Hp → VK → Prop}

def tCB (r : List V → Hp → VK → Prop) (t : TA) : TE := fun σ H Q => t σ H fun vs H1 => r vs H1 Q
/-- f(e, ..), f a built-in function -/
theorem pe_callB (hc : CallR X (.builtin id) r) (hg : Gl X x) (hm : X.mg x = none) (hv : bootBuiltins x = some (.builtin id)) (ha : PA X (e :: es) t) (hn : x ≠ "__name__" := by decide) (hdb : (x == ("__debug__" : Str)) = false := by decide)
    (he : starEach (e :: es) X.env = (false, eval e X.env) :: starEach es X.env := by rfl) (hpl : (backTo pos (starEach es X.env)).any (·.1) = false := by rfl) : PE X (.Call (.Name x p) (e :: es) [] pos) (tCB r t) := by
  intro pins s σ H Q I h
  refine wpAny_Call_Name_kw (ld_blt I hg hm hv ?_ hn hdb)
  exact PyProof.Rows.callWith_builtin1 (thn (ha pos pins s σ H _ I h) fun us s1 ⟨vs, H1, I1, r1, q1⟩ => hc pins s1 σ H1 vs us Q I1 r1 q1) he hpl
end
end L2

namespace HT
open PySem PyProof.Rows

section
open PySem.SeqAt
open PySem.AutoSeq1 (wpAny_loadPart')
open PySem.MeetsSeq PySem.MeetsSeq2 PySem.MeetsSeq3

end

section
variable {prog : Program} {w : World} {A : Around} {E : Value → Shared → Prop} {s : Shared}

/-! ### t[a:b], not the whole -/
/-- a slice's bound as a place among n (d where it is left out) -/
def sIx (n d : Nat) : Option Int → Nat
  | none => d
  | some v => if v < 0 then (v + (n : Int)).toNat else min v.toNat n
theorem sIx_le (n d : Nat) (hd : d ≤ n) (o : Option Int) : sIx n d o ≤ n := by
  cases o with
  | none => exact hd
  | some v =>
    show (if v < 0 then (v + (n : Int)).toNat else min v.toNat n) ≤ n
    by_cases hv : v < 0
    · rw [if_pos hv]; omega
    · rw [if_neg hv]; exact Nat.min_le_right _ _
theorem clip_eq (v : Int) (n d : Nat) : (if v < 0 then max (v + (n : Int)) 0 else min v (n : Int)) = ((sIx n d (some v) : Nat) : Int) := by
  show (if v < 0 then max (v + (n : Int)) 0 else min v (n : Int)) = (((if v < 0 then (v + (n : Int)).toNat else min v.toNat n) : Nat) : Int)
  by_cases hv : v < 0
  · simp only [if_pos hv]; omega
  · simp only [if_neg hv]; omega
theorem adjust_gen (lo hi : Option Int) (n : Nat) : Builtin.Slice.sliceAdjust lo hi 1 (n : Int) = (((sIx n 0 lo : Nat) : Int), ((sIx n n hi : Nat) : Int)) := by
  have h1 : ¬ ((1 : Int) < 0) := by omega
  unfold Builtin.Slice.sliceAdjust
  simp only [h1, if_false]
  refine Prod.ext ?_ ?_
  · cases lo with
    | none => rfl
    | some v => exact clip_eq v n 0
  · cases hi with
    | none => rfl
    | some v => exact clip_eq v n n
theorem places_gen (i j : Nat) : Builtin.Slice.slicePlaces (i : Int) (j : Int) 1 = j - i := by
  unfold Builtin.Slice.slicePlaces
  have h1 : (1 : Int) > 0 := by omega
  simp only [h1, if_true, Int.ediv_one]
  split <;> omega
theorem slicePart_ {v : Value} {o : Option Int} {Q : Option Int → Shared → Prop} (p : IsPart v o) (h : Q o s) : wpAny (model prog w) A (Builtin.Slice.slicePartIndex v) Q E s := by
  cases p with
  | none => exact slicePart_none h
  | int i t => exact slicePart_int h
theorem sliceApplied_gen {sl : Addr} {vl vu : Value} {lo hi : Option Int} {n : Nat} {Q : Int × Int × Nat → Shared → Prop} (hs : s.heap.IsSliceOf sl vl vu .none) (pl : IsPart vl lo) (pu : IsPart vu hi)
    (h : Q (((sIx n 0 lo : Nat) : Int), 1, sIx n n hi - sIx n 0 lo) s) : wpAny (model prog w) A (Builtin.Slice.sliceApplied (.ref sl) (pure (n : Int))) Q E s := by
  obtain ⟨os, hos, hcs, hds⟩ := id hs
  unfold Builtin.Slice.sliceApplied Builtin.Slice.sliceFields
  refine wpAny_bind (wpAny_bind (wpAny_field hos hds (x := vl) rfl (wpAny_bind (wpAny_field hos hds (x := vu) rfl (wpAny_bind (wpAny_field hos hds (x := .none) rfl (wpAny_pure ?_)))))))
  refine wpAny_bind (slicePart_none ?_)
  show wpAny _ _ (if ((1 : Int) == 0) = true then _ else _) _ _ s
  rw [if_neg (by decide)]
  refine wpAny_bind (slicePart_ pl (wpAny_bind (slicePart_ pu (wpAny_bind (wpAny_pure ?_)))))
  show wpAny _ _ (match Builtin.Slice.sliceAdjust lo hi 1 (n : Int) with | (lo, hi) => pure (lo, (1 : Int), Builtin.Slice.slicePlaces lo hi 1)) _ _ s
  rw [adjust_gen lo hi n]
  show wpAny _ _ (pure (((sIx n 0 lo : Nat) : Int), (1 : Int), Builtin.Slice.slicePlaces ((sIx n 0 lo : Nat) : Int) ((sIx n n hi : Nat) : Int) 1)) _ _ s
  rw [places_gen]
  exact wpAny_pure h
theorem pick_gen (xs : Array Value) (i k : Nat) : ((List.range k).filterMap fun (m : Nat) => xs[((i : Int) + (m : Int) * 1).toNat]?).toArray = ((xs.toList.drop i).take k).toArray := by
  have e : (fun (m : Nat) => xs[((i : Int) + (m : Int) * 1).toNat]?) = fun m => xs[i + m]? := by
    funext m
    have : ((i : Int) + (m : Int) * 1).toNat = i + m := by omega
    rw [this]
  rw [e]
  have := pick_run xs i k
  rw [List.filterMap_map] at this
  have e2 : ((fun x => xs[x]?) ∘ fun x => i + x) = fun m => xs[i + m]? := rfl
  rw [e2] at this
  rw [this]

theorem getItem_tuple_cut {t sl : Addr} {items : Array Value} {vl vu : Value} {lo hi : Option Int} {Q : Value → Shared → Prop} (ht : IsTup s.heap t items) (hs : s.heap.IsSliceOf sl vl vu .none) (pl : IsPart vl lo) (pu : IsPart vu hi)
    (hw : ¬ (sIx items.size 0 lo = 0 ∧ sIx items.size items.size hi = items.size))
    (h : Q (.ref s.heap.objs.size) { s with heap := s.heap.push { cls := .type "tuple", data := .seq ((items.toList.drop (sIx items.size 0 lo)).take (sIx items.size items.size hi - sIx items.size 0 lo)).toArray } })
    (hsz : items.size ≤ sizeLine) : wpAny (model prog w) A (getItem (.ref t) (.ref sl)) Q E s := by
  have htake : sizeOk (.seq ((items.toList.drop (sIx items.size 0 lo)).take (sIx items.size items.size hi - sIx items.size 0 lo)).toArray) := by
    show ((items.toList.drop (sIx items.size 0 lo)).take (sIx items.size items.size hi - sIx items.size 0 lo)).toArray.size ≤ sizeLine
    rw [List.size_toArray, List.length_take, List.length_drop, Array.length_toList]
    omega
  have hj : sIx items.size items.size hi ≤ items.size := sIx_le _ _ (Nat.le_refl _) hi
  obtain ⟨os, hos, hcs, hds⟩ := id hs
  have hTs : s.TypeIs (.ref sl) "slice" := ⟨os, hos, hcs⟩
  unfold getItem
  try with_reducible refine wpAny_holding ?_
  first | refine wpAny_bind (wpAny_pure ?_) | skip
  refine wpAny_bind (wpAny_sequenceKey ht.typeIs (by decide) ?_)
  refine wpAny_bind (wpAny_callSpecial?_slot (name := Str.ofString "__getitem__") ht.typeIs PyProof.Rows.slot_tuple_getitem
    (wpAny_call_entry PyProof.Rows.slot_tuple_getitem ht.typeIs entry_tuple_getitem ?_ (args_tuple_getitem _ _)))
  show wpAny _ _ (Builtin.Tuple.tupleItemsOf (.ref t) >>= _) _ _ s
  refine wpAny_bind (tupleItemsOf_ ht ?_)
  refine wpAny_bind (wpAny_typeOf hTs ?_)
  rw [if_pos (by decide)]
  refine wpAny_bind (sliceApplied_gen hs pl pu ?_)
  have hno : ¬ ((((sIx items.size 0 lo : Nat) : Int) == 0 && (1 : Int) == 1 && (sIx items.size items.size hi - sIx items.size 0 lo) == items.size) = true) := by
    intro q
    rw [Bool.and_eq_true, Bool.and_eq_true] at q
    have q1 : ((sIx items.size 0 lo : Nat) : Int) = 0 := eq_of_beq q.1.1
    have q2 : sIx items.size items.size hi - sIx items.size 0 lo = items.size := eq_of_beq q.2
    exact hw ⟨by omega, by omega⟩
  show wpAny _ _ (if (((sIx items.size 0 lo : Nat) : Int) == 0 && (1 : Int) == 1 && (sIx items.size items.size hi - sIx items.size 0 lo) == items.size) = true then _ else _) _ _ s
  rw [if_neg hno, pick_gen]
  first
    | exact wpAny_bind (m := Builtin.Tuple.tupleExact _) (wpAny_newObj_type (wpAny_pure ⟨_, rfl, wpAny_pure h⟩) htake)
    | exact wpAny_bind (m := Builtin.Tuple.tupleExact _) (wpAny_newObj_type (wpAny_bind (wpAny_pure (wpAny_pure ⟨_, rfl, wpAny_pure h⟩))) htake)
    | exact wpAny_bind (wpAny_bind (m := Builtin.Tuple.tupleExact _) (wpAny_newObj_type (wpAny_pure (wpAny_pure ⟨_, rfl, wpAny_pure h⟩)) htake))
    | exact wpAny_bind (wpAny_bind (m := Builtin.Tuple.tupleExact _) (wpAny_newObj_type (wpAny_pure ⟨_, rfl, wpAny_pure h⟩) htake))
end
end HT

namespace L2
open PySem PySem.Spec PyProof.Rows

/-! ### the parts of a slice -/
abbrev TO := St → Hp → (Option Int → Hp → Prop) → Prop
/-- a slice's part (left out, or an int) -/
def PO (X : Cx) (e : Option Expr) (t : TO) : Prop :=
  ∀ (pins : List (Addr × Obj)) (s : Shared) (σ : St) (H : Hp) (Q : Option Int → Hp → Prop), Inv X pins σ H s → t σ H Q →
    wpAny (model X.prog X.w) X.A (evalPart e X.env) (fun u s' => ∃ o H', Inv X pins σ H' s' ∧ IsPart u o ∧ Q o H') X.xe s
def tNoPart : TO := fun _ H Q => Q none H
def tPart (t : TE) : TO := fun σ H Q => t σ H fun x H1 => ∃ i, x = .int i ∧ Q (some i) H1

section
variable {X : Cx} {e : Expr} {te : TE} {lo hi : Option Expr} {tl th : TO} {pos p2 : Pos}

theorem po_none : PO X none tNoPart := by
  intro pins s σ H Q I h
  rw [evalPart_none]
  exact wpAny_pure ⟨none, H, I, .none, h⟩
theorem po_some (h : PE X e te) : PO X (some e) (tPart te) := by
  intro pins s σ H Q I hw
  rw [evalPart_some]
  refine thn (h pins s σ H _ I hw) fun u s1 ⟨x, H1, I1, r1, q1⟩ => ?_
  obtain ⟨i, rfl, q⟩ := q1
  obtain ⟨t, rfl⟩ := r1
  exact ⟨some i, H1, I1, .int i t, q⟩

/-- what a slice of a value is, by values: the slice object stands at sl -/
def SlR (X : Cx) (r : V → Option Int → Option Int → Hp → VK → Prop) : Prop :=
  ∀ (pins : List (Addr × Obj)) (s : Shared) (σ : St) (H : Hp) (x : V) (v vl vu : Value) (lo hi : Option Int) (sl : Addr) (Q : VK), Inv X pins σ H s → RelV x v → s.heap.IsSliceOf sl vl vu .none → IsPart vl lo → IsPart vu hi → r x lo hi H Q →
    ∃ T id, typeLookup (.type T) "__getitem__" = pure (some (.builtin id)) ∧ s.TypeIs v T ∧ wpAny (model X.prog X.w) X.A (getItem v (.ref sl)) (EP X pins σ Q) X.xe s
theorem SlR.or {r r' : V → Option Int → Option Int → Hp → VK → Prop} (h : SlR X r) (h' : SlR X r') : SlR X (fun x lo hi H Q => r x lo hi H Q ∨ r' x lo hi H Q) := by
  intro pins s σ H x v vl vu lo hi sl Q I rx hs pl pu q
  rcases q with q | q
  · exact h pins s σ H x v vl vu lo hi sl Q I rx hs pl pu q
  · exact h' pins s σ H x v vl vu lo hi sl Q I rx hs pl pu q
def tSl (r : V → Option Int → Option Int → Hp → VK → Prop) (te : TE) (tl th : TO) : TE := fun σ H Q => te σ H fun x H1 => tl σ H1 fun l H2 => th σ H2 fun u H3 => r x l u H3 Q
/-- a[lo:hi], any a -/
theorem pe_slice {r : V → Option Int → Option Int → Hp → VK → Prop} (hr : SlR X r) (he : PE X e te) (hl : PO X lo tl) (hu : PO X hi th) : PE X (.Subscript e (.Slice lo hi none p2) pos) (tSl r te tl th) := by
  intro pins s σ H Q I h
  refine Subscript_ (thn (he pins s σ H _ I h) fun v s1 ⟨x, H1, I1, r1, q1⟩ => ?_)
  refine wpAny_Slice (thn (hl pins s1 σ H1 _ I1 q1) fun vl s2 ⟨l, H2, I2, pl, q2⟩ => thn (hu pins s2 σ H2 _ I2 q2) fun vu s3 ⟨u, H3, I3, pu, q3⟩ => ?_)
  rw [evalPart_none]
  refine wpAny_pure ?_
  have I4 : Inv X pins σ H3 { s3 with heap := s3.heap.push { cls := .type "slice", data := .fields #[vl, vu, .none] } } := I3.kept (t' := s3.toks) fun b ob q => Heap.get?_push_of_some _ q
  obtain ⟨T, id, hT, ht, hg⟩ := hr pins { s3 with heap := s3.heap.push { cls := .type "slice", data := .fields #[vl, vu, .none] } } σ H3 x v vl vu l u s3.heap.objs.size Q I4 r1 (Heap.IsSliceOf.new ..) pl pu q3
  show wpAny (model X.prog X.w) X.A (subscriptTail e (.Slice lo hi none p2) v (.ref s3.heap.objs.size)) (EP X pins σ Q) X.xe { s3 with heap := s3.heap.push { cls := .type "slice", data := .fields #[vl, vu, .none] } }
  exact tail_any (ops := [.ref s3.heap.objs.size, v]) ht hT hg (by with_unfolding_all rfl)

/-- the items of xs[lo:hi] -/
def cutV (xs : List V) (lo hi : Option Int) : List V := (xs.drop (HT.sIx xs.length 0 lo)).take (HT.sIx xs.length xs.length hi - HT.sIx xs.length 0 lo)
theorem cutV_length (xs : List V) (lo hi : Option Int) : (cutV xs lo hi).length ≤ xs.length := by
  unfold cutV
  rw [List.length_take, List.length_drop]
  omega
/-- t[lo:hi], not the whole of it (the whole would be t itself) -/
def rSlT (K : PySem.W.Frag) : V → Option Int → Option Int → Hp → VK → Prop := fun x lo hi H Q => ∃ a xs, x = .ref a ∧ SqT K H a xs ∧
  ¬ (HT.sIx xs.length 0 lo = 0 ∧ HT.sIx xs.length xs.length hi = xs.length) ∧ ∀ p, H p = none → Q (.ref p) (upd H p (.tup (cutV xs lo hi)))
theorem sl_tup : SlR X (rSlT X.K) := by
  intro pins s σ H x v vl vu lo hi sl Q I rx hs pl pu h
  obtain ⟨a, xs, rfl, hx, hw, q⟩ := h
  cases rx
  obtain ⟨its, r, ht, hz⟩ := I.tuple hx
  have hlen : its.toArray.size = xs.length := by rw [List.size_toArray]; exact r.length.symm
  refine ⟨"tuple", _, PyProof.Rows.slot_tuple_getitem.lookup, ht.typeIs, ?_⟩
  refine HT.getItem_tuple_cut ht hs pl pu (by rw [hlen]; exact hw) ?_ (by rw [hlen]; exact hz)
  rw [hlen]
  refine ⟨.ref s.heap.objs.size, _, I.laid (t' := s.toks) (o := .tup (cutV xs lo hi)) (fun b ob q => Heap.get?_push_of_some _ q) (Nat.le_refl _) ?_, rfl, q _ (I.hok.fresh (Nat.le_refl _))⟩
  exact ⟨Nat.le_trans (cutV_length xs lo hi) hz, _, (r.drop (HT.sIx xs.length 0 lo)).take (HT.sIx xs.length xs.length hi - HT.sIx xs.length 0 lo), IsTup.new _ _⟩

/-! ### t < u, t + u -/
end
end L2

namespace L2
open PySem PySem.Spec PyProof.Rows

/-! ### places -/
/-- the place that an index of any sign means -/
def ixN (n : Nat) (i : Int) : Option Nat := if 0 ≤ i then (if i < n then some i.toNat else none) else if -(n : Int) ≤ i then some (i + n).toNat else none
def atI {α : Type} (xs : List α) (i : Int) : Option α := (ixN xs.length i).bind fun j => xs[j]?
theorem ixN_seq {n : Nat} {i : Int} {j : Nat} (h : ixN n i = some j) : seqIndex? i n = some j ∧ j < n ∧ -(n : Int) ≤ i ∧ i < n := by
  unfold ixN at h
  by_cases h0 : 0 ≤ i
  · rw [if_pos h0] at h
    by_cases h1 : i < n
    · rw [if_pos h1] at h
      have e : i.toNat = j := Option.some.inj h
      exact ⟨by rw [seqIndex_of h0 h1, e], by omega, by omega, h1⟩
    · rw [if_neg h1] at h; cases h
  · rw [if_neg h0] at h
    by_cases h1 : -(n : Int) ≤ i
    · rw [if_pos h1] at h
      have e : (i + n).toNat = j := Option.some.inj h
      exact ⟨by rw [seqIndex_neg (by omega) h1, e], by omega, h1, by omega⟩
    · rw [if_neg h1] at h; cases h
theorem atI_get {α : Type} {xs : List α} {i : Int} {v : α} (h : atI xs i = some v) : ∃ j, seqIndex? i xs.length = some j ∧ xs[j]? = some v ∧ j < xs.length ∧ -(xs.length : Int) ≤ i ∧ i < xs.length := by
  unfold atI at h
  cases e : ixN xs.length i with
  | none => rw [e] at h; cases h
  | some j =>
    rw [e] at h
    obtain ⟨h1, h2, h3, h4⟩ := ixN_seq e
    exact ⟨j, h1, h, h2, h3, h4⟩
theorem atI_nat {α : Type} {xs : List α} {j : Nat} {v : α} (h : xs[j]? = some v) : atI xs (j : Int) = some v := by
  have hj : j < xs.length := (List.getElem?_eq_some_iff.mp h).1
  have e : ixN xs.length (j : Int) = some j := by
    unfold ixN
    rw [if_pos (by omega), if_pos (by omega)]; simp
  unfold atI; rw [e]; exact h
/-! ### what may be subscripted -/
/-- what stands as an index of a plain subscript -/
def PlainIx (b : Expr) : Prop := ∀ o i, subscripted b false o i = operate [o, i] (getItem o i)
/-- a subscript by values -/
def IxR (X : Cx) (r : R2) : Prop :=
  ∀ (value slice : Expr) (pins : List (Addr × Obj)) (s : Shared) (σ : St) (H : Hp) (x y : V) (v u : Value) (Q : VK), Inv X pins σ H s → RelV x v → RelV y u → r x y H Q →
    subscripted slice false v u = operate [v, u] (getItem v u) → wpAny (model X.prog X.w) X.A (subscriptTail value slice v u) (EP X pins σ Q) X.xe s
/-- a call of a builtin's method by values: the receiver, the arguments -/
def MtR (X : Cx) (id : String) (r : V → List V → Hp → VK → Prop) : Prop :=
  ∀ (pins : List (Addr × Obj)) (s : Shared) (σ : St) (H : Hp) (x : V) (xs : List V) (v : Value) (us : List Value) (Q : VK), Inv X pins σ H s → RelV x v → Vals xs us → r x xs H Q →
    wpAny (model X.prog X.w) X.A (call (.builtin id) (v :: us)) (EP X pins σ Q) X.xe s
section
variable {X : Cx} {a b : Expr} {ta tb : TE} {pos : Pos}
theorem IxR.or {r r' : R2} (h : IxR X r) (h' : IxR X r') : IxR X (fun x y H Q => r x y H Q ∨ r' x y H Q) := by
  intro value slice pins s σ H x y v u Q I rx ry q hs
  rcases q with q | q
  · exact h value slice pins s σ H x y v u Q I rx ry q hs
  · exact h' value slice pins s σ H x y v u Q I rx ry q hs
theorem MtR.or {id : String} {r r' : V → List V → Hp → VK → Prop} (h : MtR X id r) (h' : MtR X id r') : MtR X id (fun x xs H Q => r x xs H Q ∨ r' x xs H Q) := by
  intro pins s σ H x xs v us Q I rx rs q
  rcases q with q | q
  · exact h pins s σ H x xs v us Q I rx rs q
  · exact h' pins s σ H x xs v us Q I rx rs q
/-- a[b] -/
theorem pe_ix {r : R2} (hr : IxR X r) (ha : PE X a ta) (hb : PE X b tb) (hs : PlainIx b) : PE X (.Subscript a b pos) (tOp r ta tb) := by
  intro pins s σ H Q I h
  exact Subscript_ (binT ha hb I h fun v u s2 x y H2 I2 rx ry q => hr a b pins s2 σ H2 x y v u Q I2 rx ry q (hs _ _))

def rIxL (K : PySem.W.Frag) : R2 := fun x y H Q => ∃ p xs i v, x = .ref p ∧ y = .int i ∧ SqL K H p xs ∧ atI xs i = some v ∧ Q v H
def rIxT (K : PySem.W.Frag) : R2 := fun x y H Q => ∃ p xs i v, x = .ref p ∧ y = .int i ∧ SqT K H p xs ∧ atI xs i = some v ∧ Q v H
theorem ix_list : IxR X (rIxL X.K) := by
  intro value slice pins s σ H x y v u Q I rx ry h hs
  obtain ⟨p, xs, i, z, rfl, rfl, hq, he, q⟩ := h
  cases rx
  obtain ⟨t, rfl⟩ := ry
  obtain ⟨its, r, pl, hz⟩ := I.list hq
  obtain ⟨j, h1, h2, h3, h4, h5⟩ := atI_get he
  obtain ⟨w, ew, rw'⟩ := r.get h2
  have hl := r.length
  have hn := line63
  have fin : EP X pins σ Q w s := ⟨z, H, I, rw', q⟩
  by_cases h0 : 0 ≤ i
  · have hj : i.toNat = j := by
      rw [seqIndex_of h0 h5] at h1
      exact Option.some.inj h1
    exact item_listR pl.isList h0 (by omega) (by rw [hj]; simpa using ew) fin hs
  · have hj : (i + (its.toArray.size : Int)).toNat = j := by
      rw [seqIndex_neg (by omega) h4] at h1
      rw [List.size_toArray, ← hl]
      exact Option.some.inj h1
    exact subscriptTail_builtinR (x := w) pl.isList.typeIs slot_list_getitem.lookup
      (wpAny_getItem_list_neg (Q := fun r s' => r = w ∧ EP X pins σ Q r s') pl.isList (by omega) (by rw [List.size_toArray] <;> omega) (by omega) (by rw [hj]; simpa using ew) ⟨rfl, fin⟩) hs
theorem ix_tup : IxR X (rIxT X.K) := by
  intro value slice pins s σ H x y v u Q I rx ry h hs
  obtain ⟨p, xs, i, z, rfl, rfl, hq, he, q⟩ := h
  cases rx
  obtain ⟨t, rfl⟩ := ry
  obtain ⟨its, r, pl, hz⟩ := I.tuple hq
  obtain ⟨j, h1, h2, h3, h4, h5⟩ := atI_get he
  obtain ⟨w, ew, rw'⟩ := r.get h2
  have hl := r.length
  have hn := line63
  have fin : EP X pins σ Q w s := ⟨z, H, I, rw', q⟩
  exact subscriptTail_builtinR (x := w) pl.typeIs slot_tuple_getitem.lookup
    (getItem_tuple (j := j) (Q := fun r s' => r = w ∧ EP X pins σ Q r s') pl (by omega) (by omega) (by rw [List.size_toArray, ← hl]; exact h1) (by simpa using ew) ⟨rfl, fin⟩) hs
/-! ### xs[i] = v, any sign -/
theorem Inv.lst {pins : List (Addr × Obj)} {σ : St} {H : Hp} {s : Shared} {p : Addr} {xs : List V} (I : Inv X pins σ H s) (h : H p = some (.lst xs)) :
    ∃ (its : List Value) (n : Nat), Vals xs its ∧ s.heap.get? p = some { cls := .type "list", data := .seq its.toArray n } ∧ xs.length ≤ sizeLine := by
  obtain ⟨z, its, n, r, e⟩ := I.hok p _ h
  exact ⟨its, n, r, e, z⟩
/-! ### slices -/
theorem slice_bounds (lo hi : Option Int) (n : Nat) : (sliceBounds lo hi none n).1 = ((HT.sIx n 0 lo : Nat) : Int) ∧ (sliceBounds lo hi none n).2.1 = ((HT.sIx n n hi : Nat) : Int) ∧ (sliceBounds lo hi none n).2.2 = 1 := by
  refine ⟨?_, ?_, rfl⟩
  · cases lo with
    | none => simp [sliceBounds, HT.sIx]
    | some i =>
      simp only [sliceBounds, HT.sIx, Option.getD_none, show (1 : Int) > 0 by decide, if_true]
      by_cases h : i < 0
      · simp only [h, if_true] <;> omega
      · simp only [h, if_false] <;> omega
  · cases hi with
    | none => simp [sliceBounds, HT.sIx]
    | some i =>
      simp only [sliceBounds, HT.sIx, Option.getD_none, show (1 : Int) > 0 by decide, if_true]
      by_cases h : i < 0
      · simp only [h, if_true] <;> omega
      · simp only [h, if_false] <;> omega
theorem slicePick_cut (its : List Value) (lo hi : Option Int) : slicePick its.toArray lo hi none = ((its.drop (HT.sIx its.length 0 lo)).take (HT.sIx its.length its.length hi - HT.sIx its.length 0 lo)).toArray := by
  obtain ⟨h1, h2, h3⟩ := slice_bounds lo hi its.toArray.size
  unfold slicePick
  rw [h1, h2, h3]
  simp only [sliceRange_one, pick_run, List.size_toArray] <;> rfl
/-- xs[lo:hi] of a list: a new list -/
def rSlL (K : PySem.W.Frag) : V → Option Int → Option Int → Hp → VK → Prop := fun x lo hi H Q => ∃ a xs, x = .ref a ∧ SqL K H a xs ∧ ∀ p, H p = none → Q (.ref p) (upd H p (.lst (cutV xs lo hi)))
theorem sl_list : SlR X (rSlL X.K) := by
  intro pins s σ H x v vl vu lo hi sl Q I rx hs pl pu h
  obtain ⟨a, xs, rfl, hx, q⟩ := h
  cases rx
  obtain ⟨its, r, ht, hz⟩ := I.list hx
  have hlen := r.length
  refine ⟨"list", _, slot_list_getitem.lookup, ht.isList.typeIs, ?_⟩
  refine wpAny_getItem_list_slice ht.isList hs pl pu .none (by simp) ?_ (by rw [List.size_toArray] <;> omega)
  rw [slicePick_cut, ← hlen]
  refine ⟨.ref s.heap.objs.size, _, I.laid (t' := s.toks) (o := .lst (cutV xs lo hi)) (fun b ob q => Heap.get?_push_of_some _ q) (Nat.le_refl _) ?_, rfl, q _ (I.hok.fresh (Nat.le_refl _))⟩
  exact ⟨Nat.le_trans (cutV_length xs lo hi) hz, _, 0, (r.drop (HT.sIx xs.length 0 lo)).take (HT.sIx xs.length xs.length hi - HT.sIx xs.length 0 lo), Heap.get?_push_size _ rfl⟩

/-! ### in, not in: flat items -/
/-! ### len, list(x), tuple(x) of any list or tuple that is read -/
theorem call_len_seq : CallR X (.builtin "len") (fun xs H Q => ∃ p ys, xs = [.ref p] ∧ (SqL X.K H p ys ∨ SqT X.K H p ys) ∧ Q (.int ys.length) H) := by
  intro pins s σ H xs us Q I r h
  obtain ⟨p, ys, rfl, hq, q⟩ := h
  obtain ⟨u, rfl, rx⟩ := vals1 r
  cases rx
  have hn := line63
  rcases hq with hq | hq
  · obtain ⟨its, r', pl, hz⟩ := I.list hq
    have hlen := r'.length
    exact Calls.call_len_list pl.isList (by simp only [List.size_toArray] <;> omega) ⟨.int ys.length, H, I.tok _, ⟨s.toks + 1, by rw [List.size_toArray, hlen]⟩, q⟩
  · obtain ⟨its, r', pl, hz⟩ := I.tuple hq
    have hlen := r'.length
    exact len_tuple pl (by simp only [List.size_toArray] <;> omega) ⟨.int ys.length, H, I.tok _, ⟨s.toks + 1, by rw [List.size_toArray, hlen]⟩, q⟩
theorem CallR.or {f : Value} {r r' : List V → Hp → VK → Prop} (h : CallR X f r) (h' : CallR X f r') : CallR X f (fun xs H Q => r xs H Q ∨ r' xs H Q) := by
  intro pins s σ H xs us Q I rs q
  rcases q with q | q
  · exact h pins s σ H xs us Q I rs q
  · exact h' pins s σ H xs us Q I rs q
/-! ### the call of a builtin's method: o.m(..) -/
/-- the value is of that builtin type -/
def tyV (K : PySem.W.Frag) (T : String) (x : V) (H : Hp) : Prop := match x with
  | .str _ => T = "str"
  | .int _ => T = "int"
  | .ref p => (T = "list" ∧ ∃ xs, SqL K H p xs) ∨ (T = "tuple" ∧ ∃ o, K.lookup p = some o ∧ o.cls = .type "tuple" ∧ o.dict = none) ∨
      (T = "dict" ∧ ((∃ kvs, H p = some (.dK kvs)) ∨ ∃ kvs, H p = some (.dT kvs))) ∨ (T = "set" ∧ ∃ S n, H p = some (.set S n))
  | _ => False
theorem tyV_is {pins : List (Addr × Obj)} {σ : St} {H : Hp} {s : Shared} {T : String} {x : V} {v : Value} (I : Inv X pins σ H s) (r : RelV x v) (ty : tyV X.K T x H) :
    s.TypeIs v T ∧ ∀ a, v = .ref a → ∃ ob, s.heap.get? a = some ob ∧ ob.dict = none := by
  cases x with
  | str z =>
    obtain ⟨t, rfl⟩ := r
    cases (show T = "str" from ty)
    exact ⟨typeIs_str s z t, fun _ e => nomatch e⟩
  | int i =>
    obtain ⟨t, rfl⟩ := r
    cases (show T = "int" from ty)
    exact ⟨typeIs_int s i t, fun _ e => nomatch e⟩
  | ref p =>
    cases r
    rcases ty with ⟨rfl, xs, hq⟩ | ⟨rfl, o, hk, hc, hd⟩ | ⟨rfl, hk⟩ | ⟨rfl, S, n, hk⟩
    · obtain ⟨its, _, pl, _⟩ := I.list hq
      refine ⟨pl.isList.typeIs, fun a e => ?_⟩
      cases e
      obtain ⟨o, n, e, c, hd, _⟩ := pl
      exact ⟨o, e, hd⟩
    · refine ⟨⟨o, I.kIn p o hk, hc⟩, fun a e => ?_⟩
      cases e
      exact ⟨o, I.kIn _ o hk, hd⟩
    · have z : ∃ o, s.heap.get? p = some o ∧ o.ExactDict := by
        rcases hk with ⟨kvs, hk⟩ | ⟨kvs, hk⟩
        · obtain ⟨_, _, _, _, o, _, _, e, ex, _⟩ := I.hok p _ hk
          exact ⟨o, e, ex⟩
        · obtain ⟨_, _, _, _, o, _, _, e, ex, _⟩ := I.hok p _ hk
          exact ⟨o, e, ex⟩
      obtain ⟨o, e, ex⟩ := z
      refine ⟨⟨o, e, ex.1⟩, fun a e2 => ?_⟩
      cases e2
      exact ⟨o, e, ex.2.1⟩
    · obtain ⟨o, _, _, _, e, ex, _⟩ := I.hok p _ hk
      refine ⟨⟨o, e, ex.1⟩, fun a e2 => ?_⟩
      cases e2
      exact ⟨o, e, ex.2.1⟩
  | _ => exact False.elim ty
def tBM0 (K : PySem.W.Frag) (T : String) (r : V → List V → Hp → VK → Prop) (to : TE) : TE := fun σ H Q => to σ H fun x H1 => tyV K T x H1 ∧ r x [] H1 Q
def tBM (K : PySem.W.Frag) (T : String) (r : V → List V → Hp → VK → Prop) (to : TE) (t : TA) : TE := fun σ H Q => to σ H fun x H1 => tyV K T x H1 ∧ t σ H1 fun xs H2 => r x xs H2 Q
variable {o e : Expr} {es : List Expr} {to : TE} {t : TA} {name : Str} {apos cpos : Pos} {T id : String} {r : V → List V → Hp → VK → Prop}
theorem pe_bm0 (pa : PlainAttrs T) (slot : Slot T name id) (hty : typeOf (.builtin id) = pure (.type "method_descriptor")) (hm : MtR X id r) (ho : PE X o to)
    (hbase : attributeBase o name X.env (eval o X.env) = eval o X.env := by rfl) (hline : (apos.endLine == cpos.line) = true := by rfl) : PE X (.Call (.Attribute o name apos) [] [] cpos) (tBM0 X.K T r to) := by
  intro pins s σ H Q I h
  refine wpAny_Call_method0_late hbase hline (thn (ho pins s σ H _ I h) fun v s1 ⟨x, H1, I1, r1, ty, q1⟩ => ?_)
  obtain ⟨h1, h2⟩ := tyV_is I1 r1 ty
  exact ⟨T, id, pa, slot, hty, h1, h2, Calls.callWith_builtin rfl (PySem.evalArgs_none (hm pins s1 σ H1 x [] v [] Q I1 r1 .nil q1))⟩
theorem pe_bm (pa : PlainAttrs T) (slot : Slot T name id) (hty : typeOf (.builtin id) = pure (.type "method_descriptor")) (hm : MtR X id r) (ho : PE X o to) (ha : PA X (e :: es) t)
    (hbase : attributeBase o name X.env (eval o X.env) = eval o X.env := by rfl)
    (hfew : ((backTo cpos (starEach (e :: es) X.env)).all (fun x => !x.1) && (backToKw cpos (keywordEach [] X.env)).all (fun x => x.1.isSome)
      && decide ((e :: es).length + ([] : List Keyword).length + (if ([] : List Keyword).isEmpty then 0 else 1) < 30)) = true := by rfl)
    (hline : (apos.endLine == cpos.line) = true := by rfl) (hs : starEach (e :: es) X.env = (false, eval e X.env) :: starEach es X.env := by rfl) (hplain : (backTo cpos (starEach es X.env)).any (·.1) = false := by rfl) :
    PE X (.Call (.Attribute o name apos) (e :: es) [] cpos) (tBM X.K T r to t) := by
  intro pins s σ H Q I h
  refine wpAny_Call_method_late hbase hfew hline rfl (thn (ho pins s σ H _ I h) fun v s1 ⟨x, H1, I1, r1, ty, q1⟩ => ?_)
  obtain ⟨h1, h2⟩ := tyV_is I1 r1 ty
  refine ⟨T, id, pa, slot, hty, h1, h2, ?_⟩
  have hA := ha cpos pins s1 σ H1 _ I1 q1
  rw [hs] at hA ⊢
  refine Calls.callWith_builtin (by show (false || (backTo cpos (starEach es X.env)).any (·.1)) = false; rw [hplain] <;> rfl) (Calls.evalArgs_plain ?_)
  exact thn hA fun us s2 ⟨vs, H2, I2, r2, q2⟩ => hm pins s2 σ H2 x vs v us Q I2 r1 r2 q2
/- xs.append(e), list.index on a module's tuple .. are MtR facts of 06m -/
end
end L2

namespace L2
open PySem PySem.Spec PyProof.Rows

def MtM (X : Cx) (id : String) (r : V → List V → Hp → VK → Prop) : Prop :=
  ∀ (pins : List (Addr × Obj)) (s : Shared) (σ : St) (H : Hp) (x : V) (xs : List V) (v : Value) (us : List Value) (Q : VK), Inv X pins σ H s → RelV x v → Vals xs us → r x xs H Q →
    wpAny (model X.prog X.w) X.A (call (.builtin id) (v :: us)) (EP X pins σ Q) X.xe s

/-! ### lists of values -/
theorem Vals.one : ∀ {x : V} {us : List Value}, Vals [x] us → ∃ u, us = [u] ∧ RelV x u
  | _, _, .cons r .nil => ⟨_, rfl, r⟩
theorem Vals.two : ∀ {x y : V} {us : List Value}, Vals [x, y] us → ∃ u v, us = [u, v] ∧ RelV x u ∧ RelV y v
  | _, _, _, .cons r (.cons q .nil) => ⟨_, _, rfl, r, q⟩
theorem Vals.zero : ∀ {us : List Value}, Vals [] us → us = []
  | _, .nil => rfl
theorem Vals.rep {xs : List V} {us : List Value} (h : Vals xs us) : ∀ k : Nat, Vals (List.replicate k xs).flatten (List.replicate k us).flatten
  | 0 => .nil
  | k + 1 => by
    rw [List.replicate_succ, List.replicate_succ, List.flatten_cons, List.flatten_cons]
    exact Vals.append h (Vals.rep h k)
theorem foldl_rep (its : List Value) : ∀ (k : Nat) (acc : List Value),
    List.foldl (fun x1 x2 => x1 ++ x2) acc.toArray (List.replicate k its.toArray) = (acc ++ (List.replicate k its).flatten).toArray
  | 0, acc => by simp
  | k + 1, acc => by
    have e : acc.toArray ++ its.toArray = (acc ++ its).toArray := by simp
    have e2 : (acc ++ its) ++ (List.replicate k its).flatten = acc ++ (List.replicate (k + 1) its).flatten := by
      rw [List.replicate_succ, List.flatten_cons, List.append_assoc]
    rw [← e2, ← foldl_rep its k (acc ++ its), ← e, List.replicate_succ, List.foldl_cons]

section
variable {X : Cx} {pins : List (Addr × Obj)} {σ : St} {H : Hp} {s : Shared} {l b : Addr} {xs ys zs : List V}

/-! ### the two steps: a tracked list is rewritten, a new list is laid -/
theorem Inv.lset {its its' : List Value} {n : Nat} {f : Array Value → Array Value} {t' : Nat} (I : Inv X pins σ H s) (hH : H l = some (.lst xs))
    (e : s.heap.get? l = some { cls := .type "list", data := .seq its.toArray n }) (hf : f its.toArray = its'.toArray) (hv : Vals ys its') (hz : ys.length ≤ sizeLine) :
    Inv X pins σ (upd H l (.lst ys)) { s with heap := s.heap.update l (Obj.mapSeq f), toks := t' } := by
  have q := PySem.IsL.update e f
  rw [hf] at q
  refine I.write (x := l) (e := l) (by rw [hH]; exact trivial) (.inl rfl) (fun b' u hb hu => (Heap.get?_update_other s.heap (Obj.mapSeq f) (Ne.symm hb)).trans hu) ⟨_, q⟩ ?_
  exact ⟨hz, its', _, hv, q⟩
theorem Inv.lnew {its : List Value} {t' : Nat} (I : Inv X pins σ H s) (hv : Vals ys its) (hz : ys.length ≤ sizeLine) :
    Inv X pins σ (upd H s.heap.objs.size (.lst ys)) { s with heap := s.heap.push { cls := .type "list", data := .seq its.toArray }, toks := t' } :=
  I.laid (fun _ _ q => Heap.get?_push_of_some _ q) (Nat.le_refl _) ⟨hz, its, 0, hv, Heap.get?_push_size _ rfl⟩
theorem Inv.fresh (I : Inv X pins σ H s) : H s.heap.objs.size = none := I.hok.fresh (Nat.le_refl _)
theorem Inv.lstM (I : Inv X pins σ H s) (hH : H l = some (.lst xs)) : xs.length ≤ sizeLine ∧ ∃ (its : List Value) (n : Nat), Vals xs its ∧ xs.length = its.length ∧ s.heap.get? l = some { cls := .type "list", data := .seq its.toArray n } := by
  obtain ⟨z, its, n, r, e⟩ := I.hok l _ hH
  exact ⟨z, its, n, r, r.length, e⟩

theorem notLongL {n : Nat} (h : n ≤ sizeLine) : Builtin.List.listTooLong n = false := by
  unfold Builtin.List.listTooLong
  exact decide_eq_false (by omega)
end

section
variable {X : Cx}

/-! ### methods -/
def rAppend : V → List V → Hp → VK → Prop := fun x vs H Q => ∃ l xs y, x = .ref l ∧ vs = [y] ∧ H l = some (.lst xs) ∧ xs.length < sizeLine ∧ Q .non (upd H l (.lst (xs ++ [y])))
theorem mt_append : MtM X "list.append" rAppend := by
  intro pins s σ H x vs v us Q I rx rv h
  obtain ⟨l, xs, y, rfl, rfl, hH, hz, q⟩ := h
  cases rx
  obtain ⟨u, rfl, ru⟩ := rv.one
  obtain ⟨z, its, n, r, hl, e⟩ := I.lstM hH
  refine call_meets F.slot_list_append ⟨_, e, rfl⟩ F.entry_list_append (F.args_list_append_2 _ _) (PySem.list_append l its.toArray n u (by rw [List.size_toArray]; omega)) ⟨e, ?_⟩
  refine ⟨.non, _, I.lset (its' := its ++ [u]) hH e (by simp) (r.append (.cons ru .nil)) ?_, rfl, q⟩
  rw [List.length_append, List.length_singleton]
  omega

def rExtend : V → List V → Hp → VK → Prop := fun x vs H Q => ∃ l b xs zs, x = .ref l ∧ vs = [.ref b] ∧ H l = some (.lst xs) ∧ H b = some (.lst zs) ∧ xs.length + zs.length ≤ sizeLine ∧ Q .non (upd H l (.lst (xs ++ zs)))
theorem mt_extend : MtM X "list.extend" rExtend := by
  intro pins s σ H x vs v us Q I rx rv h
  obtain ⟨l, b, xs, zs, rfl, rfl, hH, hB, hz, q⟩ := h
  cases rx
  obtain ⟨u, rfl, ru⟩ := rv.one
  cases ru
  obtain ⟨z, its, n, r, hl, e⟩ := I.lstM hH
  obtain ⟨z2, its2, n2, r2, hl2, e2⟩ := I.lstM hB
  have hsz : its.toArray.size + its2.toArray.size ≤ sizeLine := by rw [List.size_toArray, List.size_toArray]; omega
  have hlong : ¬ (!its.toArray.isEmpty && Builtin.List.listTooLong (its.toArray.size + its2.toArray.size)) = true := by
    rw [notLongL hsz, Bool.and_false]
    exact Bool.false_ne_true
  refine call_meets F.slot_list_extend ⟨_, e, rfl⟩ F.entry_list_extend (F.args_list_extend_2 _ _)
    (AutoSeq1.list_extend_list_list_0 l its.toArray n b its2.toArray n2 hlong (by rw [List.size_toArray]; omega) (by omega)) ⟨e, e2, ?_⟩
  refine ⟨.non, _, I.lset (its' := its ++ its2) hH e (by simp) (r.append r2) ?_, rfl, q⟩
  rw [List.length_append]
  omega

/-! ### list + list, list += list, list * int -/
def rCat : R2 := fun x y H Q => ∃ l b xs zs, x = .ref l ∧ y = .ref b ∧ H l = some (.lst xs) ∧ H b = some (.lst zs) ∧ xs.length + zs.length ≤ sizeLine ∧ ∀ p, H p = none → Q (.ref p) (upd H p (.lst (xs ++ zs)))
theorem op_cat : OpR X (binaryOp .Add) rCat := by
  intro pins s σ H x y v u Q I rx ry h
  obtain ⟨l, b, xs, zs, rfl, rfl, hH, hB, hz, q⟩ := h
  cases rx
  cases ry
  obtain ⟨z, its, n, r, hl, e⟩ := I.lstM hH
  obtain ⟨z2, its2, n2, r2, hl2, e2⟩ := I.lstM hB
  refine PySem.P.add_list e e2 ?_ (by rw [List.size_toArray, List.size_toArray]; omega)
  have ea : its.toArray ++ its2.toArray = (its ++ its2).toArray := by simp
  rw [ea]
  exact ⟨.ref _, _, I.lnew (t' := s.toks) (r.append r2) (by rw [List.length_append]; omega), rfl, q _ I.fresh⟩
/-- a list times an int (a negative one is nothing) -/
def rRep : R2 := fun x y H Q => ∃ l k xs, x = .ref l ∧ y = .int k ∧ H l = some (.lst xs) ∧ -(2 ^ 63) ≤ k ∧ k < 2 ^ 63 ∧ xs.length * k.toNat ≤ sizeLine ∧
  ∀ p, H p = none → Q (.ref p) (upd H p (.lst (List.replicate k.toNat xs).flatten))
theorem len_rep {α : Type} (xs : List α) (k : Nat) : (List.replicate k xs).flatten.length = k * xs.length := by
  induction k with
  | zero => simp
  | succ k ih => rw [List.replicate_succ, List.flatten_cons, List.length_append, ih, Nat.succ_mul, Nat.add_comm]
theorem op_rep : OpR X (binaryOp .Mult) rRep := by
  intro pins s σ H x y v u Q I rx ry h
  obtain ⟨l, k, xs, rfl, rfl, hH, h1, h2, hz, q⟩ := h
  cases rx
  obtain ⟨t, rfl⟩ := ry
  obtain ⟨z, its, n, r, hl, e⟩ := I.lstM hH
  have hlen : its.toArray.size * k.toNat ≤ sizeLine := by rw [List.size_toArray, ← hl]; exact hz
  have hcap : ¬ its.toArray.size * k.toNat > (2 ^ 63 - 1) / 8 := by
    have : (sizeLine : Nat) ≤ (2 ^ 63 - 1) / 8 := by decide
    omega
  have hfit : ¬ (!Builtin.List.listFitsIndex k) = true := by
    rw [fitsIndex_both h1 h2]
    exact Bool.false_ne_true
  have hlong : ¬ Builtin.List.listTooLong (its.toArray.size * k.toNat) = true := by
    rw [notLongL hlen]
    exact Bool.false_ne_true
  have hnew : List.foldl (fun x1 x2 => x1 ++ x2) #[] (List.replicate (if its.toArray.isEmpty = true then 0 else k.toNat) its.toArray) = (List.replicate k.toNat its).flatten.toArray := by
    have f0 : ∀ m : Nat, List.foldl (fun x1 x2 => x1 ++ x2) #[] (List.replicate m its.toArray) = (List.replicate m its).flatten.toArray := fun m => by
      have := foldl_rep its m []
      rw [List.nil_append] at this
      exact this
    rw [f0]
    cases its with
    | nil => simp
    | cons a r' => rw [if_neg (by simp)]
  refine wpAny_binaryOp_repeat_ref (T := "list") (U := "int") (by decide) ⟨_, e, rfl⟩ (fun s' => typeIs_int s' k t) noFill_list_mul F.fills_int_mul F.slot_int_rmul repeat_list F.slot_int_index.lookup
    (call_meets F.slot_int_rmul (typeIs_int s k t) F.entry_int_rmul (F.args_int_rmul_2 _ _) (int___rmul___int_list k t l its.toArray n)
      ⟨e, rfl, ⟨_, e, rfl⟩, call_meets F.slot_list_mul ⟨_, e, rfl⟩ F.entry_list_mul (F.args_list_mul_2 _ _) (AutoListH.list___mul___list_int_3 l its.toArray n k t hfit hcap hlong) ⟨e, ?_⟩⟩)
  rw [hnew]
  exact ⟨.ref _, _, I.lnew (t' := s.toks) (r.rep k.toNat) (by rw [len_rep, Nat.mul_comm]; exact hz), rfl, q _ I.fresh⟩

/-! ### del xs[i] -/
end

/-! ### xs[a:b] = ys -/
section
variable {prog : Program} {w : World} {A : Around} {E : Value → Shared → Prop} {s : Shared}
set_option maxRecDepth 100000 in
end

section
variable {X : Cx}
end
end L2

namespace L2
open PySem PySem.Spec PyProof.Rows

theorem Vals.ints : ∀ {ns : List Int} {us : List Value}, Vals (ns.map V.int) us → IntsAre us ns
  | [], us, h => by
    rw [List.map_nil] at h
    cases h
    exact IntsAre.nil
  | n :: ns, us, h => by
    rw [List.map_cons] at h
    cases h with
    | cons r t =>
      obtain ⟨k, rfl⟩ := r
      exact IntsAre.cons n k (Vals.ints t)
theorem Vals.strs : ∀ {xs : List Str} {us : List Value}, Vals (xs.map V.str) us → StrsAre us xs
  | [], us, h => by
    rw [List.map_nil] at h
    cases h
    exact StrsAre.nil
  | x :: xs, us, h => by
    rw [List.map_cons] at h
    cases h with
    | cons r t =>
      obtain ⟨k, rfl⟩ := r
      exact StrsAre.cons x k (Vals.strs t)
/-! ### the library's walks over a list of ints, kept objects alone -/
section
variable {prog : Program} {w : World} {A : Around} {E : Value → Shared → Prop} {s : Shared} {l : Addr} {its : List Value} {ns : List Int} {Q : Value → Shared → Prop}
end

/-! ### the calls, by values (CallR of 03t; MtR of 06l) -/
section
variable {X : Cx}
end
end L2

namespace L2
open PySem PySem.Spec PyProof.Rows
abbrev CellAt (h : Heap) (c : Addr) (v : Option Value) : Prop := h.IsCell c v
def relS (scope sc : Scope) : Scope :=
  { scope with names := scope.names.map fun (n, k) => if (k == .free && sc.kind == .function && sc.names.lookup n == some .cell) then (n, .cell) else (n, k) }

def cloFrom (cells : List (Str × Addr)) : List (Str × NameKind) → List (Str × Addr) → List (Str × Addr)
  | [], acc => acc
  | (n, k) :: r, acc => if k == .free then cloFrom cells r ((n, (cells.lookup n).getD 0) :: acc) else cloFrom cells r acc

theorem closure_loop (env : Env) (f : Str × NameKind → List (Str × Addr) → Sem (ForInStep (List (Str × Addr))))
    (hf : ∀ n k c, f (n, k) c = if k == .free then (do let a ← cellOf env n; pure (.yield ((n, a) :: c))) else pure (.yield c)) :
    ∀ (names : List (Str × NameKind)) (acc : List (Str × Addr)), (∀ y ∈ names, y.2 = .free → ∃ c, env.cells.lookup y.1 = some c) → forIn names acc f = pure (cloFrom env.cells names acc)
  | [], acc, _ => by rw [List.forIn_nil]; rfl
  | (n, k) :: r, acc, h => by
    rw [List.forIn_cons, hf]
    have ih := fun acc => closure_loop env f hf r acc fun y hy => h y (List.mem_cons_of_mem _ hy)
    unfold cloFrom
    by_cases hk : (k == NameKind.free) = true
    · rw [if_pos hk, if_pos hk]
      obtain ⟨c, hc⟩ := h (n, k) List.mem_cons_self (by simpa using hk)
      have e : cellOf env n = pure c := by unfold cellOf; rw [hc]
      rw [e]
      have e2 : (env.cells.lookup n).getD 0 = c := by rw [hc]; rfl
      rw [e2]
      exact ih _
    · rw [if_neg hk, if_neg hk]
      exact ih _
theorem closure_ok {scope : Scope} {env : Env} (h : ∀ y ∈ scope.names, y.2 = .free → ∃ c, env.cells.lookup y.1 = some c) : closureFor scope env = pure (cloFrom env.cells scope.names []) := by
  simp only [closureFor]
  rw [closure_loop env _ (fun n k c => rfl) scope.names [] h]
  rfl

theorem mem_lookup {α : Type} : ∀ {l : List (Str × α)} {n : Str} {c : α}, (n, c) ∈ l → ∃ c', l.lookup n = some c'
  | (k, v) :: r, n, c, h => by
    rw [List.lookup_cons]
    cases hb : n == k with
    | true => exact ⟨_, rfl⟩
    | false =>
      rcases List.mem_cons.mp h with e | h
      · cases e; simp at hb
      · exact mem_lookup h

theorem cloFrom_mem {cells : List (Str × Addr)} : ∀ {names : List (Str × NameKind)} {acc : List (Str × Addr)} {n : Str} {c : Addr}, (n, c) ∈ cloFrom cells names acc → (n, c) ∈ acc ∨ ((n, .free) ∈ names ∧ c = (cells.lookup n).getD 0)
  | [], _, _, _, h => .inl h
  | (m, k) :: r, acc, n, c, h => by
    unfold cloFrom at h
    split at h
    · rename_i hk
      have hk : k = .free := by simpa using hk
      rcases cloFrom_mem h with h | ⟨h1, h2⟩
      · rcases List.mem_cons.mp h with e | h
        · cases e; exact .inr ⟨hk ▸ List.mem_cons_self, rfl⟩
        · exact .inl h
      · exact .inr ⟨List.mem_cons_of_mem _ h1, h2⟩
    · rcases cloFrom_mem h with h | ⟨h1, h2⟩
      · exact .inl h
      · exact .inr ⟨List.mem_cons_of_mem _ h1, h2⟩
theorem cloFrom_acc {cells : List (Str × Addr)} : ∀ {names : List (Str × NameKind)} {acc : List (Str × Addr)} {p : Str × Addr}, p ∈ acc → p ∈ cloFrom cells names acc
  | [], _, _, h => h
  | (m, k) :: r, acc, p, h => by
    unfold cloFrom
    split
    · exact cloFrom_acc (List.mem_cons_of_mem _ h)
    · exact cloFrom_acc h
theorem cloFrom_has {cells : List (Str × Addr)} : ∀ {names : List (Str × NameKind)} {acc : List (Str × Addr)} {n : Str}, (n, .free) ∈ names → (n, (cells.lookup n).getD 0) ∈ cloFrom cells names acc
  | (m, k) :: r, acc, n, h => by
    unfold cloFrom
    rcases List.mem_cons.mp h with e | h
    · cases e
      exact cloFrom_acc List.mem_cons_self
    · split
      · exact cloFrom_has h
      · exact cloFrom_has h

theorem cells_mem : ∀ {names : List (Str × NameKind)} {h : Heap} {acc : List (Str × Addr)} {x : Str} {c : Addr}, (x, c) ∈ cellsFrom h.objs.size names acc →
    (x, c) ∈ acc ∨ ((x, .cell) ∈ names ∧ h.objs.size ≤ c ∧ CellAt (pushCells h names) c none)
  | [], _, _, _, _, h => .inl h
  | (n, k) :: r, h, acc, x, c, hm => by
    unfold cellsFrom at hm
    unfold pushCells
    split at hm
    · rename_i hk
      rw [if_pos hk]
      have hk : k = .cell := by simpa using hk
      rw [← Heap.size_push h { cls := .type "cell", data := .cell none }] at hm
      rcases cells_mem hm with hm | ⟨h1, h2, h3⟩
      · rcases List.mem_cons.mp hm with e | hm
        · cases e
          exact .inr ⟨hk ▸ List.mem_cons_self, Nat.le_refl _, _, pushCells_keeps r _ _ _ (Heap.get?_push_size _ rfl), rfl⟩
        · exact .inl hm
      · rw [Heap.size_push] at h2
        exact .inr ⟨List.mem_cons_of_mem _ h1, Nat.le_of_succ_le h2, h3⟩
    · rename_i hk
      rw [if_neg hk]
      rcases cells_mem hm with hm | ⟨h1, h2, h3⟩
      · exact .inl hm
      · exact .inr ⟨List.mem_cons_of_mem _ h1, h2, h3⟩
theorem cells_acc : ∀ {names : List (Str × NameKind)} {n : Nat} {acc : List (Str × Addr)} {p : Str × Addr}, p ∈ acc → p ∈ cellsFrom n names acc
  | [], _, _, _, h => h
  | (m, k) :: r, n, acc, p, h => by
    unfold cellsFrom
    split
    · exact cells_acc (List.mem_cons_of_mem _ h)
    · exact cells_acc h
theorem cells_has : ∀ {names : List (Str × NameKind)} {n : Nat} {acc : List (Str × Addr)} {x : Str}, (x, .cell) ∈ names → ∃ c, (x, c) ∈ cellsFrom n names acc
  | (m, k) :: r, n, acc, x, h => by
    unfold cellsFrom
    rcases List.mem_cons.mp h with e | h
    · cases e
      exact ⟨n, cells_acc List.mem_cons_self⟩
    · split
      · exact cells_has h
      · exact cells_has h
theorem cells_inj : ∀ {names : List (Str × NameKind)} {h : Heap} {acc : List (Str × Addr)} {x y : Str} {c : Addr}, (∀ p ∈ acc, p.2 < h.objs.size) → (∀ x y c, (x, c) ∈ acc → (y, c) ∈ acc → x = y) →
    (x, c) ∈ cellsFrom h.objs.size names acc → (y, c) ∈ cellsFrom h.objs.size names acc → x = y
  | [], _, _, _, _, _, _, hi, h1, h2 => hi _ _ _ h1 h2
  | (n, k) :: r, h, acc, x, y, c, hl, hi, h1, h2 => by
    unfold cellsFrom at h1 h2
    split at h1
    · rename_i hk
      rw [if_pos hk] at h2
      rw [← Heap.size_push h { cls := .type "cell", data := .cell none }] at h1 h2
      refine cells_inj (h := h.push _) (fun p hp => ?_) (fun x y c a b => ?_) h1 h2
      · rw [Heap.size_push]
        rcases List.mem_cons.mp hp with rfl | hp
        · exact Nat.lt_succ_self _
        · exact Nat.lt_succ_of_lt (hl p hp)
      · rcases List.mem_cons.mp a with e | a <;> rcases List.mem_cons.mp b with e' | b
        · cases e; cases e'; rfl
        · cases e; exact absurd (hl _ b) (Nat.lt_irrefl _)
        · cases e'; exact absurd (hl _ a) (Nat.lt_irrefl _)
        · exact hi _ _ _ a b
    · rename_i hk
      rw [if_neg hk] at h2
      exact cells_inj hl hi h1 h2

theorem newEnv_comp {M : Model} {A : Around} {E : Value → Shared → Prop} {s : Shared} {scope : Scope} {globals : Addr} {closure : List (Str × Addr)} {qual : Str} {func : Option Addr} {code : Value} {around : Env} {builtins : Addr} {Q : Env → Shared → Prop}
    (h : Q (newEnv scope s.heap.objs.size globals (cellsFrom (s.heap.objs.size + 1) scope.names closure) qual func code (some around) builtins)
      { s with heap := pushCells (s.heap.push { cls := .type "dict", data := .dict #[] }) scope.names }) :
    wpAny M A (newFunctionEnv scope globals closure [] qual func code (some around) builtins) Q E s := by
  simp only [newFunctionEnv, Option.isSome_some, if_true]
  refine wpAny_bind (wpAny_alloc ?_)
  refine wpAny_bind (wpAny_layCells _ (fun n k c => rfl) scope.names closure _ _ ?_)
  rw [show ({ s with heap := s.heap.push { cls := .type "dict", data := .dict #[] } } : Shared).heap.objs.size = s.heap.objs.size + 1 from Heap.size_push ..]
  rw [List.forIn_nil]
  exact wpAny_bind (wpAny_pure (wpAny_pure h))

/-- every name of the written scope, in the scope that runs -/
theorem lookup_relS {sc : Scope} : ∀ {names : List (Str × NameKind)} {x : Str} {k : NameKind},
    (names.map fun (n, k) => if (k == NameKind.free && sc.kind == .function && sc.names.lookup n == some .cell) then (n, NameKind.cell) else (n, k)).lookup x = some k →
    ∃ k', names.lookup x = some k' ∧ (k = k' ∨ (k' = .free ∧ k = .cell))
  | [], _, _, h => by simp at h
  | (n, k₀) :: r, x, k, h => by
    have ih := @lookup_relS sc r x k
    have h' : List.lookup x ((if (k₀ == NameKind.free && sc.kind == .function && sc.names.lookup n == some .cell) = true then (n, NameKind.cell) else (n, k₀)) :: (r.map _)) = some k := h
    cases hx : x == n with
    | true =>
      simp only [List.lookup_cons, hx]
      by_cases hc : (k₀ == NameKind.free && sc.kind == .function && sc.names.lookup n == some .cell) = true
      · rw [if_pos hc] at h'
        simp only [List.lookup_cons, hx] at h'
        cases h'
        simp only [Bool.and_eq_true, beq_iff_eq] at hc
        exact ⟨k₀, rfl, .inr ⟨hc.1.1, rfl⟩⟩
      · rw [if_neg hc] at h'
        simp only [List.lookup_cons, hx] at h'
        cases h'
        exact ⟨_, rfl, .inl rfl⟩
    | false =>
      simp only [List.lookup_cons, hx]
      by_cases hc : (k₀ == NameKind.free && sc.kind == .function && sc.names.lookup n == some .cell) = true
      · rw [if_pos hc] at h'
        simp only [List.lookup_cons, hx] at h'
        exact ih h'
      · rw [if_neg hc] at h'
        simp only [List.lookup_cons, hx] at h'
        exact ih h'
/-- the names of a comprehension's block: its own (with their places in N), or captured -/
structure BlkOk (N : List Str) (sc scope : Scope) (own : List (Str × Nat)) : Prop where
  kind : scope.kind = .function
  uniq : ∀ y ∈ scope.names, scope.names.lookup y.1 = some y.2
  ix : ∀ p ∈ own, N[p.2]? = some p.1
  free : ∀ y ∈ scope.names, y.2 = .free → sc.names.lookup y.1 = some .cell ∨ sc.names.lookup y.1 = some .free
  own : ∀ y ∈ scope.names, y.2 = .local ∨ y.2 = .cell → y.1 ∈ own.map (·.1) ∨ y.1 ∉ N
/-- the slots of the block's own names forgotten -/
def wipe (σ : St) : List Nat → St
  | [] => σ
  | v :: vs => (wipe σ vs).set v none
theorem wipe_length (σ : St) : ∀ vs : List Nat, (wipe σ vs).length = σ.length
  | [] => rfl
  | v :: vs => by unfold wipe; rw [List.length_set, wipe_length σ vs]
theorem wipe_some {σ : St} {i : Nat} {x : V} : ∀ {vs : List Nat}, (wipe σ vs)[i]? = some (some x) → σ[i]? = some (some x) ∧ i ∉ vs
  | [], h => ⟨h, by simp⟩
  | v :: vs, h => by
    unfold wipe at h
    by_cases hi : v = i
    · subst hi
      by_cases hv : v < (wipe σ vs).length
      · rw [List.getElem?_set_self hv] at h; cases h
      · rw [List.getElem?_eq_none (by simpa using hv)] at h; cases h
    · rw [List.getElem?_set_ne hi] at h
      obtain ⟨h1, h2⟩ := wipe_some h
      exact ⟨h1, by simp only [List.mem_cons, not_or]; exact ⟨fun e => hi e.symm, h2⟩⟩

/-- the context of a block that starts at s, its iterator's objects at fp -/
abbrev Cx.blk (X : Cx) (s : Shared) (H : Hp) (scope : Scope) (cenv : Env) (fp : List Addr) : Cx := { X with s_0 := s, H_0 := H, env := cenv, outer := X.stack, ex := fp, fn := fun x => scope.names.lookup x == some .cell, pn := [], xe := fun _ _ => False }
section
variable {X : Cx} {pins : List (Addr × Obj)} {σ : St} {H : Hp} {s : Shared}
theorem block_start {scope : Scope} {own : List (Str × Nat)} {fp : List Addr} (I : Inv X pins σ H s) (ok : BlkOk X.N X.env.scope scope own) (hN : X.N.Nodup) (hfp : ∀ b ∈ fp, FpOk X pins H b ∧ b < s.heap.objs.size) :
    Inv (X.blk s H scope (compEnvC scope (cellsFrom (s.heap.objs.size + 1) scope.names (cloFrom X.env.cells scope.names [])) s.heap.objs.size X.env) fp) [] (wipe σ (own.map (·.2))) H { s with heap := pushCells (s.heap.push { cls := .type "dict", data := .dict #[] }) scope.names } := by
  have hfree : ∀ y ∈ scope.names, y.2 = .free → ∃ c, X.env.cells.lookup y.1 = some c := fun y hy e => by
    rcases ok.free y hy e with k | k
    · exact I.ok.has _ (.inl k)
    · exact I.ok.has _ (.inr k)
  generalize hcenv : compEnvC scope (cellsFrom (s.heap.objs.size + 1) scope.names (cloFrom X.env.cells scope.names [])) s.heap.objs.size X.env = cenv
  have kp : ∀ b o, s.heap.get? b = some o → (pushCells (s.heap.push { cls := .type "dict", data := .dict #[] }) scope.names).get? b = some o := fun b o e => pushCells_keeps _ _ _ _ (Heap.get?_push_of_some _ e)
  have hL : cenv.locals = s.heap.objs.size := by rw [← hcenv]; rfl
  have hcl : cenv.cells = cellsFrom (s.heap.objs.size + 1) scope.names (cloFrom X.env.cells scope.names []) := by rw [← hcenv]; rfl
  have hsc : cenv.scope = relS scope X.env.scope := by rw [← hcenv]; rfl
  rw [← Heap.size_push s.heap { cls := .type "dict", data := .dict #[] }] at hcl
  have cm : ∀ {y c}, (y, c) ∈ cloFrom X.env.cells scope.names [] → X.env.cells.lookup y = some c ∧ c < s.heap.objs.size := fun {y c} hm => by
    rcases cloFrom_mem hm with hm | ⟨h1, rfl⟩
    · cases hm
    · obtain ⟨c, hc⟩ := hfree _ h1 rfl
      rw [hc]
      obtain ⟨w, z⟩ := I.cell _ _ hc
      exact ⟨rfl, z.lt⟩
  have mem : ∀ {y c}, cenv.cells.lookup y = some c → (X.env.cells.lookup y = some c ∧ c < s.heap.objs.size) ∨ (s.heap.objs.size + 1 ≤ c ∧ CellAt (pushCells (s.heap.push { cls := .type "dict", data := .dict #[] }) scope.names) c none) := fun {y c} e => by
    rw [hcl] at e
    rcases cells_mem (PySem.mem_of_lookup e) with hm | ⟨_, h2, h3⟩
    · exact .inl (cm hm)
    · rw [Heap.size_push] at h2; exact .inr ⟨h2, h3⟩
  have look : ∀ {y}, scope.names.lookup y = some .free → ∃ c, cenv.cells.lookup y = some c ∧ X.env.cells.lookup y = some c := fun {y} hl => by
    have hy : (y, NameKind.free) ∈ scope.names := PySem.mem_of_lookup hl
    obtain ⟨c', e'⟩ := mem_lookup (cells_acc (names := scope.names) (n := (s.heap.push { cls := .type "dict", data := .dict #[] }).objs.size) (cloFrom_has (cells := X.env.cells) (acc := []) hy))
    rw [← hcl] at e'
    refine ⟨c', e', ?_⟩
    rw [hcl] at e'
    rcases cells_mem (PySem.mem_of_lookup e') with hm | ⟨h1, _, _⟩
    · exact (cm hm).1
    · have := ok.uniq _ h1
      rw [hl] at this; cases this
  have okB : (X.blk s H scope cenv fp).Ok := by
    refine ⟨I.ok.mod, by show cenv.scope.kind = _; rw [hsc]; exact ok.kind, by show cenv.globals = _; rw [← hcenv]; exact I.ok.glob, by show cenv.builtins = _; rw [← hcenv]; exact I.ok.blt, by show s.heap.objs.size ≤ cenv.locals; rw [hL]; exact Nat.le_refl _,
      fun y z c e1 e2 => ?_, fun y hy => ?_, fun y c z e => ?_, I.ok.hd, I.ok.frames, .inl rfl, fun b hb => ⟨?_, fun y c e z => ?_⟩, I.bs, Nat.le_trans I.ok.bsz I.sz, fun b o e hb => ?_, fun b hb z => ?_, I.stack, I.stkFree⟩
    · have e1 : cenv.cells.lookup y = some c := e1
      have e2 : cenv.cells.lookup z = some c := e2
      rw [hcl] at e1 e2
      refine cells_inj (fun p hp => ?_) (fun y z c a b => I.ok.inj y z c (cm a).1 (cm b).1) (PySem.mem_of_lookup e1) (PySem.mem_of_lookup e2)
      rw [Heap.size_push]
      exact Nat.lt_succ_of_lt (cm (y := p.1) (c := p.2) hp).2
    · show ∃ c, cenv.cells.lookup y = some c
      have key : ∀ k, cenv.kindOf y = some k → (k = .cell ∨ k = .free) → ∃ c, cenv.cells.lookup y = some c := fun k hk hk' => by
        unfold Env.kindOf at hk
        rw [hsc] at hk
        obtain ⟨k', e, r⟩ := lookup_relS hk
        have : k' = .cell ∨ k' = .free := by
          rcases r with rfl | ⟨rfl, _⟩
          · exact hk'
          · exact .inr rfl
        rcases this with rfl | rfl
        · obtain ⟨c, hm⟩ := cells_has (n := (s.heap.push { cls := .type "dict", data := .dict #[] }).objs.size) (acc := cloFrom X.env.cells scope.names []) (PySem.mem_of_lookup e)
          obtain ⟨c', e'⟩ := mem_lookup hm
          exact ⟨c', by rw [hcl]; exact e'⟩
        · obtain ⟨c, h1, _⟩ := look e
          exact ⟨c, h1⟩
      rcases hy with hy | hy
      · exact key _ hy (.inl rfl)
      · exact key _ hy (.inr rfl)
    · have z : (scope.names.lookup y == some NameKind.cell) = true := z
      have z : scope.names.lookup y = some .cell := by simpa using z
      have e : cenv.cells.lookup y = some c := e
      rw [hcl] at e
      rcases cells_mem (PySem.mem_of_lookup e) with hm | ⟨_, h2, _⟩
      · rcases cloFrom_mem hm with hm | ⟨h1, _⟩
        · cases hm
        · have q := ok.uniq _ h1
          rw [z] at q; cases q
      · rw [Heap.size_push] at h2
        exact Nat.le_of_succ_le h2
    · show b ≠ cenv.locals
      rw [hL]; exact Nat.ne_of_lt (hfp b hb).2
    · have e : cenv.cells.lookup y = some c := e
      rcases mem e with ⟨h1, _⟩ | ⟨h1, _⟩
      · exact (hfp b hb).1.2.2.2.2.1 y c h1 z
      · have h2 : s.heap.objs.size + 1 ≤ b := by rw [← z]; exact h1
        exact absurd (Nat.lt_of_lt_of_le (hfp b hb).2 (Nat.le_of_succ_le h2)) (Nat.lt_irrefl _)
    · rcases (hfp b hb).1.2.2.2.1 with z | z
      · exact I.ok.noex b o e z
      · exact absurd (Nat.lt_of_lt_of_le (Heap.lt_size e) (Nat.le_trans I.ok.bsz z)) (Nat.lt_irrefl _)
    · rcases List.mem_cons.mp (I.stkSub b z) with z | z
      · exact (hfp b hb).1.2.1 z
      · exact (hfp b hb).1.2.2.1 z
  refine ⟨okB, rfl, I.bare, Un.kept kp, ⟨fun _ => none, ?_, fun i y av e1 e2 e3 => ?_⟩, fun y c e => ?_, ?_, fun y c e => ?_, fun p hp => ?_, I.hok.kept kp, by rw [wipe_length]; exact I.len⟩
  · show Heap.Ns _ cenv.locals _
    rw [hL]
    exact Heap.Ns.keeps (Heap.Ns.new ..) fun b o e => pushCells_keeps _ _ _ _ e
  · obtain ⟨e2, hne⟩ := wipe_some e2
    have hfr : scope.names.lookup y = some .free ∧ (cenv.kindOf y = some .cell ∨ cenv.kindOf y = some .free) := by
      have key : ∀ k, cenv.scope.names.lookup y = some k → k = .local ∨ k = .cell ∨ k = .free → scope.names.lookup y = some .free ∧ (cenv.kindOf y = some .cell ∨ cenv.kindOf y = some .free) := fun k hk hk' => by
        have hk0 := hk
        rw [hsc] at hk
        obtain ⟨k', e, r⟩ := lookup_relS hk
        have no : ¬ (k' = .local ∨ k' = .cell) := fun hh => by
          rcases ok.own _ (PySem.mem_of_lookup e) hh with e' | e'
          · obtain ⟨p, hp, hpy⟩ := List.mem_map.mp e'
            have e3 := ok.ix p hp
            have : p.1 = y := hpy
            rw [this] at e3
            exact hne (List.mem_map.mpr ⟨p, hp, nodup_ix hN e3 e1⟩)
          · exact e' (List.mem_of_getElem? e1)
        rcases r with rfl | ⟨rfl, rfl⟩
        · rcases hk' with rfl | rfl | rfl
          · exact absurd (.inl rfl) no
          · exact absurd (.inr rfl) no
          · exact ⟨e, .inr hk0⟩
        · exact ⟨e, .inl hk0⟩
      have e3 : Vis cenv.scope y := e3
      rcases e3 with e3 | e3 | e3
      · exact key _ e3 (.inl rfl)
      · exact key _ e3 (.inr (.inl rfl))
      · exact key _ e3 (.inr (.inr rfl))
    obtain ⟨m, hn, hl⟩ := I.loc
    have hvis : Vis X.env.scope y := (ok.free _ (PySem.mem_of_lookup hfr.1) rfl).elim (fun k => .inr (.inl k)) (fun k => .inr (.inr k))
    obtain ⟨w, r, q⟩ := hl i y av e1 e2 hvis
    refine ⟨w, r, .inr ⟨hfr.2, ?_⟩⟩
    obtain ⟨c, h1, h2⟩ := look hfr.1
    rcases q with ⟨k, _⟩ | ⟨_, c', e', z⟩
    · have k : X.env.scope.names.lookup y = some .local := k
      rcases ok.free _ (PySem.mem_of_lookup hfr.1) rfl with k' | k' <;> rw [show X.env.scope.names.lookup y = _ from k'] at k <;> cases k
    · rw [h2] at e'; cases e'
      exact ⟨c, h1, z.keeps kp⟩
  · have e : cenv.cells.lookup y = some c := e
    rcases mem e with ⟨h1, _⟩ | ⟨_, z⟩
    · obtain ⟨w, z⟩ := I.cell y c h1
      exact ⟨w, z.keeps kp⟩
    · exact ⟨_, z⟩
  · show H cenv.locals = none
    rw [hL]; exact I.hok.fresh (Nat.le_refl _)
  · have e : cenv.cells.lookup y = some c := e
    rcases mem e with ⟨h1, _⟩ | ⟨h1, _⟩
    · exact I.freeC y c h1
    · exact I.hok.fresh (Nat.le_of_succ_le h1)
  · exact absurd (show p ∈ ([] : List (Addr × Obj)) ++ [] from hp) (by simp)

/-- an item appended to a tracked list -/
theorem app_ok {E : Value → Shared → Prop} {D : Addr} {xs : List V} {y : V} {v : Value} {Q : Value → Shared → Prop} (I : Inv X pins σ H s) (hD : H D = some (.lst xs)) (hz : xs.length < sizeLine) (r : RelV y v)
    (h : ∀ s', Inv X pins σ (upd H D (.lst (xs ++ [y]))) s' → Q .none s') : wpAny (model X.prog X.w) X.A (call (.builtin "list.append") [.ref D, v]) Q E s := by
  obtain ⟨hz', its, n, ri, e⟩ := I.hok D _ hD
  have hl := ri.length
  refine append_at (hsz := by rw [List.size_toArray]; omega) e fun h' sb ho' => ?_
  refine h { s with heap := h' } (I.write (t' := s.toks) (by rw [hD]; trivial) (.inl rfl) (fun b u hb q => (sb.2 b hb).trans q) ⟨_, ho'⟩ ⟨by rw [List.length_append]; exact hz, its ++ [v], n + 1, ri.append (.cons r .nil), ?_⟩)
  rw [ho']
  simp

/-- a clause's tests -/
def PTs (X : Cx) (ifs : List Expr) (t : TT) : Prop :=
  ∀ (pins : List (Addr × Obj)) (s : Shared) (σ : St) (H : Hp) (Q : Bool → Hp → Prop), Inv X pins σ H s → t σ H Q →
    wpAny (model X.prog X.w) X.A (forIn ifs true fun c r => if r = true then do let ok ← isTrue c X.env (eval c X.env); pure (ForInStep.yield ok) else pure (ForInStep.yield r)) (TP X pins σ Q) X.xe s
def tYes : TT := fun _ H Q => Q true H
theorem pts_nil : PTs X [] tYes := fun _ _ _ H _ I h => wpAny_tests_nil ⟨H, I, h⟩
end

theorem thnF {α : Type} {t : Sem α} {Q Q' : α → Shared → Prop} {M : Model} {A : Around} {E : Value → Shared → Prop} {s : Shared} (h : wpAny M A t Q (fun _ _ => False) s) (hQ : ∀ a s, Q a s → Q' a s) : wpAny M A t Q' E s := wpAny_mono h hQ fun _ _ z => False.elim z

/-- the loop of a list comprehension's block, the target of any form (codeAny_compLoop_tests asks a target that no tuple goes to; statement and proof follow it, PyProof/CompMap.lean:41-61, with the step letOwnedTupleGo kept) -/
theorem compLoop_any {prog : Program} {w : World} {A : Around} {R : Result → Shared → Prop} {s : Shared} {elt target iter : Expr} {ifs : List Expr} {scope : Scope} {pos : Pos} {it acc : Value} {env : Env} (I : Nat → Shared → Prop)
    (turn : ∀ n s, I n s → wpAny (model prog w) A (pyNext it) (fun r s₁ => match r with
      | none => R (.ok .next) s₁
      | some v => wpAny (model prog w) A (letOwnedTupleGo target it v) (fun _ s₁' => wpAny (model prog w) A (assign target env v) (fun _ s₂ =>
          wpAny (model prog w) A (forIn ifs true fun c r => if r = true then do let ok ← isTrue c env (eval c env); pure (ForInStep.yield ok) else pure (ForInStep.yield r)) (fun ok s₃ =>
            if ok = true then wpAny (model prog w) A (eval elt env) (fun x s₄ =>
              wpAny (model prog w) A (call (.builtin "list.append") [acc, x]) (fun _ s₅ => ∃ m, m < n ∧ I m s₅) (notedBy (model prog w) A env fun e s' => R (.error e) s') s₄) (notedBy (model prog w) A env fun e s' => R (.error e) s') s₃
            else ∃ m, m < n ∧ I m s₃) (notedBy (model prog w) A env fun e s' => R (.error e) s') s₂) (notedBy (model prog w) A env fun e s' => R (.error e) s') s₁') (notedBy (model prog w) A env fun e s' => R (.error e) s') s₁) (notedBy (model prog w) A env fun e s' => R (.error e) s') s)
    (n : Nat) (h : I n s) :
    codeAny (model prog w) A (.compLoop (.ListComp elt [⟨target, iter, ifs, 0⟩] scope pos) 0 it acc env) R s := by
  refine codeAny_loop rfl I (fun n s hI => ?_) n h
  show wpAny _ A ((compTurn (.ListComp elt [⟨target, iter, ifs, 0⟩] scope pos) 0 it acc env).onRaise (fun x => do noteFrame x env; theTreesLotGoes x)) _ _ s
  refine wpAny_noted ?_
  rw [compTurn_list]
  refine wpAny_bind (wpAny_standAt (wpAny_bind (wpAny_mono (turn n s hI) (fun r s₁ h₁ => ?_) fun _ _ h' => h')))
  cases r with
  | none => exact wpAny_pure h₁
  | some v =>
    refine wpAny_bind (wpAny_mono h₁ (fun _ s₁' h₁' => ?_) fun _ _ h' => h')
    refine wpAny_bind (wpAny_mono h₁' (fun _ s₂ h₂ => wpAny_bind (wpAny_mono h₂ (fun ok s₃ h₃ => ?_) fun _ _ h' => h')) fun _ _ h' => h')
    cases ok with
    | false => exact wpAny_pure ⟨rfl, h₃⟩
    | true =>
      exact wpAny_bind (wpAny_bind (wpAny_mono h₃ (fun x s₄ h₄ => wpAny_bind (wpAny_mono h₄ (fun _ s₅ h₅ => wpAny_pure (wpAny_pure ⟨rfl, h₅⟩)) fun _ _ h' => h')) fun _ _ h' => h'))

section
variable {X : Cx}
/-- [elt for target in iter if ..]: D the new list; W by the turn and a measure, Nx what a turn is to reach -/
def tLc (wi : TI) (g : TG) (tt : TT) (te : TE) (vs : List Nat) : TE := fun σ H Q => wi σ H fun J H1 => ∀ D, H1 D = none → ∃ W : Nat → Nat → Hp → Prop, (∃ m, W 0 m (upd H1 D (.lst []))) ∧ ∀ i m H, W i m H →
  (J.stop i H ∧ Q (.ref D) H) ∨ (J.go i H ∧ ∃ Nx : Hp → Prop, (∀ H', Nx H' → ∃ m', m' < m ∧ W (i + 1) m' H') ∧ ∀ x H', J.yld i H x H' → g x (wipe σ vs) H' fun σ2 H2 => wipe σ2 vs = wipe σ vs ∧ tt σ2 H2 fun b H3 =>
    if b = true then te σ2 H3 fun y H4 => ∃ acc, H4 D = some (.lst acc) ∧ acc.length < sizeLine ∧ Nx (upd H4 D (.lst (acc ++ [y]))) else Nx H3)
theorem lc_core {pins : List (Addr × Obj)} {s : Shared} {σ : St} {H : Hp} {Q : VK} {elt tg iter : Expr} {ifs : List Expr} {scope : Scope} {own : List (Str × Nat)} {pos pos' : Pos} {wi : TI} {g : TG} {tt : TT} {te : TE} {use : Option (Value → Sem Unit)} {Qf : Value → Shared → Prop}
    (hc : X.calm = true) (hN : X.N.Nodup) (I : Inv X pins σ H s) (hi : PI X tg iter wi) (ok : BlkOk X.N X.env.scope scope own)
    (hg : ∀ (s : Shared) (H : Hp) (C : Addr) (cl : List (Str × Addr)) (fp : List Addr), PG (X.blk s H scope (compEnvC scope cl C X.env) fp) tg g) (ht : ∀ (s : Shared) (H : Hp) (C : Addr) (cl : List (Str × Addr)) (fp : List Addr), PTs (X.blk s H scope (compEnvC scope cl C X.env) fp) ifs tt)
    (he : ∀ (s : Shared) (H : Hp) (C : Addr) (cl : List (Str × Addr)) (fp : List Addr), PE (X.blk s H scope (compEnvC scope cl C X.env) fp) elt te) (hs : ∀ x, foldedSetIterable iter X.env x = pure x)
    (h : tLc wi g tt te (own.map (·.2)) σ H Q)
    (hRR : ∀ D C s' m H', Inv X pins σ H' s' → Q (.ref D) H' → s'.heap.Ns C m → FpOk X pins H' C → compPost (model X.prog X.w) X.A X.xe use Qf (.ref D) C (.ok .next) s') :
    wpAny (model X.prog X.w) X.A (comprehension (.ListComp elt [⟨tg, iter, ifs, 0⟩] scope pos) scope X.env pos' (newList []) false (eval iter X.env) use) Qf X.xe s := by
  have hfree : ∀ y ∈ scope.names, y.2 = .free → ∃ c, X.env.cells.lookup y.1 = some c := fun y hy e => by
    rcases ok.free y hy e with k | k
    · exact I.ok.has _ (.inl k)
    · exact I.ok.has _ (.inr k)
  refine wpAny_comprehension_free (use := use) rfl hs (closure_ok hfree) ok.kind (fun y hy e => by rw [ok.uniq y hy, e])
    (thn (hi pins s σ H _ I h) fun xv s1 hx => thn hx fun itv s2 h2 => ?_)
  obtain ⟨it, fp, tn, J, H2, e, I2, T, st2, f2, q⟩ := h2
  subst e
  refine wpAny_newObj_type (newEnv_comp ?_) (by show 0 ≤ sizeLine; decide)
  generalize hD : s2.heap.objs.size = D
  have hDn : H2 D = none := I2.hok.fresh (Nat.le_of_eq hD)
  obtain ⟨W, ⟨m0, w0⟩, turn⟩ := q D hDn
  -- the new list
  generalize hs3 : ({ s2 with heap := s2.heap.push { cls := .type "list", data := .seq ([] : List Value).toArray } } : Shared) = s3
  have I3 : Inv X pins σ (upd H2 D (.lst [])) s3 := by
    rw [← hs3]
    refine I2.laid (t' := s2.toks) (fun b o e => Heap.get?_push_of_some _ e) (Nat.le_of_eq hD) ⟨Nat.zero_le _, [], 0, .nil, ?_⟩
    rw [← hD]
    exact Heap.get?_push_size _ rfl
  have h3 : s3.heap = s2.heap.push { cls := .type "list", data := .seq ([] : List Value).toArray } := by rw [← hs3]
  have sz : ∀ b ∈ fp, b < s2.heap.objs.size := fun b hb => by
    obtain ⟨o, e, _⟩ := T.obj _ _ st2 b hb
    exact Heap.lt_size e
  have f3 : ∀ b ∈ fp, FpOk X pins (upd H2 D (.lst [])) b ∧ b < s3.heap.objs.size := fun b hb => by
    have hlt := sz b hb
    refine ⟨⟨?_, (f2 b hb).2⟩, by rw [h3, Heap.size_push]; exact Nat.lt_succ_of_lt hlt⟩
    rw [upd_ne (by rw [← hD]; exact Nat.ne_of_lt hlt)]
    exact (f2 b hb).1
  have st3 : tn 0 s3.heap := T.keep _ _ _ st2 fun b _ o e => by rw [h3]; exact Heap.get?_push_of_some _ e
  have I4 := block_start I3 ok hN f3
  have pg := hg s3 (upd H2 D (.lst [])) s3.heap.objs.size (cellsFrom (s3.heap.objs.size + 1) scope.names (cloFrom X.env.cells scope.names [])) fp
  have pt := ht s3 (upd H2 D (.lst [])) s3.heap.objs.size (cellsFrom (s3.heap.objs.size + 1) scope.names (cloFrom X.env.cells scope.names [])) fp
  have pe := he s3 (upd H2 D (.lst [])) s3.heap.objs.size (cellsFrom (s3.heap.objs.size + 1) scope.names (cloFrom X.env.cells scope.names [])) fp
  show codeAny _ _ (.compStart (.ListComp elt [⟨tg, iter, ifs, 0⟩] scope pos) 0 (.ref it) (.ref D) (compEnvC scope (cellsFrom (s3.heap.objs.size + 1) scope.names (cloFrom X.env.cells scope.names [])) s3.heap.objs.size X.env)) (compPost (model X.prog X.w) X.A X.xe use Qf (.ref D) s3.heap.objs.size) { s3 with heap := pushCells (s3.heap.push { cls := .type "dict", data := .dict #[] }) scope.names }
  have nfp : ∀ b ∈ fp, (upd H2 D (.lst [])) b = none := fun b hb => (f3 b hb).1.1
  generalize hce : compEnvC scope (cellsFrom (s3.heap.objs.size + 1) scope.names (cloFrom X.env.cells scope.names [])) s3.heap.objs.size X.env = ce at I4 pg pt pe ⊢
  have cL : ce.locals = s3.heap.objs.size := by subst hce; rfl
  generalize hH3 : upd H2 D (.lst []) = H3 at I3 I4 pg pt pe w0 nfp f3
  generalize hs4 : ({ s3 with heap := pushCells (s3.heap.push { cls := .type "dict", data := .dict #[] }) scope.names } : Shared) = s4 at I4 ⊢
  have st4 : tn 0 s4.heap := T.keep _ _ _ st3 fun b _ o e => by rw [← hs4]; exact pushCells_keeps _ _ _ _ (Heap.get?_push_of_some _ e)
  have stat : ∀ {σ' : St} {H' : Hp} {s' : Shared}, Inv (X.blk s3 H3 scope ce fp) [] σ' H' s' → (∀ b ∈ fp, H' b = none) → ∀ b ∈ fp, FpOk (X.blk s3 H3 scope ce fp) [] H' b := fun {σ' H' s'} I' hn b hb =>
    ⟨hn b hb, (I'.ok.exf b hb).1, I'.ok.exfs b hb, .inl hb, fun x c e => (I'.ok.exf b hb).2 x c e, fun p hp => absurd (show p ∈ ([] : List (Addr × Obj)) ++ [] from hp) (by simp)⟩
  have loop : codeAny (model X.prog X.w) X.A (.compLoop (.ListComp elt [⟨tg, iter, ifs, 0⟩] scope pos) 0 (.ref it) (.ref D) ce) (compPost (model X.prog X.w) X.A X.xe use Qf (.ref D) s3.heap.objs.size) s4 := by
    refine compLoop_any (fun n s' => ∃ i H', Inv (X.blk s3 H3 scope ce fp) [] (wipe σ (own.map (·.2))) H' s' ∧ tn i s'.heap ∧ (∀ b ∈ fp, H' b = none) ∧ W i n H') ?_ m0 ⟨0, H3, I4, st4, nfp, w0⟩
    rintro n s5 ⟨i, H5, I5, st5, n5, w5⟩
    rcases turn i n H5 w5 with ⟨stop, qq⟩ | ⟨go, Nx, hNx, step⟩
    · have td := T.done (X.blk s3 H3 scope ce fp) rfl rfl rfl hc i [] s5 _ H5 (fun _ _ => False) I5 (stat I5 n5) st5 stop
      refine thnF td fun r s6 ⟨hr, I6⟩ => ?_
      subst hr
      -- back in the def's context
      have I7 : Inv X pins σ H5 s6 := I3.call' (ch := fp) I6.os I6.base I6.hok I6.bare fun b hb => ⟨(f3 b hb).1.2.2.2.1, (f3 b hb).1.2.1, (f3 b hb).1.2.2.2.2.1, (f3 b hb).1.2.2.2.2.2⟩
      have nC : H5 s3.heap.objs.size = none := by
        have z : H5 ce.locals = none := I6.free
        rw [cL] at z
        exact z
      obtain ⟨m, hn, _⟩ := I6.loc
      have hn : s6.heap.Ns ce.locals m := hn
      rw [cL] at hn
      exact hRR D s3.heap.objs.size s6 m H5 I7 qq hn (I3.fpOk (Nat.le_refl _) nC)
    · have ti := T.item (X.blk s3 H3 scope ce fp) rfl rfl rfl hc i [] s5 _ H5 (fun _ _ => False) I5 (stat I5 n5) st5 go
      refine thnF ti fun r s6 ⟨u, hr, h6⟩ => ?_
      subst hr
      refine thnF h6 fun _ s7 ⟨x, H7, I7, r7, y7, st7, n7⟩ => ?_
      have I7' := I7.pinned (stat I7 n7) (T.obj _ _ st7)
      refine thnF (pg _ s7 _ H7 x u _ I7' r7 (step x H7 y7)) fun _ s8 ⟨σ8, H8, I8, hw8, q8⟩ => ?_
      refine thnF (pt _ s8 σ8 H8 _ I8 q8) fun b s9 ⟨H9, I9, q9⟩ => ?_
      -- the turn's end
      have fin : ∀ {s' : Shared} {H' : Hp}, Inv (X.blk s3 H3 scope ce fp) ([] ++ pinsAt fp s7.heap) σ8 H' s' → Nx H' → ∃ m, m < n ∧ ∃ i H', Inv (X.blk s3 H3 scope ce fp) [] (wipe σ (own.map (·.2))) H' s' ∧ tn i s'.heap ∧ (∀ b ∈ fp, H' b = none) ∧ W i m H' := fun {s' H'} I' nx => by
        obtain ⟨m', hm, w'⟩ := hNx H' nx
        have pin' : ∀ b ∈ fp, ∀ o, s7.heap.get? b = some o → s'.heap.get? b = some o ∧ H' b = none := fun b hb o e =>
          let z := I'.pin (b, o) (List.mem_append_right _ (List.mem_append_right _ (mem_pinsAt hb e)))
          ⟨z.1, z.2.1⟩
        have hl : (wipe σ (own.map (·.2))).length = σ8.length := by rw [← hw8, wipe_length]
        refine ⟨m', hm, i + 1, H', (I'.unpinned (pins := [])).weak hl (fun j v e => ?_), T.keep _ _ _ st7 fun b hb o e => (pin' b hb o e).1, fun b hb => ?_, w'⟩
        · rw [← hw8] at e
          exact (wipe_some e).1
        · obtain ⟨o, e, _⟩ := T.obj _ _ st7 b hb
          exact (pin' b hb o e).2
      cases b with
      | false =>
        simp only [Bool.false_eq_true, if_false] at q9 ⊢
        exact fin I9 q9
      | true =>
        simp only [if_true] at q9 ⊢
        refine thnF (pe _ s9 σ8 H9 _ I9 q9) fun z s10 ⟨yv, H10, I10, r10, acc, hD10, hz10, nx⟩ => ?_
        exact app_ok (X := X.blk s3 H3 scope ce fp) I10 hD10 hz10 r10 fun s11 I11 => fin I11 nx
  exact codeAny_compStart_list loop (T.self X.A 0 _ _ _ st4 loop)
/-- as a value -/
theorem pe_lc {elt tg iter : Expr} {ifs : List Expr} {scope : Scope} {own : List (Str × Nat)} {pos : Pos} {wi : TI} {g : TG} {tt : TT} {te : TE} (hc : X.calm = true) (hN : X.N.Nodup) (hi : PI X tg iter wi) (ok : BlkOk X.N X.env.scope scope own)
    (hg : ∀ (s : Shared) (H : Hp) (C : Addr) (cl : List (Str × Addr)) (fp : List Addr), PG (X.blk s H scope (compEnvC scope cl C X.env) fp) tg g) (ht : ∀ (s : Shared) (H : Hp) (C : Addr) (cl : List (Str × Addr)) (fp : List Addr), PTs (X.blk s H scope (compEnvC scope cl C X.env) fp) ifs tt)
    (he : ∀ (s : Shared) (H : Hp) (C : Addr) (cl : List (Str × Addr)) (fp : List Addr), PE (X.blk s H scope (compEnvC scope cl C X.env) fp) elt te) (hs : ∀ x, foldedSetIterable iter X.env x = pure x := by intro _; rfl) :
    PE X (.ListComp elt [⟨tg, iter, ifs, 0⟩] scope pos) (tLc wi g tt te (own.map (·.2))) := by
  intro pins s σ H Q I h
  rw [eval_ListComp]
  refine lc_core hc hN I hi ok hg ht he hs h fun D C s' m H' I' q hn f => ⟨m, hn, fun h'' sb => ?_⟩
  obtain ⟨f0, f1, f2, f3, f4, f5⟩ := f
  exact ⟨.ref D, H', I'.turned (t' := s'.toks) (fun b o hb e => (sb.2 b hb).trans e) f0 f1 f3 f4 f5, rfl, q⟩
/-- name = [..] on one line, the name a local -/
theorem ps_setLc {i : Nat} {y : Str} {py : Pos} {elt tg iter : Expr} {ifs : List Expr} {scope : Scope} {own : List (Str × Nat)} {pos spos : Pos} {wi : TI} {g : TG} {tt : TT} {te : TE} (hc : X.calm = true) (hN : X.N.Nodup) (hy : X.N[i]? = some y) (hyl : X.env.scope.names.lookup y = some .local)
    (hsw : swapsWith (.ListComp elt [⟨tg, iter, ifs, 0⟩] scope pos) (some (.Name y py)) spos.line X.env = pure true) (hi : PI X tg iter wi) (ok : BlkOk X.N X.env.scope scope own)
    (hg : ∀ (s : Shared) (H : Hp) (C : Addr) (cl : List (Str × Addr)) (fp : List Addr), PG (X.blk s H scope (compEnvC scope cl C X.env) fp) tg g) (ht : ∀ (s : Shared) (H : Hp) (C : Addr) (cl : List (Str × Addr)) (fp : List Addr), PTs (X.blk s H scope (compEnvC scope cl C X.env) fp) ifs tt)
    (he : ∀ (s : Shared) (H : Hp) (C : Addr) (cl : List (Str × Addr)) (fp : List Addr), PE (X.blk s H scope (compEnvC scope cl C X.env) fp) elt te) (hs : ∀ x, foldedSetIterable iter X.env x = pure x := by intro _; rfl) :
    PS X (.Assign [.Name y py] (.ListComp elt [⟨tg, iter, ifs, 0⟩] scope pos) spos) (tAsg (tLc wi g tt te (own.map (·.2))) (gName i)) := by
  intro pins s σ H D I h
  rw [exec_Assign_Name_used _ _ _ _ hsw]
  refine wpAny_bind (wpAny_standAt (wpAny_bind ?_))
  show wpAny _ X.A (do let _ ← comprehension (.ListComp elt [⟨tg, iter, ifs, 0⟩] scope pos) scope X.env (firstIterPos [⟨tg, iter, ifs, 0⟩] pos) (newList []) false (eval iter X.env) (some (assign (.Name y py) X.env))) _ _ s
  have h : tLc wi g tt te (own.map (·.2)) σ H (fun x H1 => gName i x σ H1 D.nx) := h
  refine wpAny_bind (thn (lc_core (Qf := fun _ s' => SP X pins D .next s') hc hN I hi ok hg ht he hs h fun L C s' m H' I' q hn f => ?_) fun _ s' hq => wpAny_pure (wpAny_pure hq))
  show wpAny _ _ (assign (.Name y py) X.env (.ref L)) _ _ _
  refine wpAny_assign_Name (store_ok2 (v := V.ref L) I' hN hy (.inl hyl) rfl (fun s2 I2 ⟨a, sb, ha⟩ => ?_) (.inr hyl))
  obtain ⟨f0, f1, f2, f3, f4, f5⟩ := f
  have haC : C ≠ a := by
    rcases ha with z | z
    · rw [z]; exact f1
    · exact fun e => f4 y a z e.symm
  refine ⟨m, hn.sameBut sb haC, fun h3 sb3 => ?_⟩
  exact ⟨_, H', I2.turned (t' := s2.toks) (fun b o hb e => (sb3.2 b hb).trans e) f0 f1 f3 f4 f5, q⟩
theorem sw_true {elt : Expr} {gs : List Comprehension} {scope : Scope} {pos py : Pos} {y : Str} {l : Nat} {env : Env} (hk : env.scope.kind = .function) (hy : env.scope.names.lookup y = some .local) (hl : (py.line == pos.line) = true)
    (ha : (scope.names.any fun (n, k) => n == y && (k == .local || k == .cell)) = false) : swapsWith (.ListComp elt gs scope pos) (some (.Name y py)) l env = pure true := by
  have ky : env.kindOf y = some .local := hy
  have hb : env.blockKind = .function := by unfold Env.blockKind; rw [hk]; rfl
  unfold swapsWith
  simp only [hb, ky, ha, Expr.pos, hl]
  rfl
end

/-! ### the forms one uses -/
/-- over a range: Pv by the turn and the heap (the new list at D within) -/
theorem lc_range {lo : Int} {n : Nat} {g : TG} {tt : TT} {te : TE} {vs : List Nat} {σ : St} {H1 : Hp} {D : Addr} {Qd : Hp → Prop} (Pv : Nat → Hp → Prop) (h0 : Pv 0 (upd H1 D (.lst [])))
    (hs : ∀ i H, i < n → Pv i H → g (.int (lo + i)) (wipe σ vs) H fun σ2 H2 => wipe σ2 vs = wipe σ vs ∧ tt σ2 H2 fun b H3 =>
      if b = true then te σ2 H3 fun y H4 => ∃ acc, H4 D = some (.lst acc) ∧ acc.length < sizeLine ∧ Pv (i + 1) (upd H4 D (.lst (acc ++ [y]))) else Pv (i + 1) H3) (hd : ∀ H, Pv n H → Qd H) :
    ∃ W : Nat → Nat → Hp → Prop, (∃ m, W 0 m (upd H1 D (.lst []))) ∧ ∀ i m H, W i m H →
      ((Itr lo n).stop i H ∧ Qd H) ∨ ((Itr lo n).go i H ∧ ∃ Nx : Hp → Prop, (∀ H', Nx H' → ∃ m', m' < m ∧ W (i + 1) m' H') ∧ ∀ x H', (Itr lo n).yld i H x H' → g x (wipe σ vs) H' fun σ2 H2 => wipe σ2 vs = wipe σ vs ∧ tt σ2 H2 fun b H3 =>
        if b = true then te σ2 H3 fun y H4 => ∃ acc, H4 D = some (.lst acc) ∧ acc.length < sizeLine ∧ Nx (upd H4 D (.lst (acc ++ [y]))) else Nx H3) := by
  refine ⟨fun i m H => m = n - i ∧ i ≤ n ∧ Pv i H, ⟨n, by simp, Nat.zero_le _, h0⟩, ?_⟩
  rintro i m H ⟨rfl, hi, p⟩
  by_cases hlt : i < n
  · refine .inr ⟨hlt, Pv (i + 1), fun H' p' => ⟨n - (i + 1), by omega, rfl, hlt, p'⟩, fun x H' y => ?_⟩
    obtain ⟨e, y⟩ := y
    subst e y
    exact hs i _ hlt p
  · have e : i = n := by omega
    subst e
    exact .inl ⟨Nat.le_refl _, hd H p⟩
/-- over a list that the block leaves as it is -/
theorem lc_list {K : PySem.W.Frag} {a : Addr} {xs : List V} {g : TG} {tt : TT} {te : TE} {vs : List Nat} {σ : St} {H1 : Hp} {D : Addr} {Qd : Hp → Prop} (Pv : Nat → Hp → Prop) (h0 : Pv 0 (upd H1 D (.lst []))) (hl : ∀ i H, i ≤ xs.length → Pv i H → SqL K H a xs)
    (hs : ∀ i x H, xs[i]? = some x → Pv i H → g x (wipe σ vs) H fun σ2 H2 => wipe σ2 vs = wipe σ vs ∧ tt σ2 H2 fun b H3 =>
      if b = true then te σ2 H3 fun y H4 => ∃ acc, H4 D = some (.lst acc) ∧ acc.length < sizeLine ∧ Pv (i + 1) (upd H4 D (.lst (acc ++ [y]))) else Pv (i + 1) H3) (hd : ∀ H, Pv xs.length H → Qd H) :
    ∃ W : Nat → Nat → Hp → Prop, (∃ m, W 0 m (upd H1 D (.lst []))) ∧ ∀ i m H, W i m H →
      ((Itl K a).stop i H ∧ Qd H) ∨ ((Itl K a).go i H ∧ ∃ Nx : Hp → Prop, (∀ H', Nx H' → ∃ m', m' < m ∧ W (i + 1) m' H') ∧ ∀ x H', (Itl K a).yld i H x H' → g x (wipe σ vs) H' fun σ2 H2 => wipe σ2 vs = wipe σ vs ∧ tt σ2 H2 fun b H3 =>
        if b = true then te σ2 H3 fun y H4 => ∃ acc, H4 D = some (.lst acc) ∧ acc.length < sizeLine ∧ Nx (upd H4 D (.lst (acc ++ [y]))) else Nx H3) := by
  refine ⟨fun i m H => m = xs.length - i ∧ i ≤ xs.length ∧ Pv i H, ⟨xs.length, by simp, Nat.zero_le _, h0⟩, ?_⟩
  rintro i m H ⟨rfl, hi, p⟩
  have q := hl i H hi p
  by_cases hlt : i < xs.length
  · refine .inr ⟨⟨xs, xs[i], q, by simp [hlt]⟩, Pv (i + 1), fun H' p' => ⟨xs.length - (i + 1), by omega, rfl, hlt, p'⟩, fun x H' y => ?_⟩
    obtain ⟨e, y⟩ := y
    subst e
    exact hs i x _ (y xs q) p
  · have e : i = xs.length := by omega
    subst e
    exact .inl ⟨⟨xs, q, Nat.le_refl _⟩, hd H p⟩
/-- over a tuple -/
theorem lc_tup {K : PySem.W.Frag} {a : Addr} {xs : List V} {g : TG} {tt : TT} {te : TE} {vs : List Nat} {σ : St} {H1 : Hp} {D : Addr} {Qd : Hp → Prop} (Pv : Nat → Hp → Prop) (h0 : Pv 0 (upd H1 D (.lst []))) (hl : ∀ i H, i ≤ xs.length → Pv i H → SqT K H a xs)
    (hs : ∀ i x H, xs[i]? = some x → Pv i H → g x (wipe σ vs) H fun σ2 H2 => wipe σ2 vs = wipe σ vs ∧ tt σ2 H2 fun b H3 =>
      if b = true then te σ2 H3 fun y H4 => ∃ acc, H4 D = some (.lst acc) ∧ acc.length < sizeLine ∧ Pv (i + 1) (upd H4 D (.lst (acc ++ [y]))) else Pv (i + 1) H3) (hd : ∀ H, Pv xs.length H → Qd H) :
    ∃ W : Nat → Nat → Hp → Prop, (∃ m, W 0 m (upd H1 D (.lst []))) ∧ ∀ i m H, W i m H →
      ((Itt K a).stop i H ∧ Qd H) ∨ ((Itt K a).go i H ∧ ∃ Nx : Hp → Prop, (∀ H', Nx H' → ∃ m', m' < m ∧ W (i + 1) m' H') ∧ ∀ x H', (Itt K a).yld i H x H' → g x (wipe σ vs) H' fun σ2 H2 => wipe σ2 vs = wipe σ vs ∧ tt σ2 H2 fun b H3 =>
        if b = true then te σ2 H3 fun y H4 => ∃ acc, H4 D = some (.lst acc) ∧ acc.length < sizeLine ∧ Nx (upd H4 D (.lst (acc ++ [y]))) else Nx H3) := by
  refine ⟨fun i m H => m = xs.length - i ∧ i ≤ xs.length ∧ Pv i H, ⟨xs.length, by simp, Nat.zero_le _, h0⟩, ?_⟩
  rintro i m H ⟨rfl, hi, p⟩
  have q := hl i H hi p
  by_cases hlt : i < xs.length
  · refine .inr ⟨⟨xs, xs[i], q, by simp [hlt]⟩, Pv (i + 1), fun H' p' => ⟨xs.length - (i + 1), by omega, rfl, hlt, p'⟩, fun x H' y => ?_⟩
    obtain ⟨e, y⟩ := y
    subst e
    exact hs i x _ (y xs q) p
  · have e : i = xs.length := by omega
    subst e
    exact .inl ⟨⟨xs, q, Nat.le_refl _⟩, hd H p⟩
def blkC (N : List Str) (sc scope : Scope) (own : List (Str × Nat)) : Bool :=
  (match scope.kind with | .function => true | _ => false) && (scope.names.all fun y => decide (scope.names.lookup y.1 = some y.2)) && (own.all fun p => decide (N[p.2]? = some p.1)) &&
    (scope.names.all fun y => match y.2 with
      | .free => (match sc.names.lookup y.1 with | some .cell => true | some .free => true | _ => false)
      | .local => decide (y.1 ∈ own.map (·.1)) || decide (y.1 ∉ N)
      | .cell => decide (y.1 ∈ own.map (·.1)) || decide (y.1 ∉ N)
      | _ => true)
theorem blkOk_by {N : List Str} {sc scope : Scope} {own : List (Str × Nat)} (h : blkC N sc scope own = true) : BlkOk N sc scope own := by
  unfold blkC at h
  simp only [Bool.and_eq_true, List.all_eq_true, decide_eq_true_eq] at h
  obtain ⟨⟨⟨h1, h2⟩, h3⟩, h4⟩ := h
  refine ⟨?_, h2, h3, fun y hy e => ?_, fun y hy e => ?_⟩
  · split at h1
    · assumption
    · cases h1
  · have q := h4 y hy
    simp only [e] at q
    split at q <;> first | exact .inl (by assumption) | exact .inr (by assumption) | cases q
  · have q := h4 y hy
    rcases e with e | e <;> (simp only [e, Bool.or_eq_true, decide_eq_true_eq] at q; exact q)
end L2

namespace L2
open PySem PySem.Spec PyProof.Rows
section
variable {X : Cx}
end

/-! ### range with a step -/
/-- range(i, j, c): small bounds, n items -/
def RgC (i j c : Int) (n : Nat) : Prop := c ≠ 0 ∧ c.natAbs < 1073741824 ∧ Builtin.Range.small i j c = true ∧ Builtin.Range.rangeSize i j c = n
theorem RgC.neg {i j : Int} (ha : -(2 ^ 62) ≤ i) (ha' : i < 2 ^ 62) (hb : -(2 ^ 62) ≤ j) (hb' : j < 2 ^ 62) : RgC i j (-1) (i - j).toNat :=
  ⟨by decide, by decide, PySem.W.small_down ha ha' hb hb', PySem.W.rangeSize_downNat i j⟩
section
variable {X : Cx} {tg : Expr}
end
end L2

namespace Att
open PySem PySem.W PySem.Calls PyProof.Rows

/-! ### the script -/
theorem ints_of_wellAll {P : Params} {h : Heap} : ∀ (ns : List Int) (vs : List Value), WellAll P h vs (ns.map WData.int) → IntsAre vs ns := by
  intro ns
  induction ns with
  | nil =>
    intro vs w
    rw [List.map_nil] at w
    cases w
    exact .nil
  | cons n ns ih =>
    intro vs w
    rw [List.map_cons] at w
    cases w with
    | cons a b =>
      cases a
      exact .cons _ _ (ih _ b)

theorem script_of {l : OpenLaw} {n : Nat} (hn : l.most = some n) {P : Params} {h : Heap} {args : List WData} {vals : List Value}
    (hpre : l.row.toRowW.claim.pre args = true) (hwl : WellAll P h vals args) :
    ∃ a vs ns, vals = [Value.ref a] ∧ args = [WData.list (ns.map WData.int)] ∧ h.get? a = some { cls := .type "list", data := .seq vs.toArray } ∧ IntsAre vs ns ∧ ns.length ≤ n := by
  have hsh : WShape.hasAll [] args [.list .int] = true := (pre_splitW hpre).1
  have hc : l.pre.holds [] { args := args } = true := (pre_splitW hpre).2
  obtain ⟨d, r, rfl, h1, h2⟩ := hasAllW_cons hsh
  obtain rfl := hasAllW_nil h2
  obtain ⟨xs, rfl, h3⟩ := hasW_list h1
  obtain ⟨ns, rfl⟩ := items_int h3
  have hlen : ns.length ≤ n := by
    unfold OpenLaw.pre at hc
    have h4 : (WTm.not (.lt (.lit (.int (n : Int))) (.len (.arg 0)))).holds [] { args := [.list (ns.map .int)] } = true := by
      have h4 := (holds_andW hc).1
      rw [hn] at h4
      exact h4
    have h5 := condW_of h4 (w_not (w_lt w_lit (w_len_list (w_arg rfl))))
    rw [List.length_map] at h5
    refine Nat.le_of_not_lt fun q => ?_
    have q' : (n : Int) < ((ns.length : Nat) : Int) := by omega
    first
      | (rw [decide_eq_true q'] at h5; exact absurd h5 (by decide))
      | (simp at h5; omega)
  cases hwl with
  | cons w1 w2 =>
    cases w2
    cases w1 with
    | list ho hall => exact ⟨_, _, ns, rfl, rfl, ho, ints_of_wellAll ns _ hall, hlen⟩

theorem post_true (l : OpenLaw) (args : List WData) : l.row.toRowW.claim.post args (.bool true) args = true :=
  postW_of (r := l.row.toRowW) (X := (true == true))
    (show WShape.has [] (.bool true) .bool = true by first | rfl | decide | simp [WShape.has, WShape.arms, WShape.armsAll])
    (show (WTm.eq .res (.lit (.bool true))).value [] { args := args, res := some (.bool true), after := args } = some (.bool (true == true)) from w_eq_bool (w_res rfl) w_lit) rfl

/-! ### the attachment: holds_open's last premise (the goal 'hc' behind k_head) from a wpAny of the law's body -/
/-- the same from a codeAny of the CALL (for a layer whose function contracts speak of calls) -/
theorem attach_call {l : OpenLaw} {n : Nat} {q : Program} {loose : List Str} {XP : (Str → Option Value) → Heap → Prop} {YP : World → Heap → Prop} {d : DefRec}
    (hn : l.most = some n) (hdf : d.params.defaults = [])
    (call : ∀ (w : World) (s₀ s₁ : Shared) (mg mb : Str → Option Value) (fa : Addr) (o : Obj) (pm cd doc : Value) (a : Addr) (vs : List Value) (ns : List Int),
      Ground q loose [] XP w s₀ mg mb s₁.heap → YP w s₁.heap →
      s₁.heap.get? fa = some o → o.data = .func (docDef d.name d.params d.body d.scope pm cd doc) → s₁.heap.CodeRec cd d.name → mg d.name = some (.ref fa) →
      s₁.heap.get? a = some { cls := .type "list", data := .seq vs.toArray } → IntsAre vs ns → ns.length ≤ n → s₁.gens = #[] →
      codeAny (model l.prog w) callerA (.call (.ref fa) ⟨[.ref a], []⟩) (fun r s' => r = .ok (.ret (.bool true)) ∧ OldK s₁.heap s'.heap ∧ s'.os = s₁.os ∧ AllBare s'.gens) s₁) :
    WalkO q loose XP YP l.row.toRowW d [] (fun f vs => PySem.call f vs) := by
  intro w s₀ s₁ mg mb G Y fa o pm cd doc dV kV ho hd hcd hD hmg hg args vals as hpre hlay hrd hwl hlo
  obtain rfl : dV = .none := Dflts.none hD hdf
  obtain rfl : kV = .none := Dflts.noKw hD
  obtain ⟨a, vs, ns, rfl, rfl, hobj, hints, hlen⟩ := script_of hn hpre hwl
  refine enter_call (codeAny_mono (call w s₀ s₁ mg mb fa o pm cd doc a vs ns G Y ho (fd_plain hd) hcd hmg hobj hints hlen hg) fun r s' hq => ?_)
  obtain ⟨rfl, h2, h3, h4⟩ := hq
  exact ⟨.inl ⟨.bool true, .bool true, [], rfl, fun _ => rfl, .bool true, post_true l _, fun _ => ⟨List.Pairwise.nil, fun _ hm => (nomatch hm)⟩⟩, h2, h3, h4⟩

/-! ### rules over ANY heap (no ledger) from facts about the written part K: the library's own take a ledger (News) for what they write -/
section
variable {prog : Program} {w : World} {A : Around} {E : Value → Shared → Prop} {s : Shared} {K : Frag}

/-! the whole heap as the ledger: makes every rule that writes through a ledger a rule over any heap -/
def ledger (h : Heap) (L d : Addr) : List (Addr × Obj) := (List.range h.objs.size).filterMap fun a => if a = L ∨ a = d then none else (h.get? a).map fun o => (a, o)
end
end Att

namespace L2
open PySem PySem.Spec PyProof.Rows

theorem vals_ints : ∀ {vs : List Value} {ns : List Int}, IntsAre vs ns → Vals (ns.map V.int) vs
  | _, _, .nil => .nil
  | _, _, .cons n t h => .cons ⟨t, rfl⟩ (vals_ints h)

/-- nothing is tracked but the script, known to the object (or it is an object of the module) -/
def Only (H : Hp) : Prop := ∀ b, H b = none ∨ ∃ o xs, H b = some (.frz o (.lst xs))

/-- THE HEAD: the law's promise, at the heap behind the top. F, the promise of the law's def, may use that base is part of the heap (so K.In base, base.Ns mainGlobals mg stand in Mod) -/
theorem law_call {P : Program} {w : World} {K : PySem.W.Frag} {mg mb : Str → Option Value} {CX : CXT} {k : Nat} {fa a : Addr} {fd : FuncData} {x : Str} {sp : Sp} {s₁ : Shared} {vs : List Value} {ns : List Int}
    (KX : K.In s₁.heap) (hns : s₁.heap.Ns mainGlobals mg) (hb : s₁.heap.Ns builtinsNs mb) (hbb : ∀ x : Str, x ≠ "__name__" → mb x = bootBuiltins x) (hlim : s₁.heap.NoLimit) (hg : s₁.gens = #[])
    (ha : s₁.heap.get? a = some { cls := .type "list", data := .seq vs.toArray }) (hi : IntsAre vs ns) (hl : ns.length ≤ sizeLine) (hr : Room k callerA)
    (F : ∀ base : Heap, K.In base → base.Ns mainGlobals mg → FnOk P w K mg base CX k fa fd [x] sp) (hbind : ∀ (s : Shared) (u : Value), BindsTo s fd ⟨[u], []⟩ [(x, u)])
    (hsp : ∀ H : Hp, Only H → SqL K H a (ns.map V.int) → sp [.ref a] H (fun v _ => v = .bl true) fun _ _ _ => False)
    (hCX : ∀ H e s', CX [] H s₁ (fun _ _ _ => False) e s' → False) :
    codeAny (model P w) callerA (.call (.ref fa) ⟨[.ref a], []⟩) (fun r s' => r = .ok (.ret (.bool true)) ∧ OldK s₁.heap s'.heap ∧ s'.os = s₁.os ∧ AllBare s'.gens) s₁ := by
  have rv := vals_ints hi
  have lenV := hi.length
  -- from an abstract heap in which nothing but the script may be tracked
  have core : ∀ H : Hp, Only H → SqL K H a (ns.map V.int) → HOk P w H s₁.heap → (∀ b, H b ≠ none → b = a) → (H a ≠ none → K.lookup a = none) →
      codeAny (model P w) callerA (.call (.ref fa) ⟨[.ref a], []⟩) (fun r s' => r = .ok (.ret (.bool true)) ∧ OldK s₁.heap s'.heap ∧ s'.os = s₁.os ∧ AllBare s'.gens) s₁ := by
    intro H hO hS hok hA hK
    have base_of : ∀ {b : Addr} {o : Obj}, s₁.heap.get? b = some o → H b = none → (hidT s₁.heap H).get? b = some o := fun e n => hidT_get e n
    have noA : ∀ {b : Addr} {o : Obj} {es : Array DictEntry} {ep : Nat}, s₁.heap.get? b = some o → o.data = .dict es ep → H b = none := fun {b o es ep} e d => by
      cases q : H b with
      | none => rfl
      | some u =>
        have e' : b = a := hA b (by rw [q]; simp)
        subst e'
        rw [ha] at e; cases e
        have d' : Data.seq vs.toArray _ = Data.dict es ep := d
        cases d'
    have nsK : ∀ {b : Addr} {m : Str → Option Value}, s₁.heap.Ns b m → (hidT s₁.heap H).Ns b m := fun {b m} ⟨o, es, ep, e, d, r⟩ => ⟨o, es, ep, base_of e (noA e d), d, r⟩
    have hKb : K.In (hidT s₁.heap H) := fun b o e => base_of (KX b o e) (by
      cases q : H b with
      | none => rfl
      | some u =>
        have e' : b = a := hA b (by rw [q]; simp)
        subst e'
        rw [hK (by rw [q]; simp)] at e; cases e)
    have hM : Mod K mg (hidT s₁.heap H) := ⟨hKb, nsK hns, ⟨mb, nsK hb, hbb⟩, let ⟨mc, h1, h2⟩ := hlim; ⟨mc, nsK h1, h2⟩⟩
    have e0 : Env0 P w K mg (hidT s₁.heap H) callerA [] s₁ H := ⟨rfl, hM, fun b o e => of_hidT e, Nat.le_of_eq (hidT_size _ _), trivial, fun b hb => absurd (show b ∈ ([] : List Addr) from hb) (by simp), hok, .of_eq hg⟩
    refine codeAny_mono ((F _ hKb (nsK hns)).run callerA [] s₁ H ⟨[.ref a], []⟩ [.ref a] [.ref a] _ _ hr e0 (hbind s₁ (.ref a)) (.cons rfl .nil) (hsp H hO hS)) fun r s' h => ?_
    cases r with
    | error e => exact (hCX H e s' h).elim
    | ok fl =>
      cases fl with
      | next => exact False.elim h
      | brk => exact False.elim h
      | cont => exact False.elim h
      | ret u =>
        obtain ⟨v, H', os, bare, un, hok', r', q⟩ := h
        have q' : v = .bl true := q
        subst q'
        obtain rfl : u = Value.bool true := r'
        refine ⟨rfl, OldK.of_keep fun b o e => ?_, os, bare⟩
        cases q : H b with
        | none => exact un.keep b o e q (by intro z; exact absurd (show b ∈ ([] : List Addr) from z) (by simp)) (by simp)
        | some u =>
          rcases hO b with z | ⟨ob, xs, z⟩
          · rw [q] at z; cases z
          · have z2 := un.frzs b ob _ z
            obtain ⟨e1, _⟩ := hok b _ z
            obtain ⟨e2, _⟩ := hok' b _ z2
            rw [e] at e1; cases e1
            exact e2
  cases hk : K.lookup a with
  | some o =>
    -- the script is one of the module's own objects
    have e := KX a o hk
    rw [ha] at e
    cases e
    refine core (fun _ => none) (fun _ => .inl rfl) (.inr ⟨_, vs.toArray, _, hk, rfl, rfl, rfl, by rw [List.size_toArray, lenV]; exact hl, by simpa using rv⟩) (fun b u z => by have z' : (none : Option HO) = some u := z; cases z') (fun b z => absurd rfl z) fun z => absurd rfl z
  | none =>
    refine core (fun b => if b = a then some (.frz { cls := .type "list", data := .seq vs.toArray } (.lst (ns.map V.int))) else none) (fun b => ?_) (.inl (.inr ⟨{ cls := .type "list", data := .seq vs.toArray }, if_pos rfl⟩)) (fun b u z => ?_) (fun b z => ?_) fun _ => hk
    · by_cases hb : b = a
      · exact .inr ⟨_, _, if_pos hb⟩
      · exact .inl (if_neg hb)
    · by_cases hb : b = a
      · have z' := (if_pos hb).symm.trans z
        cases z'
        subst hb
        exact ⟨ha, by rw [List.length_map]; exact hl, vs, _, rv, ha⟩
      · have z' := (if_neg hb).symm.trans z
        cases z'
    · by_cases hb : b = a
      · exact hb
      · exact absurd (if_neg hb) z
end L2

namespace L2
open PySem PySem.Spec PyProof.Rows

abbrev KOf {K : PySem.W.Frag} {h : Heap} (_ : K.In h) : PySem.W.Frag := K

/-- the goal that k_head leaves (case hc), from the law's promise. F gives the function object fd (K's own) once, then the promise over every base -/
theorem walk_of {l : PySem.W.OpenLaw} {n k : Nat} {q : Program} {loose : List Str} {XP : (Str → Option Value) → Heap → Prop} {YP : World → Heap → Prop} {d : DefRec} {K : Params → PySem.W.Frag} {CX : World → CXT} {sp : World → Sp} {x : Str}
    (hn : l.most = some n) (hn2 : n ≤ sizeLine) (hdf : d.params.defaults = []) (hr : Room k callerA)
    (hY : ∀ (w : World) (h : Heap), YP w h → (K w.params).In h)
    (F : ∀ (w : World) (mg : Str → Option Value) (fa : Addr) (h : Heap), (K w.params).In h → h.Ns mainGlobals mg → mg d.name = some (.ref fa) →
      ∃ fd : FuncData, (∀ (s : Shared) (u : Value), BindsTo s fd ⟨[u], []⟩ [(x, u)]) ∧
        ∀ base : Heap, (K w.params).In base → base.Ns mainGlobals mg → FnOk l.prog w (K w.params) mg base (CX w) k fa fd [x] (sp w))
    (hsp : ∀ (w : World) (H : Hp) (a : Addr) (ns : List Int), ns.length ≤ n → Only H → SqL (K w.params) H a (ns.map V.int) → sp w [.ref a] H (fun v _ => v = .bl true) fun _ _ _ => False)
    (hCX : ∀ (w : World) (H : Hp) (s : Shared) (e : Value) (s' : Shared), CX w [] H s (fun _ _ _ => False) e s' → False) :
    PySem.W.WalkO q loose XP YP l.row.toRowW d [] (fun f vs => PySem.call f vs) := by
  refine Att.attach_call hn hdf fun w s₀ s₁ mg mb fa o pm cd doc a vs ns G Y ho hd hcd hmg hobj hints hlen hg => ?_
  have KX := hY w _ Y
  obtain ⟨fd, hb, hF⟩ := F w mg fa _ KX G.T.g hmg
  exact law_call KX G.T.g G.T.b G.T.builtins G.T.nolimit hg hobj hints (Nat.le_trans hlen hn2) hr hF hb (fun H hO hS => hsp w H a ns hlen hO hS) fun H e s' => hCX w H s₁ e s'
end L2

/- THE LAST THEOREM (shape; LID, My.* are yours):
   My.Adr: a structure of the addresses that your layer names (classes, functions); My.Txt K t: a structure (Prop) of the equations over K;
   My.txt_mk : {K} {implicit addresses ..} (e1 : nsIn K mainGlobals "law" = some (some (.ref f))) (e2 : K.lookup f = some ⟨oc, od, .func (fnOf "law" "law" params body scope dV kV doc pm an cdv ct), sl⟩) (e3 : codeIn K cdv "law" = true) .. : ∃ t, My.Txt K t

set_option maxRecDepth 100000 in
set_option maxHeartbeats 0 in
theorem PySem.Challenge.cw_LID_holds : PySem.Challenge.rw_LID.Holds := by
  w_on; o_law; k_head; (case hw => w_witness2)
  k_fill
  refine L2.walk_of (l := PySem.Challenge.rw_LID) (n := 63) (k := 40) (x := "script") (CX := fun w => ..) (sp := fun _ => My.sp_law) rfl (by decide) rfl ⟨rfl, by decide, by decide⟩ (fun w h Y => PySem.W.kIn_of Y) ?F ?S ?C
  case F =>
    intro w mg fa h KX G hmg
    have T : ∃ t, My.Txt (L2.KOf KX) t := by
      dsimp only [L2.KOf]                          -- K must stand as «<heap const> w.params» for k_is
      refine' My.txt_mk ?e1 ?e2 ?e3 ..
      (case e1 => PySem.W.k_is)                    -- in the order: a name -> its address -> its object -> its parts
      (case e2 => PySem.W.k_is)
      ..
    obtain ⟨t, T⟩ := T
    have e0 := hmg.symm.trans (PySem.W.mg_of KX G T.law)
    cases e0                                       -- fa is the law's own address
    exact ⟨_, fun s u => .of_eq rfl, fun base kb nb => My.law_fn T kb nb⟩     -- if «.of_eq rfl» comes too early: refine' ⟨_, ?b, fun base kb nb => My.law_fn T kb nb⟩; exact fun s u => .of_eq rfl
  case S => exact fun w H a ns hl hO hS => ..
  case C => exact ..
(the tactic k_is has no namespace: write k_is) -/

/-! SHORT WORDS over the layer: a def of the text, its body, what a loop and a test want. -/
namespace L2
open PySem PySem.Spec PyProof.Rows

/-! ### the text by places -/
/-- the j-th statement of a class's body -/
def inClass (s : Stmt) (j : Nat) : Stmt := match s with
  | .ClassDef _ _ _ body _ _ _ _ _ _ _ => body.getD j (.Pass ⟨0, 0, 0, 0⟩)
  | _ => .Pass ⟨0, 0, 0, 0⟩
def defArgs (s : Stmt) : Arguments := match s with
  | .FunctionDef _ a _ _ _ _ _ _ _ _ => a
  | _ => { posonlyargs := [], args := [], vararg := none, kwonlyargs := [], kw_defaults := [], kwarg := none, defaults := [] }
def defBody (s : Stmt) : List Stmt := match s with
  | .FunctionDef _ _ b _ _ _ _ _ _ _ => b
  | _ => []
def defScope (s : Stmt) : Scope := match s with
  | .FunctionDef _ _ _ _ _ _ sc _ _ _ => sc
  | _ => { kind := .function, names := [], isGenerator := false, isCoroutine := false }

/-! ### no exception leaves a def -/
abbrev CX0 : CXT := fun _ _ _ _ _ _ => False
abbrev E0 : XK := fun _ _ _ => False
theorem pass0 {X : Cx} : Passes CX0 X E0 := fun _ _ _ _ _ _ _ h => h.elim

/-! ### a def (or method) of the text as it stands behind the top -/
structure Fun (K : PySem.W.Frag) (x qual : Str) (st : Stmt) (f : Addr) (fd : FuncData) : Prop where
  ex : ∃ (oc : Value) (od : Option Addr) (kV doc pm : Value) (an : Option Addr) (cdv ct : Value) (osl : Array (Option Value)),
    fd = PySem.W.fnOf x qual (defArgs st) (defBody st) (defScope st) .none kV doc pm an cdv ct ∧ K.lookup f = some ⟨oc, od, .func fd, osl⟩ ∧ PySem.W.codeIn K cdv qual = true
  kp : PySem.W.keepIn K (.ref f) = true
section
variable {P : Program} {w : World} {K : PySem.W.Frag} {mg : Str → Option Value} {base : Heap}
/-- THE RULE for a def: its body as a term of rules, and the reading of that term -/
theorem Fun.ok {x qual : Str} {st : Stmt} {f : Addr} {fd : FuncData} {N ps : List Str} {k : Nat} {sp : Sp} (F : Fun K x qual st f fd) (S : FnScope N ps (defScope st)) (len : ∀ vs H Q E, sp vs H Q E → vs.length = ps.length)
    (hbody : ∀ (cdv : Value) (A : Around) (outer : List Env) (s : Shared) (H : Hp) (vs : List V) (Q : VK) (E : XK), Room k (A.deeper (envOfC qual (defScope st) s.heap.objs.size f cdv)) → sp vs H Q E →
      ∃ t, PSs (cxOf CX0 P w K mg base N qual (defScope st) f cdv A outer s H E).nox (defBody st) t ∧ t { nx := fun _ H' => Q .non H', rt := Q } (start N vs) H) : FnOk P w K mg base CX0 (k + 1) f fd ps sp := by
  obtain ⟨oc, od, kV, doc, pm, an, cdv, ct, osl, rfl, lk, hcd⟩ := F.ex
  refine fn_of lk hcd S len fun A outer s H vs Q E hr hsp => ?_
  obtain ⟨t, h, q⟩ := hbody cdv A outer s H vs Q E hr hsp
  exact ⟨t, h.nox, q⟩
/-- how its arguments bind (no defaults): h is «fun _ _ _ _ _ _ us hl => match us, hl with | [_, _], _ => rfl», one _ a parameter -/
theorem Fun.binds {x qual : Str} {st : Stmt} {f : Addr} {fd : FuncData} {ps : List Str} (F : Fun K x qual st f fd)
    (h : ∀ (kV doc pm : Value) (an : Option Addr) (cdv ct : Value) (us : List Value), us.length = ps.length → bindArgs (PySem.W.fnOf x qual (defArgs st) (defBody st) (defScope st) .none kV doc pm an cdv ct) ⟨us, []⟩ = pure (ps.zip us)) : Binds K fd ps [] := by
  obtain ⟨oc, od, kV, doc, pm, an, cdv, ct, osl, rfl, lk, hcd⟩ := F.ex
  exact .all (h kV doc pm an cdv ct)
theorem fun_mk {x qual : Str} {st : Stmt} {f : Addr} {oc : Value} {od an : Option Addr} {osl : Array (Option Value)} {kV doc pm cdv ct : Value} (l : K.lookup f = some ⟨oc, od, .func (PySem.W.fnOf x qual (defArgs st) (defBody st) (defScope st) .none kV doc pm an cdv ct), osl⟩)
    (c : PySem.W.codeIn K cdv qual = true) (k : PySem.W.keepIn K (.ref f) = true) : Fun K x qual st f (PySem.W.fnOf x qual (defArgs st) (defBody st) (defScope st) .none kV doc pm an cdv ct) := ⟨⟨oc, od, kV, doc, pm, an, cdv, ct, osl, rfl, l, c⟩, k⟩
end
theorem small1000 {n : Nat} (h : n ≤ 1000) : n < sizeLine := Nat.lt_of_le_of_lt h (by decide)

/-! ### expressions in short: the name that stands in the i-th slot -/
section
variable {X : Cx}
theorem pv (i : Nat) {x : Str} {pos : Pos} (hN : X.N[i]? = some x := by rfl) (hv : Vis X.env.scope x := by first | exact Or.inl rfl | exact Or.inr (Or.inl rfl) | exact Or.inr (Or.inr rfl)) (hd : (x == ("__debug__" : Str)) = false := by decide)
    (hcd : (x == ("__classdict__" : Str)) = false := by decide) : PE X (.Name x pos) (tVar i) := pe_var hN hv hd hcd
end

/-! ### tests -/
theorem iteF {A B : Prop} (h : B) : if false = true then A else B := by
  rw [if_neg Bool.false_ne_true]
  exact h
theorem iteT {A B : Prop} (h : A) : if true = true then A else B := by
  rw [if_pos rfl]
  exact h
theorem ite2 {c A B : Prop} [Decidable c] (h1 : c → A) (h2 : ¬ c → B) : if c then A else B := by
  by_cases h : c
  · rw [if_pos h]
    exact h1 h
  · rw [if_neg h]
    exact h2 h
/-! ### heaps -/
/-- all that was tracked is as it was -/
def Same (H H' : Hp) : Prop := ∀ b o, H b = some o → H' b = some o
theorem Same.refl (H : Hp) : Same H H := fun _ _ h => h
theorem Same.trans {H H1 H2 : Hp} (a : Same H H1) (b : Same H1 H2) : Same H H2 := fun c o h => b c o (a c o h)
theorem Same.free {H H' : Hp} (e : Same H H') {l : Addr} (h : H' l = Option.none) : H l = Option.none := by
  cases q : H l with
  | none => rfl
  | some o =>
    rw [e l o q] at h
    cases h
theorem Same.seq {K : PySem.W.Frag} {H H' : Hp} {a : Addr} {xs : List V} (e : Same H H') (h : SqL K H a xs) : SqL K H' a xs := by
  rcases h with (h | ⟨o, h⟩) | h
  · exact .inl (.inl (e _ _ h))
  · exact .inl (.inr ⟨o, e _ _ h⟩)
  · exact .inr h

/-! ### lists -/
theorem at_of {xs : List V} {z : Int} {j : Nat} {v : V} (e : z = (j : Int)) (h : xs[j]? = some v) : atI xs z = some v := by
  rw [e]
  exact atI_nat h
theorem nd_ix {α : Type} {l : List α} (hN : l.Nodup) {i j : Nat} {x : α} (a : l[i]? = some x) (b : l[j]? = some x) : i = j := by
  obtain ⟨h1, e1⟩ := List.getElem?_eq_some_iff.mp a
  obtain ⟨h2, e2⟩ := List.getElem?_eq_some_iff.mp b
  exact (List.getElem_inj hN).mp (e1.trans e2.symm)
/-- a new instance and its __init__ leave all that was tracked as it was -/
theorem Same.made {H H1 : Hp} {x dx C : Addr} (nx : H x = Option.none) (nd : H dx = Option.none) (k : ∀ b o, (upd (upd H dx (.own x)) x (.ins C dx [])) b = some o → b ≠ x → H1 b = some o) : Same H H1 := fun b o e =>
  k b o (by rw [upd_ne (ne_of_none e nx), upd_ne (ne_of_none e nd)]; exact e) (ne_of_none e nx)
end L2

/-! Rounding, products and sums of the formats, told over natural numbers and whole numbers alone. -/
namespace Tb
open Sg43

def depth (F : Fmt) : Nat := 2 ^ (F.exp - 1) - 2 + F.frac
theorem unit_eq (F : Fmt) : F.unit = 2 ^ depth F := rfl
theorem two_pos (k : Nat) : 0 < 2 ^ k := Nat.two_pow_pos k

theorem nearest_scale {n d k : Nat} (hk : 0 < k) : nearest (n * k) (d * k) = nearest n d := by
  unfold nearest
  simp only [Nat.mul_div_mul_right n d hk, Nat.mul_mod_mul_right k n d]
  have e1 : (2 * (n % d * k) < d * k) ↔ (2 * (n % d) < d) := by
    rw [← Nat.mul_assoc]
    exact Nat.mul_lt_mul_right hk
  have e2 : (d * k < 2 * (n % d * k)) ↔ (d < 2 * (n % d)) := by
    rw [← Nat.mul_assoc]
    exact Nat.mul_lt_mul_right hk
  simp only [e1, e2]

theorem nearest_one (n : Nat) : nearest n 1 = n := by
  unfold nearest
  simp [Nat.mod_one]

/-- m 2^k as the nearest whole number -/
def shiftedN (m : Nat) (k : Int) : Nat := if 0 ≤ k then m * 2 ^ k.toNat else nearest m (2 ^ (-k).toNat)

theorem shifted_is (m l p : Nat) (k : Int) (h : (l : Int) - p = k) : nearest (m * 2 ^ l) (2 ^ p) = shiftedN m k := by
  unfold shiftedN
  by_cases hk : 0 ≤ k
  · rw [if_pos hk]
    have e : l = k.toNat + p := by omega
    have e2 : nearest (m * 2 ^ l) (2 ^ p) = nearest (m * 2 ^ k.toNat * 2 ^ p) (1 * 2 ^ p) := by
      rw [e, Nat.pow_add, Nat.mul_assoc, Nat.one_mul]
    rw [e2, nearest_scale (two_pos p), nearest_one]
  · rw [if_neg hk]
    have e : p = (-k).toNat + l := by omega
    have e2 : nearest (m * 2 ^ l) (2 ^ p) = nearest (m * 2 ^ l) (2 ^ (-k).toNat * 2 ^ l) := by
      rw [← Nat.pow_add, ← e]
    rw [e2, nearest_scale (two_pos l)]

/-- the place of the last digit that is kept, above the least number's -/
def lastN (F : Fmt) (m : Nat) (e : Int) : Int := max (e + ((Nat.log2 m : Int) + 1) - F.frac - 1) (-(depth F : Int))
def roundedN (F : Fmt) (m : Nat) (e : Int) : Nat :=
  min ((lastN F m e + depth F).toNat * 2 ^ F.frac + shiftedN m (e - lastN F m e)) F.inf

theorem rounded_bits (F : Fmt) {m l p : Nat} {e : Int} (hm : 0 < m) (h : (l : Int) - p = e + depth F) : roundedN F m e = F.bits (m * 2 ^ l) (2 ^ p) := by
  have hm0 : m ≠ 0 := by omega
  have hlo : 2 ^ Nat.log2 m ≤ m := Nat.log2_self_le hm0
  have hhi : m < 2 ^ (Nat.log2 m + 1) := Nat.lt_log2_self
  generalize hL : Nat.log2 m = L at hlo hhi
  have elast : lastN F m e + depth F = max ((l : Int) - p + L - F.frac) 0 := by
    unfold lastN
    rw [hL]
    omega
  generalize hE : (lastN F m e + depth F).toNat = E
  have elast2 : e - lastN F m e = (l : Int) - (p + E : Nat) := by omega
  have hn1 : 2 ^ (L + l) ≤ m * 2 ^ l := by
    rw [Nat.pow_add]
    exact Nat.mul_le_mul_right _ hlo
  have hn2 : m * 2 ^ l < 2 ^ (L + 1 + l) := by
    rw [Nat.pow_add]
    exact Nat.mul_lt_mul_of_pos_right hhi (two_pos l)
  have key : (if m * 2 ^ l / 2 ^ p < 2 ^ (F.frac + 1) then 0 else Nat.log2 (m * 2 ^ l / 2 ^ p) - F.frac) = E := by
    by_cases c : L + l ≥ F.frac + 1 + p
    · have q1 : 2 ^ (L + l - p) ≤ m * 2 ^ l / 2 ^ p := by
        rw [Nat.le_div_iff_mul_le (two_pos p), ← Nat.pow_add]
        have z : L + l - p + p = L + l := by omega
        rw [z]
        exact hn1
      have q2 : m * 2 ^ l / 2 ^ p < 2 ^ (L + l - p + 1) := by
        rw [Nat.div_lt_iff_lt_mul (two_pos p), ← Nat.pow_add]
        have z : L + l - p + 1 + p = L + 1 + l := by omega
        rw [z]
        exact hn2
      have q3 : 2 ^ (F.frac + 1) ≤ 2 ^ (L + l - p) := Nat.pow_le_pow_right (by decide) (by omega)
      have q4 : m * 2 ^ l / 2 ^ p ≠ 0 := by have := two_pos (L + l - p); omega
      have q5 : Nat.log2 (m * 2 ^ l / 2 ^ p) = L + l - p := (Nat.log2_eq_iff q4).mpr ⟨q1, q2⟩
      rw [if_neg (by omega), q5]
      omega
    · have q2 : m * 2 ^ l / 2 ^ p < 2 ^ (F.frac + 1) := by
        rw [Nat.div_lt_iff_lt_mul (two_pos p), ← Nat.pow_add]
        exact Nat.lt_of_lt_of_le hn2 (Nat.pow_le_pow_right (by decide) (by omega))
      rw [if_pos q2]
      omega
  unfold roundedN Fmt.bits
  simp only [key]
  rw [hE, ← Nat.pow_add, ← shifted_is m l (p + E) _ elast2.symm, Nat.min_comm]

/-! ### the parts of a number's bits -/
variable (F : Fmt)
def mant (x : Nat) : Nat := if F.rest x < 2 ^ F.frac then F.rest x else 2 ^ F.frac + F.rest x % 2 ^ F.frac
def ex (x : Nat) : Nat := max (F.rest x / 2 ^ F.frac) 1 - 1
def dig (x : Nat) : Int := if F.neg x = true then -(mant F x : Int) else (mant F x : Int)
theorem units_is (x : Nat) : F.units (F.rest x) = mant F x * 2 ^ ex F x := by
  unfold Fmt.units mant ex
  by_cases h : F.rest x < 2 ^ F.frac
  · rw [if_pos h, if_pos h, Nat.div_eq_of_lt h]
    simp
  · rw [if_neg h, if_neg h]
    have h1 : 1 ≤ F.rest x / 2 ^ F.frac := (Nat.le_div_iff_mul_le (two_pos _)).mpr (by omega)
    rw [Nat.max_eq_left h1]
theorem value_is (x : Nat) : F.value x = dig F x * 2 ^ ex F x := by
  unfold Fmt.value dig
  rw [units_is]
  by_cases h : F.neg x = true
  · rw [if_pos h, if_pos h, Int.neg_mul]
    simp
  · rw [if_neg h, if_neg h]
    simp
theorem sign_is : F.sign = 2 ^ F.exp * 2 ^ F.frac := by
  unfold Fmt.sign
  rw [Nat.pow_add, Nat.mul_comm]
theorem inf_lt : F.inf < F.sign := by
  rw [sign_is]
  unfold Fmt.inf
  exact Nat.mul_lt_mul_of_pos_right (by have := two_pos F.exp; omega) (two_pos _)
theorem sign_pos : 0 < F.sign := two_pos _
theorem bits_le (n d : Nat) : F.bits n d ≤ F.inf := by
  unfold Fmt.bits
  exact Nat.min_le_left _ _
theorem rest_lt (x : Nat) : F.rest x < F.sign := Nat.mod_lt _ (sign_pos F)
theorem signed_rest {s : Bool} {r : Nat} (h : r < F.sign) : F.rest (F.signed s r) = r := by
  unfold Fmt.rest Fmt.signed
  cases s
  · simp [Nat.mod_eq_of_lt h]
  · simp [Nat.mod_eq_of_lt h]
theorem signed_neg {s : Bool} {r : Nat} (h : r < F.sign) : F.neg (F.signed s r) = s := by
  unfold Fmt.neg Fmt.signed
  cases s
  · simp; omega
  · simp
theorem signed_lt {s : Bool} {r : Nat} (h : r < F.sign) : F.signed s r < 2 * F.sign := by
  unfold Fmt.signed
  cases s <;> simp <;> omega
theorem signed_of {x : Nat} (h : x < 2 * F.sign) : F.signed (F.neg x) (F.rest x) = x := by
  unfold Fmt.signed Fmt.neg Fmt.rest
  by_cases c : F.sign ≤ x
  · have e : x % F.sign = x - F.sign := by
      rw [Nat.mod_eq_sub_mod c, Nat.mod_eq_of_lt (by omega)]
    simp [c, e]
  · simp [c]
    exact Nat.mod_eq_of_lt (by omega)
/-- bits that are a number of the format, or none -/
def Ok (o : Num) : Prop := ∀ b, o = some b → b < 2 * F.sign ∧ F.rest b ≤ F.inf
def back (o : Num) : Nat := o.getD (F.inf + 1)
theorem num_ok {x : Nat} (h : x < 2 * F.sign) : Ok F (F.num x) := by
  intro b e
  unfold Fmt.num at e
  by_cases c : F.inf < F.rest x
  · rw [if_pos c] at e
    cases e
  · rw [if_neg c] at e
    cases e
    exact ⟨h, by omega⟩
theorem num_none {x : Nat} (h : F.inf < F.rest x) : F.num x = none := if_pos h
theorem num_some {x : Nat} (h : ¬ F.inf < F.rest x) : F.num x = some x := if_neg h
theorem inf1_lt (h1 : 1 ≤ F.frac) : F.inf + 1 < F.sign := by
  rw [sign_is]
  unfold Fmt.inf
  have h := two_pos F.exp
  have h2 : 2 ≤ 2 ^ F.frac := by
    have := Nat.pow_le_pow_right (n := 2) (by decide) h1
    simpa using this
  have e : (2 ^ F.exp - 1) * 2 ^ F.frac + 2 ^ F.frac = 2 ^ F.exp * 2 ^ F.frac := by
    rw [← Nat.succ_mul]
    congr 1
    omega
  omega
theorem num_back (h1 : 1 ≤ F.frac) {o : Num} (h : Ok F o) : F.num (back F o) = o := by
  cases o with
  | none =>
    refine num_none F ?_
    show F.inf < F.rest (F.inf + 1)
    unfold Fmt.rest
    rw [Nat.mod_eq_of_lt (inf1_lt F h1)]
    omega
  | some b => exact num_some F (by have := (h b rfl).2; show ¬ F.inf < F.rest b; omega)
theorem back_lt (h1 : 1 ≤ F.frac) {o : Num} (h : Ok F o) : back F o < 2 * F.sign := by
  cases o with
  | none =>
    have := inf1_lt F h1
    show F.inf + 1 < _
    omega
  | some b => exact (h b rfl).1
theorem fused_ok {a b c : Nat} (hc : c < 2 * F.sign) : Ok F (F.fused a b c) := by
  intro r e
  have hi := inf_lt F
  unfold Fmt.fused at e
  simp only at e
  split at e
  · split at e
    · cases e
    · split at e
      · cases e
      · cases e
        exact ⟨signed_lt F hi, by rw [signed_rest F hi]; exact Nat.le_refl _⟩
  · split at e
    · cases e
      exact ⟨hc, by omega⟩
    · cases e
      split
      · split
        · exact ⟨signed_lt F (sign_pos F), by rw [signed_rest F (sign_pos F)]; exact Nat.zero_le _⟩
        · have := sign_pos F
          exact ⟨by omega, by unfold Fmt.rest; simp⟩
      · have hb : ∀ n d, F.bits n d < F.sign := fun n d => Nat.lt_of_le_of_lt (bits_le F n d) hi
        exact ⟨signed_lt F (hb _ _), by rw [signed_rest F (hb _ _)]; exact bits_le F _ _⟩
theorem ma_ok {a b c : Num} (hc : Ok F c) : Ok F (F.ma a b c) := by
  intro r e
  unfold Fmt.ma at e
  cases a with
  | none => cases e
  | some x =>
    cases b with
    | none => cases e
    | some y =>
      cases c with
      | none => cases e
      | some z => exact fused_ok F (hc z rfl).1 r e
theorem flip_lt {x : Nat} (h : x < 2 * F.sign) : F.flip x < 2 * F.sign := by
  unfold Fmt.flip Fmt.neg
  by_cases c : F.sign ≤ x <;> simp [c] <;> omega
theorem flip_rest {x : Nat} (h : x < 2 * F.sign) : F.rest (F.flip x) = F.rest x := by
  unfold Fmt.flip Fmt.neg Fmt.rest
  by_cases c : F.sign ≤ x
  · simp [c]
    rw [Nat.mod_eq_sub_mod c]
  · simp [c]
theorem minus_num {x : Nat} (h : x < 2 * F.sign) : F.num (F.flip x) = F.minus (F.num x) := by
  unfold Fmt.num Fmt.minus
  rw [flip_rest F h]
  by_cases c : F.inf < F.rest x
  · rw [if_pos c, if_pos c]
    rfl
  · rw [if_neg c, if_neg c]
    rfl

/-! ### the finite case -/
theorem fused_finite {x y z : Nat} (hx : F.rest x ≠ F.inf) (hy : F.rest y ≠ F.inf) (hz : F.rest z ≠ F.inf) {t : Int} {l : Nat}
    (ht : dig F x * dig F y * 2 ^ (ex F x + ex F y) + dig F z * 2 ^ (ex F z + depth F) = t * 2 ^ l) :
    F.fused x y z = some (if t = 0 then (if (F.neg x != F.neg y) = F.neg z then F.signed (F.neg x != F.neg y) 0 else 0)
      else F.signed (decide (t < 0)) (roundedN F t.natAbs ((l : Int) - 2 * depth F))) := by
  have hv : F.value x * F.value y + F.value z * (F.unit : Int) = t * 2 ^ l := by
    rw [value_is, value_is, value_is, unit_eq, ← ht]
    have e1 : ((2 ^ depth F : Nat) : Int) = 2 ^ depth F := by simp
    rw [e1, Int.pow_add, Int.pow_add, Int.mul_assoc (dig F z)]
    congr 1
    rw [Int.mul_assoc, Int.mul_assoc, Int.mul_left_comm (2 ^ ex F x)]
  have p2 : (0 : Int) < 2 ^ l := Int.pow_pos (by decide)
  unfold Fmt.fused
  simp only
  rw [if_neg (by intro q; exact q.elim hx hy), if_neg hz, hv]
  have e0 : (t * 2 ^ l = 0) ↔ t = 0 := by
    constructor
    · intro q
      rcases Int.mul_eq_zero.mp q with q | q
      · exact q
      · omega
    · intro q
      rw [q]
      simp
  have en : (t * 2 ^ l < 0) ↔ t < 0 := by
    constructor
    · intro q
      apply Decidable.byContradiction
      intro c
      have := Int.mul_nonneg (show (0 : Int) ≤ t by omega) (Int.le_of_lt p2)
      omega
    · intro q
      exact Int.mul_neg_of_neg_of_pos q p2
  simp only [e0, en]
  by_cases c : t = 0
  · rw [if_pos c, if_pos c]
  · rw [if_neg c, if_neg c]
    have ea : (t * 2 ^ l).natAbs = t.natAbs * 2 ^ l := by
      rw [Int.natAbs_mul, Int.natAbs_pow]
      rfl
    rw [ea, unit_eq, rounded_bits F (l := l) (p := depth F) (by omega) (by omega)]

/-! ### products, sums, differences -/
theorem fused_comm (x y z : Nat) : F.fused x y z = F.fused y x z := by
  unfold Fmt.fused
  have e : (F.neg x != F.neg y) = (F.neg y != F.neg x) := by cases F.neg x <;> cases F.neg y <;> rfl
  simp only [e, Int.mul_comm (F.value x), or_comm (a := F.rest x = F.inf), or_comm (a := F.rest x = 0)]
theorem ma_comm (a b c : Num) : F.ma a b c = F.ma b a c := by
  unfold Fmt.ma
  cases a <;> cases b <;> cases c <;> first | rfl | exact fused_comm F _ _ _
theorem value_zero {s : Bool} : F.value (F.signed s 0) = 0 := by
  unfold Fmt.value
  rw [signed_neg F (sign_pos F), signed_rest F (sign_pos F)]
  unfold Fmt.units
  have := two_pos F.frac
  cases s <;> simp [this]
theorem inf_pos (h : 1 ≤ F.exp) : 0 < F.inf := by
  unfold Fmt.inf
  have h2 : 2 ≤ 2 ^ F.exp := by
    have := Nat.pow_le_pow_right (n := 2) (by decide) h
    simpa using this
  exact Nat.mul_pos (by omega) (two_pos _)
/-- the product: whatever zero is added, if a zero is then told with the product's sign -/
theorem fused_zero (he : 1 ≤ F.exp) (x y : Nat) : F.fused x y (F.signed true 0) = F.fused x y (F.signed (F.neg x != F.neg y) 0) := by
  have hi := inf_pos F he
  have r0 : ∀ s, F.rest (F.signed s 0) = 0 := fun s => signed_rest F (sign_pos F)
  have n0 : ∀ s, F.neg (F.signed s 0) = s := fun s => signed_neg F (sign_pos F)
  unfold Fmt.fused
  simp only [value_zero, r0, n0]
  have z : ¬ (0 = F.inf) := by omega
  simp only [z, false_and, if_false, if_true]
  cases hs : (F.neg x != F.neg y)
  · simp [Fmt.signed]
  · simp
theorem mul_is (he : 1 ≤ F.exp) (a b : Num) : F.mul a b = F.ma a b (some (F.signed true 0)) := by
  unfold Fmt.mul Fmt.ma
  cases a with
  | none => rfl
  | some x =>
    cases b with
    | none => rfl
    | some y => exact (fused_zero F he x y).symm
theorem signed_t0 : F.signed true 0 = F.sign := by simp [Fmt.signed]
theorem add_is (a b : Num) : F.add a b = F.ma a (some F.one) b := ma_comm F _ _ _
theorem sub_is (a b : Num) : F.sub a b = F.ma a (some F.one) (F.minus b) := ma_comm F _ _ _
theorem minus_ok {a : Num} (h : Ok F a) : Ok F (F.minus a) := by
  intro b e
  cases a with
  | none => cases e
  | some x =>
    cases e
    have := h x rfl
    exact ⟨flip_lt F this.1, by rw [flip_rest F this.1]; exact this.2⟩
theorem zero_ok {s : Bool} : Ok F (some (F.signed s 0)) := by
  intro b e
  cases e
  exact ⟨signed_lt F (sign_pos F), by rw [signed_rest F (sign_pos F)]; exact Nat.zero_le _⟩
theorem mul_ok (he : 1 ≤ F.exp) {a b : Num} : Ok F (F.mul a b) := by
  rw [mul_is F he]
  exact ma_ok F (zero_ok F)
theorem add_ok {a b : Num} (h : Ok F b) : Ok F (F.add a b) := ma_ok F h
theorem sub_ok {a b : Num} (h : Ok F b) : Ok F (F.sub a b) := ma_ok F (minus_ok F h)

/-! ### order -/
theorem units_step (r : Nat) : F.units r < F.units (r + 1) := by
  unfold Fmt.units
  have hp := two_pos F.frac
  generalize 2 ^ F.frac = P at hp
  by_cases h1 : r + 1 < P
  · rw [if_pos h1, if_pos (by omega)]
    omega
  · by_cases h2 : r < P
    · have e : r + 1 = P := by omega
      rw [if_pos h2, if_neg h1, e, Nat.mod_self, Nat.div_self hp]
      simp
      omega
    · rw [if_neg h1, if_neg h2]
      have hq : 1 ≤ r / P := (Nat.le_div_iff_mul_le hp).mpr (by omega)
      have hm := Nat.mod_lt r hp
      have hd : P * (r / P) + r % P = r := Nat.div_add_mod r P
      have hpp := two_pos (r / P - 1)
      by_cases c : r % P + 1 < P
      · have e1 : (r + 1) / P = r / P := by
          rw [Nat.div_eq_iff hp]
          constructor
          · have := Nat.div_mul_le_self r P
            omega
          · have e := Nat.mul_comm P (r / P)
            have : r / P * P + P = (r / P + 1) * P := by rw [Nat.succ_mul]
            omega
        have e2 : (r + 1) % P = r % P + 1 := by
          have h' := Nat.div_add_mod (r + 1) P
          rw [e1] at h'
          omega
        rw [e1, e2]
        exact Nat.mul_lt_mul_of_pos_right (by omega) hpp
      · have e0 : r + 1 = P * (r / P + 1) := by
          rw [Nat.mul_add, Nat.mul_one]
          omega
        have e1 : (r + 1) / P = r / P + 1 := by
          rw [e0, Nat.mul_div_cancel_left _ hp]
        have e2 : (r + 1) % P = 0 := by
          rw [e0, Nat.mul_mod_right]
        rw [e1, e2]
        have e3 : r / P + 1 - 1 = (r / P - 1) + 1 := by omega
        rw [e3, Nat.pow_succ, Nat.mul_comm _ 2, ← Nat.mul_assoc]
        exact Nat.mul_lt_mul_of_pos_right (by omega) hpp
theorem units_mono {r s : Nat} (h : r < s) : F.units r < F.units s := by
  induction s with
  | zero => omega
  | succ s ih =>
    by_cases e : r = s
    · rw [e]
      exact units_step F s
    · exact Nat.lt_trans (ih (by omega)) (units_step F s)
theorem units_lt_iff {r s : Nat} : F.units r < F.units s ↔ r < s := by
  constructor
  · intro h
    apply Decidable.byContradiction
    intro c
    by_cases e : r = s
    · rw [e] at h
      omega
    · have := units_mono F (show s < r by omega)
      omega
  · exact units_mono F
/-- a whole number that stands as the bits' value does -/
def ord (x : Nat) : Int := if F.neg x = true then -(F.rest x : Int) else (F.rest x : Int)
theorem units_zero : F.units 0 = 0 := by
  unfold Fmt.units
  rw [if_pos (two_pos _)]
theorem value_lt (x y : Nat) : F.value x < F.value y ↔ ord F x < ord F y := by
  have z := units_zero F
  have p : ∀ r, 0 < F.units r ↔ 0 < r := fun r => by
    have := units_lt_iff F (r := 0) (s := r)
    rw [z] at this
    exact this
  have q := units_lt_iff F (r := F.rest x) (s := F.rest y)
  have q' := units_lt_iff F (r := F.rest y) (s := F.rest x)
  have px := p (F.rest x)
  have py := p (F.rest y)
  unfold Fmt.value ord
  cases F.neg x <;> cases F.neg y <;> simp <;> omega
end Tb

/-! Signs and masks of bits. -/
namespace Tb
open Sg43
theorem land_pow (x k : Nat) : x &&& 2 ^ k = if x.testBit k = true then 2 ^ k else 0 := by
  apply Nat.eq_of_testBit_eq
  intro i
  rw [Nat.testBit_and, Nat.testBit_two_pow]
  by_cases e : k = i
  · subst e
    by_cases c : x.testBit k = true
    · simp [c]
    · simp [c]
  · by_cases c : x.testBit k = true
    · simp [c, e]
    · simp [c, e]
theorem bit_neg (F : Fmt) {x : Nat} (h : x < 2 * F.sign) : x.testBit (F.frac + F.exp) = F.neg x := by
  rw [Nat.testBit_eq_decide_div_mod_eq]
  show decide (x / F.sign % 2 = 1) = decide (F.sign ≤ x)
  have hp := sign_pos F
  by_cases c : F.sign ≤ x
  · have e : x / F.sign = 1 := by
      rw [Nat.div_eq_iff hp]
      omega
    simp [c, e]
  · have e : x / F.sign = 0 := Nat.div_eq_of_lt (by omega)
    simp [c, e]
theorem land_sign (F : Fmt) {x : Nat} (h : x < 2 * F.sign) : x &&& F.sign = if F.neg x = true then F.sign else 0 := by
  show x &&& 2 ^ (F.frac + F.exp) = _
  rw [land_pow, bit_neg F h]
  rfl
theorem xor_and (m : Nat) : ∀ n : Nat, (m ^^^ n) + 2 * (m &&& n) = m + n := by
  induction m using Nat.strongRecOn with
  | _ m ih =>
    intro n
    cases Nat.eq_zero_or_pos m with
    | inl h0 => rw [h0]; simp
    | inr h0 =>
      have q := ih (m / 2) (by omega) (n / 2)
      rw [← Nat.xor_div_two, ← Nat.and_div_two] at q
      have b1 := @Nat.xor_mod_two_eq_one m n
      have b2 := @Nat.and_mod_two_eq_one m n
      omega
theorem two_sign (F : Fmt) : 2 * F.sign = 2 ^ (F.frac + F.exp + 1) := by
  unfold Fmt.sign
  rw [Nat.pow_succ, Nat.mul_comm]
theorem xor_lt (F : Fmt) {x y : Nat} (hx : x < 2 * F.sign) (hy : y < 2 * F.sign) : x ^^^ y < 2 * F.sign := by
  rw [two_sign] at *
  exact Nat.xor_lt_two_pow hx hy
theorem and_lt (F : Fmt) {x y : Nat} (hy : y < 2 * F.sign) : x &&& y < 2 * F.sign := by
  rw [two_sign] at *
  exact Nat.and_lt_two_pow x hy
theorem xor_neg (F : Fmt) {x y : Nat} (hx : x < 2 * F.sign) (hy : y < 2 * F.sign) : F.neg (x ^^^ y) = (F.neg x != F.neg y) := by
  rw [← bit_neg F (xor_lt F hx hy), Nat.testBit_xor, bit_neg F hx, bit_neg F hy]
theorem and_neg (F : Fmt) {x y : Nat} (hx : x < 2 * F.sign) (hy : y < 2 * F.sign) : F.neg (x &&& y) = (F.neg x && F.neg y) := by
  rw [← bit_neg F (and_lt F hy), Nat.testBit_and, bit_neg F hx, bit_neg F hy]
/-- the sign that two signs make -/
theorem xor_sign (F : Fmt) {x y : Nat} (hx : x < 2 * F.sign) (hy : y < 2 * F.sign) : (x ^^^ y) &&& F.sign = F.signed (F.neg x != F.neg y) 0 := by
  rw [land_sign F (xor_lt F hx hy), xor_neg F hx hy]
  unfold Fmt.signed
  simp
theorem zero_sign (F : Fmt) {x y z : Nat} (hx : x < 2 * F.sign) (hy : y < 2 * F.sign) (hz : z < 2 * F.sign) :
    (x ^^^ y) &&& z &&& F.sign = if (F.neg x != F.neg y) = F.neg z then F.signed (F.neg x != F.neg y) 0 else 0 := by
  rw [land_sign F (and_lt F hz), and_neg F (xor_lt F hx hy) hz, xor_neg F hx hy]
  unfold Fmt.signed
  cases (F.neg x != F.neg y) <;> cases F.neg z <;> simp
theorem land_small (F : Fmt) {r : Nat} (h : r < F.sign) : r &&& F.sign = 0 := by
  rw [land_sign F (by omega)]
  have : F.neg r = false := by
    unfold Fmt.neg
    exact decide_eq_false (by omega)
  simp [this]
theorem xor_flip (F : Fmt) {x : Nat} (h : x < 2 * F.sign) : x ^^^ F.sign = F.flip x := by
  have e := xor_and x F.sign
  rw [land_sign F h] at e
  unfold Fmt.flip
  have hn : F.neg x = decide (F.sign ≤ x) := rfl
  by_cases c : F.sign ≤ x
  · have : F.neg x = true := by rw [hn]; exact decide_eq_true c
    rw [if_pos this] at e ⊢
    omega
  · have : ¬ F.neg x = true := by rw [hn, decide_eq_false c]; decide
    rw [if_neg this] at e ⊢
    omega
theorem mask_frac (F : Fmt) (x : Nat) : x % 2 ^ F.frac = F.rest x % 2 ^ F.frac := by
  unfold Fmt.rest
  rw [sign_is, Nat.mul_comm, Nat.mod_mul_right_mod]
/-- the leading figures of a kept number fit -/
theorem mant_lt (F : Fmt) (x : Nat) : mant F x < 2 ^ (F.frac + 1) := by
  unfold mant
  have h := Nat.mod_lt (F.rest x) (two_pos F.frac)
  rw [Nat.pow_succ]
  split <;> omega
theorem ex_lt (F : Fmt) (x : Nat) : ex F x < 2 ^ F.exp := by
  unfold ex
  have h : F.rest x / 2 ^ F.frac < 2 ^ F.exp := by
    rw [Nat.div_lt_iff_lt_mul (two_pos _), ← sign_is]
    exact rest_lt F x
  have := two_pos F.exp
  omega
theorem dig_abs (F : Fmt) (x : Nat) : (dig F x).natAbs = mant F x := by
  unfold dig
  split
  · rw [Int.natAbs_neg]; rfl
  · rfl
end Tb

/-! What turn is to answer, place by place. -/
namespace Tb
open Sg43
/-- a number as it's told -/
def tell (o : Num) : Int := match o with
  | some b => ((b : Nat) : Int)
  | none => -1
theorem row_tell (r : Row) : Sg43Neutral.row r = r.map tell := by
  unfold Sg43Neutral.row
  congr 1
theorem tell_num (F : Fmt) (x : Nat) : tell (F.num x) = if F.inf < F.rest x then -1 else (x : Int) := by
  unfold Fmt.num
  by_cases c : F.inf < F.rest x
  · rw [if_pos c, if_pos c]; rfl
  · rw [if_neg c, if_neg c]; rfl
/-- the k-th state -/
def iter {α : Type} (f : α → α) : Nat → α → α
  | 0, x => x
  | k + 1, x => f (iter f k x)
theorem iter_in {α : Type} (f : α → α) : ∀ (k : Nat) (x : α), iter f k (f x) = iter f (k + 1) x
  | 0, _ => rfl
  | k + 1, x => congrArg f (iter_in f k x)
end Tb

/-! The same over whole numbers as Python has them. -/
namespace Tb
open Sg43
theorem pow_cast (k : Nat) : ((2 : Int)) ^ k = ((2 ^ k : Nat) : Int) := by simp
theorem ex_int (F : Fmt) (x : Nat) : (if (1 : Int) > ((F.rest x : Nat) : Int) / 2 ^ ((F.frac : Nat) : Int).toNat then (1 : Int) else ((F.rest x : Nat) : Int) / 2 ^ ((F.frac : Nat) : Int).toNat) - 1 - (depth F : Int) = (ex F x : Int) - (depth F : Int) := by
  rw [Int.toNat_natCast, pow_cast, ← Int.natCast_ediv]
  unfold ex
  split <;> omega
theorem dig_int (F : Fmt) (x : Nat) : dig F x = if F.neg x = true then -((mant F x : Nat) : Int) else ((mant F x : Nat) : Int) := rfl
theorem mant_low (F : Fmt) {x : Nat} (h : F.rest x < 2 ^ F.frac) : F.rest x % 2 ^ F.frac = mant F x := by
  unfold mant
  rw [if_pos h, Nat.mod_eq_of_lt h]
theorem mant_high (F : Fmt) {x : Nat} (h : ¬ F.rest x < 2 ^ F.frac) : F.rest x % 2 ^ F.frac + 2 ^ F.frac = mant F x := by
  unfold mant
  rw [if_neg h, Nat.add_comm]
theorem shl_nat (m : Nat) {k : Int} (h : 0 ≤ k) : (m : Int) * 2 ^ k.toNat = ((shiftedN m k : Nat) : Int) := by
  unfold shiftedN
  rw [if_pos h, pow_cast]
  simp
/-- a shift to the right, as it's rounded by the rest and the half -/
theorem shr_cases (m : Nat) {k : Int} (h : ¬ 0 ≤ k) :
    let q : Int := (m : Int) / 2 ^ (-k).toNat
    let r : Int := (m : Int) - q * 2 ^ (-k).toNat
    let d : Int := 1 * 2 ^ (-k - 1).toNat
    (d < r → ((shiftedN m k : Nat) : Int) = q + 1) ∧ (r = d → q % 2 = 1 → ((shiftedN m k : Nat) : Int) = q + 1) ∧ (r = d → ¬ q % 2 = 1 → ((shiftedN m k : Nat) : Int) = q) ∧ (r < d → ((shiftedN m k : Nat) : Int) = q) := by
  obtain ⟨j, hj⟩ : ∃ j : Nat, (-k).toNat = j + 1 := ⟨(-k).toNat - 1, by omega⟩
  have hj2 : (-k - 1).toNat = j := by omega
  have e1 : (m : Int) / 2 ^ (-k).toNat = ((m / 2 ^ (j + 1) : Nat) : Int) := by
    rw [hj, pow_cast, ← Int.natCast_ediv]
  have e3 : ((m : Int) - ((m / 2 ^ (j + 1) : Nat) : Int) * 2 ^ (-k).toNat) = ((m % 2 ^ (j + 1) : Nat) : Int) := by
    have z := Nat.div_add_mod m (2 ^ (j + 1))
    have z2 : (2 ^ (j + 1) : Int) = ((2 ^ (j + 1) : Nat) : Int) := pow_cast _
    rw [hj, z2, ← Int.natCast_mul, Nat.mul_comm]
    omega
  have e4 : (1 : Int) * 2 ^ (-k - 1).toNat = ((2 ^ j : Nat) : Int) := by
    rw [hj2, Int.one_mul, pow_cast]
  have en : shiftedN m k = nearest m (2 ^ (j + 1)) := by
    unfold shiftedN
    rw [if_neg h, hj]
  simp only [e1, e3, e4, en]
  have hp : 2 ^ (j + 1) = 2 * 2 ^ j := by rw [Nat.pow_succ, Nat.mul_comm]
  unfold nearest
  simp only
  generalize m / 2 ^ (j + 1) = q
  generalize m % 2 ^ (j + 1) = r
  rw [hp]
  generalize 2 ^ j = d
  refine ⟨fun c => ?_, fun c c2 => ?_, fun c c2 => ?_, fun c => ?_⟩
  · rw [if_neg (by omega), if_pos (by omega)]; omega
  · rw [if_neg (by omega), if_neg (by omega)]; omega
  · rw [if_neg (by omega), if_neg (by omega)]; omega
  · rw [if_pos (by omega)]
theorem abs_int (m : Int) : (if m < 0 then -m else m) = ((m.natAbs : Nat) : Int) := by
  split <;> omega
theorem last_int (F : Fmt) (n : Nat) (e b : Int) (hb : b = (Nat.log2 n : Int) + 1) :
    (if -(depth F : Int) > e + b - (F.frac : Int) - 1 then -(depth F : Int) else e + b - (F.frac : Int) - 1) = lastN F n e := by
  unfold lastN
  rw [hb]
  split <;> omega
theorem bits_int (F : Fmt) (n : Nat) (e : Int) :
    (if (F.inf : Int) < (lastN F n e + (depth F : Int)) * 2 ^ ((F.frac : Nat) : Int).toNat + ((shiftedN n (e - lastN F n e) : Nat) : Int) then (F.inf : Int)
      else (lastN F n e + (depth F : Int)) * 2 ^ ((F.frac : Nat) : Int).toNat + ((shiftedN n (e - lastN F n e) : Nat) : Int)) = ((roundedN F n e : Nat) : Int) := by
  have h0 : 0 ≤ lastN F n e + (depth F : Int) := by
    unfold lastN
    omega
  have e1 : (lastN F n e + (depth F : Int)) * 2 ^ ((F.frac : Nat) : Int).toNat = (((lastN F n e + (depth F : Int)).toNat * 2 ^ F.frac : Nat) : Int) := by
    rw [Int.toNat_natCast, pow_cast, Int.natCast_mul, Int.toNat_of_nonneg h0]
  rw [e1]
  unfold roundedN
  split <;> omega
theorem roundedN_le (F : Fmt) (n : Nat) (e : Int) : roundedN F n e ≤ F.inf := Nat.min_le_right _ _
theorem pow_split {a : Nat} {c d : Int} (h : (c : Int) + d = a) (hc : 0 ≤ c) (hd : 0 ≤ d) : (2 : Int) ^ c.toNat * 2 ^ d.toNat = 2 ^ a := by
  rw [← Int.pow_add]
  congr 1
  omega
/-- the sum of a product and a number, at its last place -/
theorem fma_sum (A Z : Int) (a b c D : Nat) (last : Int) (hl : last = if ((c : Int) - D) < ((a : Int) - D) + ((b : Int) - D) then (c : Int) - D else ((a : Int) - D) + ((b : Int) - D)) :
    A * 2 ^ (a + b) + Z * 2 ^ (c + D) = (A * 2 ^ (((a : Int) - D) + ((b : Int) - D) - last).toNat + Z * 2 ^ ((c : Int) - D - last).toNat) * 2 ^ (last + 2 * D).toNat := by
  have h1 : last ≤ (c : Int) - D := by split at hl <;> omega
  have h2 : last ≤ ((a : Int) - D) + ((b : Int) - D) := by split at hl <;> omega
  have h3 : 0 ≤ last + 2 * D := by split at hl <;> omega
  rw [Int.add_mul, Int.mul_assoc, Int.mul_assoc, pow_split (a := a + b) (by omega) (by omega) h3, pow_split (a := c + D) (by omega) (by omega) h3]
theorem abs_lt_pow {A : Int} {m b : Nat} (h : A.natAbs < 2 ^ b) : (A * 2 ^ m).natAbs < 2 ^ (b + m) := by
  rw [Int.natAbs_mul, Int.natAbs_pow, Nat.pow_add]
  exact Nat.mul_lt_mul_of_pos_right h (two_pos m)
theorem abs_add_lt {A B : Int} {b : Nat} (h1 : A.natAbs < 2 ^ b) (h2 : B.natAbs < 2 ^ b) : (A + B).natAbs < 2 ^ (b + 1) := by
  rw [Nat.pow_succ]
  omega
theorem abs_mul_lt {A B : Int} {a b : Nat} (h1 : A.natAbs < 2 ^ a) (h2 : B.natAbs < 2 ^ b) : (A * B).natAbs < 2 ^ (a + b) := by
  rw [Int.natAbs_mul, Nat.pow_add]
  exact Nat.mul_lt_mul'' h1 h2
theorem lt_mono {n a b : Nat} (h : n < 2 ^ a) (hb : a ≤ b) : n < 2 ^ b := Nat.lt_of_lt_of_le h (Nat.pow_le_pow_right (by decide) hb)
theorem dig_lt (F : Fmt) (x : Nat) : (dig F x).natAbs < 2 ^ (F.frac + 1) := by
  rw [dig_abs]
  exact mant_lt F x
theorem num_sign (F : Fmt) : F.num F.sign = some F.sign := by
  refine num_some F ?_
  unfold Fmt.rest
  rw [Nat.mod_self]
  omega
theorem num_zero (F : Fmt) : F.num 0 = some 0 := by
  refine num_some F ?_
  unfold Fmt.rest
  rw [Nat.zero_mod]
  omega
theorem flip_signed (F : Fmt) {s : Bool} {r : Nat} (h : r < F.sign) : F.flip (F.signed s r) = F.signed (!s) r := by
  unfold Fmt.flip
  rw [signed_neg F h]
  cases s <;> simp [Fmt.signed]
  omega
theorem fused_inf_none (F : Fmt) {x y z : Nat} (hi : F.rest x = F.inf ∨ F.rest y = F.inf) (hz : z < 2 * F.sign) (c : F.rest x = 0 ∨ F.rest y = 0 ∨ z = F.flip (F.signed (F.neg x != F.neg y) F.inf)) : F.fused x y z = none := by
  have hl := inf_lt F
  unfold Fmt.fused
  simp only
  rw [if_pos hi]
  by_cases c0 : F.rest x = 0 ∨ F.rest y = 0
  · rw [if_pos c0]
  · rw [if_neg c0]
    have e : z = F.flip (F.signed (F.neg x != F.neg y) F.inf) := by
      rcases c with c | c | c
      · exact absurd (.inl c) c0
      · exact absurd (.inr c) c0
      · exact c
    rw [flip_signed F hl] at e
    rw [if_pos]
    rw [e, signed_rest F hl, signed_neg F hl]
    refine ⟨rfl, ?_⟩
    cases (F.neg x != F.neg y) <;> decide
theorem fused_inf_some (F : Fmt) {x y z : Nat} (hi : F.rest x = F.inf ∨ F.rest y = F.inf) (hz : z < 2 * F.sign) (c1 : F.rest x ≠ 0) (c2 : F.rest y ≠ 0) (c3 : z ≠ F.flip (F.signed (F.neg x != F.neg y) F.inf)) :
    F.fused x y z = some (F.signed (F.neg x != F.neg y) F.inf) := by
  have hl := inf_lt F
  unfold Fmt.fused
  simp only
  rw [if_pos hi, if_neg (fun q => q.elim c1 c2), if_neg]
  rintro ⟨r, n⟩
  apply c3
  rw [flip_signed F hl, ← signed_of F hz, r]
  congr 1
  cases h1 : F.neg z <;> cases h2 : (F.neg x != F.neg y) <;> simp_all
theorem fused_inf_z (F : Fmt) {x y z : Nat} (hx : ¬ F.rest x = F.inf) (hy : ¬ F.rest y = F.inf) (hz : F.rest z = F.inf) : F.fused x y z = some z := by
  unfold Fmt.fused
  simp only
  rw [if_neg (fun q => q.elim hx hy), if_pos hz]
end Tb

/-! Order of numbers; what heights is to answer. -/
namespace Tb
open Sg43
theorem less_ord (F : Fmt) {x y : Nat} (hx : ¬ F.inf < F.rest x) (hy : ¬ F.inf < F.rest y) : F.less (F.num x) (F.num y) = decide (ord F x < ord F y) := by
  rw [num_some F hx, num_some F hy]
  exact decide_eq_decide.mpr (value_lt F x y)
/-- not less, of the bits of either format -/
def nless (F : Fmt) (a b : Num) : Bool := a.isSome && (b.isSome && !F.less a b)
theorem nless_ord (F : Fmt) {x y : Nat} (hx : ¬ F.inf < F.rest x) (hy : ¬ F.inf < F.rest y) : nless F (F.num x) (F.num y) = decide (ord F y ≤ ord F x) := by
  unfold nless
  rw [less_ord F hx hy, num_some F hx, num_some F hy]
  show (true && (true && !decide (ord F x < ord F y))) = _
  rw [Bool.true_and, Bool.true_and]
  by_cases c : ord F x < ord F y
  · rw [decide_eq_true c, decide_eq_false (by omega)]; rfl
  · rw [decide_eq_false c, decide_eq_true (by omega)]; rfl
theorem nless_nan (F : Fmt) {x y : Nat} (h : F.inf < F.rest x ∨ F.inf < F.rest y) : nless F (F.num x) (F.num y) = false := by
  unfold nless
  rcases h with h | h
  · rw [num_none F h]; rfl
  · rw [num_none F h]
    cases F.num x <;> rfl
theorem ord_int (F : Fmt) {x : Nat} (h : x < 2 * F.sign) : ord F x = if F.neg x = true then -((F.rest x : Nat) : Int) else (x : Int) := by
  unfold ord
  by_cases c : F.neg x = true
  · rw [if_pos c, if_pos c]
  · rw [if_neg c, if_neg c]
    have e := signed_of F h
    unfold Fmt.signed at e
    rw [if_neg c] at e
    omega
def slopesOf (r f h e : Nat) : Slopes := ⟨S.num r, S.num f, S.num h, S.num e⟩
/-- one place's step, at each stage -/
theorem step_le (k : Slopes) (g : Nat) (v : Num) : (heightStep k g v).1 ≤ 4 := by
  unfold heightStep
  simp only
  repeat' split
  all_goals simp
end Tb

/-! Rounding keeps the order, and leaves what is a number of the format. -/
namespace Tb
open Sg43
end Tb

/-! Places of a table: doubles from 0 to 1, what lies below them, and what is to be answered. -/
namespace Tb
open Sg43
abbrev U : Nat := D.unit
/-- a double within B -/
structure Lim (x : Nat) (B : Nat) : Prop where
  lt : x < 2 * D.sign
  fin : D.rest x < D.inf
  lo : -(B * U : Int) ≤ D.value x
  hi : D.value x ≤ (B * U : Int)
theorem Lim.num {x B : Nat} (h : Lim x B) : D.num x = some x := num_some D (by have := h.fin; omega)
theorem Lim.ne {x B : Nat} (h : Lim x B) : D.rest x ≠ D.inf := by have := h.fin; omega
theorem Lim.mono {x B C : Nat} (h : Lim x B) (hBC : B ≤ C) : Lim x C := by
  have hm : ((B * U : Nat) : Int) ≤ ((C * U : Nat) : Int) := by exact_mod_cast Nat.mul_le_mul_right U hBC
  have h1 := h.lo
  have h2 := h.hi
  rw [← Int.natCast_mul] at h1 h2
  exact ⟨h.lt, h.fin, by rw [← Int.natCast_mul]; omega, by rw [← Int.natCast_mul]; omega⟩
/-- the whole number below -/
def below (x : Nat) : Int := D.value x / (U : Int)
end Tb

/-! Doubles of a table as the program reckons them. -/
namespace Tb
open Sg43
end Tb

/-! What the new arithmetic asks: finite bits by a mask, shifts far below. -/
namespace Tb
open Sg43
theorem land_inf (F : Fmt) (x : Nat) : x &&& F.inf = (F.rest x / 2 ^ F.frac) * 2 ^ F.frac := by
  have e1 : F.inf = (2 ^ F.exp - 1) * 2 ^ F.frac := rfl
  have e2 : F.rest x / 2 ^ F.frac = x / 2 ^ F.frac % 2 ^ F.exp := by
    unfold Fmt.rest
    rw [sign_is, Nat.mul_comm, Nat.mod_mul_right_div_self]
  rw [e1, e2, ← Nat.and_two_pow_sub_one_eq_mod, ← Nat.shiftLeft_eq, ← Nat.shiftLeft_eq]
  apply Nat.eq_of_testBit_eq
  intro i
  rw [Nat.testBit_and, Nat.testBit_shiftLeft, Nat.testBit_shiftLeft, Nat.testBit_and]
  by_cases c : i ≥ F.frac
  · have z : (x / 2 ^ F.frac).testBit (i - F.frac) = x.testBit i := by
      rw [Nat.testBit_div_two_pow]
      congr 1
      omega
    simp [c, z]
  · simp [c]
theorem fin_iff (F : Fmt) (x : Nat) : (x &&& F.inf = F.inf) ↔ F.inf ≤ F.rest x := by
  have hp := two_pos F.frac
  have e1 : F.inf = (2 ^ F.exp - 1) * 2 ^ F.frac := rfl
  rw [land_inf]
  have hr : F.rest x < 2 ^ F.exp * 2 ^ F.frac := by rw [← sign_is]; exact rest_lt F x
  have hq : F.rest x / 2 ^ F.frac < 2 ^ F.exp := (Nat.div_lt_iff_lt_mul hp).mpr hr
  have hd := Nat.div_mul_le_self (F.rest x) (2 ^ F.frac)
  constructor
  · intro h
    omega
  · intro h
    rw [e1] at h
    have : 2 ^ F.exp - 1 ≤ F.rest x / 2 ^ F.frac := (Nat.le_div_iff_mul_le hp).mpr h
    rw [e1]
    congr 1
    omega
theorem shifted_far {m b : Nat} {k : Int} (hb : m < 2 ^ b) (hk : (b : Int) < -k) : shiftedN m k = 0 := by
  unfold shiftedN
  rw [if_neg (by omega)]
  have h1 : 2 ^ (b + 1) ≤ 2 ^ (-k).toNat := Nat.pow_le_pow_right (by decide) (by omega)
  rw [Nat.pow_succ] at h1
  unfold nearest
  simp only
  rw [Nat.mod_eq_of_lt (by omega), Nat.div_eq_of_lt (by omega), if_pos (by omega)]
theorem pow200 : (2 : Nat) ^ 200 = 1606938044258990275541962092341162602522202993782792835301376 := by decide
end Tb
namespace Tb
theorem pow201 : (2 : Nat) ^ 201 = 3213876088517980551083924184682325205044405987565585670602752 := by decide
theorem lt200 {e : Int} (h1 : -5000 ≤ e) (h2 : e ≤ 5000) : e.natAbs < 2 ^ 200 := by
  rw [pow200]
  omega
end Tb
namespace Tb
/-- a part of an answer with its length ahead; parts one behind another -/
def told1 (l : List Int) : List Int := (l.length : Int) :: l
def flat (lss : List (List Int)) : List Int := lss.flatMap told1
end Tb

/-! What each call is to answer, by the numbers' bits. -/
namespace Tb
open Sg43
theorem sn_nats (es : List Nat) : Sg43Neutral.sn (es.map fun (e : Nat) => (e : Int)) = es.map fun e => S.num e := by
  unfold Sg43Neutral.sn
  rw [List.map_map]
  congr 1
theorem within_true {n a b : Int} (h1 : a ≤ n) (h2 : n ≤ b) : Sg43.within n a b = true := by
  unfold Sg43.within
  simp [h1, h2]
theorem within_false {n a b : Int} (h : ¬ (a ≤ n ∧ n ≤ b)) : Sg43.within n a b = false := by
  unfold Sg43.within
  simp
  omega
def factorsOf (b0 b1 b2 a1 a2 : Nat) : Factors := ⟨S.num b0, S.num b1, S.num b2, S.num a1, S.num a2⟩
end Tb

/-! Voices: places, plays, steps, told from the end. -/
namespace Tb
open Sg43
theorem together_snoc (x : Voice) : ∀ (t : List Voice) (l r : Num), together (t ++ [x]) l r =
    if x.stage = 0 then ((together t l r).1, (together t l r).2.1, (together t l r).2.2 ++ [x])
    else (f_ (sounds x).1 x.left (together t l r).1, f_ (sounds x).1 x.right (together t l r).2.1, (together t l r).2.2 ++ [(sounds x).2])
  | [], l, r => by
    show together [x] l r = _
    unfold together
    by_cases c : x.stage = 0
    · rw [if_pos c, if_pos c]; rfl
    · rw [if_neg c, if_neg c]; rfl
  | y :: t, l, r => by
    have ih := together_snoc x t
    show together (y :: (t ++ [x])) l r = _
    by_cases d : y.stage = 0
    · have e1 : ∀ u, together (y :: u) l r = ((together u l r).1, (together u l r).2.1, y :: (together u l r).2.2) := fun u => by
        show (if y.stage = 0 then _ else _) = _
        rw [if_pos d]
      rw [e1, e1, ih]
      by_cases c : x.stage = 0
      · rw [if_pos c, if_pos c]; rfl
      · rw [if_neg c, if_neg c]; rfl
    · have e1 : ∀ u, together (y :: u) l r = ((together u (f_ (sounds y).1 y.left l) (f_ (sounds y).1 y.right r)).1, (together u (f_ (sounds y).1 y.left l) (f_ (sounds y).1 y.right r)).2.1, (sounds y).2 :: (together u (f_ (sounds y).1 y.left l) (f_ (sounds y).1 y.right r)).2.2) := fun u => by
        show (if y.stage = 0 then _ else _) = _
        rw [if_neg d]
      rw [e1, e1, ih]
      by_cases c : x.stage = 0
      · rw [if_pos c, if_pos c]; rfl
      · rw [if_neg c, if_neg c]; rfl
theorem together_len : ∀ (t : List Voice) (l r : Num), (together t l r).2.2.length = t.length
  | [], _, _ => rfl
  | y :: t, l, r => by
    unfold together
    by_cases d : y.stage = 0
    · rw [if_pos d]
      exact congrArg (· + 1) (together_len t _ _)
    · rw [if_neg d]
      exact congrArg (· + 1) (together_len t _ _)
def onV (x : List Voice) : List Voice := (together x ZERO ZERO).2.2
def outV (x : List Voice) : Row := [(together x ZERO ZERO).1, (together x ZERO ZERO).2.1]
theorem play_iter : ∀ (n : Nat) (x : List Voice), Sg43.play n x = ((List.range n).flatMap (fun i => outV (iter onV i x)), iter onV n x)
  | 0, _ => rfl
  | n + 1, x => by
    have ih := play_iter n (onV x)
    show ((together x ZERO ZERO).1 :: (together x ZERO ZERO).2.1 :: (Sg43.play n (onV x)).1, (Sg43.play n (onV x)).2) = _
    rw [ih, List.range_succ_eq_map, List.flatMap_cons, List.flatMap_map]
    simp only [iter_in]
    rfl
/-- what a step answers, and what it leaves -/
def stepOut (x : List Voice) (s : List Int) : List Int := match Sg43Neutral.stepOf s with
  | some c => (does x c).1.code :: Sg43Neutral.row (does x c).1.row
  | none => []
def stepOn (x : List Voice) (s : List Int) : List Voice := match Sg43Neutral.stepOf s with
  | some c => (does x c).2
  | none => x
def outs : List Voice → List (List Int) → List (List Int)
  | _, [] => []
  | x, s :: l => stepOut x s :: outs (stepOn x s) l
def after : List Voice → List (List Int) → List Voice
  | x, [] => x
  | x, s :: l => after (stepOn x s) l
theorem steps_outs : ∀ (l : List (List Int)) (x : List Voice), (Sg43Neutral.steps x l).map (·.2) = outs x l
  | [], _ => rfl
  | s :: l, x => by
    unfold Sg43Neutral.steps outs stepOut stepOn
    cases e : Sg43Neutral.stepOf s with
    | none =>
      simp only [List.map_cons]
      rw [steps_outs l x]
    | some c =>
      simp only [List.map_cons]
      rw [steps_outs l _]
theorem outs_snoc (s : List Int) : ∀ (l : List (List Int)) (x : List Voice), outs x (l ++ [s]) = outs x l ++ [stepOut (after x l) s]
  | [], _ => rfl
  | t :: l, x => congrArg (stepOut x t :: ·) (outs_snoc s l (stepOn x t))
theorem after_snoc (s : List Int) : ∀ (l : List (List Int)) (x : List Voice), after x (l ++ [s]) = stepOn (after x l) s
  | [], _ => rfl
  | t :: l, x => after_snoc s l (stepOn x t)
/-- the answers one behind another, but for the first with its length ahead -/
def joined : List (List Int) → List Int
  | [] => []
  | a :: l => a ++ flat l
theorem joined_first (b : List Int) : joined [b] = b := by
  unfold joined flat
  simp
theorem joined_snoc (a b : List Int) (l : List (List Int)) : joined (a :: l ++ [b]) = joined (a :: l) ++ told1 b := by
  show a ++ flat (l ++ [b]) = a ++ flat l ++ told1 b
  unfold flat
  rw [List.flatMap_append, List.append_assoc]
  simp
theorem voices_ans (ss : List (List Int)) : PySg43.voices ss = joined (outs Sg43Neutral.fresh ss) := by
  rw [← steps_outs]
  show Sg43Neutral.f ([20] :: ss) = _
  have e : Sg43Neutral.fields ([20] :: ss) = Sg43Neutral.steps Sg43Neutral.fresh ss := rfl
  unfold Sg43Neutral.f
  rw [e]
  cases Sg43Neutral.steps Sg43Neutral.fresh ss with
  | nil => rfl
  | cons a l =>
    show a.2 ++ l.flatMap (fun r => ((r.2.length : Nat) : Int) :: r.2) = a.2 ++ flat (l.map (·.2))
    unfold flat
    rw [List.flatMap_map]
    rfl
/-- a step as it may be handed in -/
inductive Step : List Int → Prop
  | voice (k : Int) (n : List Int) : n.length = 13 → (∀ z ∈ n, 0 ≤ z ∧ z ≤ 4294967295) → Step (1 :: k :: n)
  | on (k : Int) : Step [2, k]
  | off (k : Int) : Step [3, k]
  | play (k : Int) : Step [4, k]
theorem step_of {s : List Int} (h : ((Sg43Neutral.stepOf s).isSome && (match s with
    | 1 :: k :: n => Sg43Neutral.int k && (Sg43Neutral.single n && decide (n.length = 13))
    | s => s.all Sg43Neutral.int)) = true) : Step s := by
  unfold Sg43Neutral.stepOf at h
  split at h
  · rename_i k n
    simp [Sg43Neutral.single, Sg43Neutral.word, NeutralIO.within] at h
    exact .voice k n h.2.2 fun z hz => by
      have := h.2.1.1 z hz
      omega
  · exact .on _
  · exact .off _
  · exact .play _
  · simp at h
theorem steps_asked {ss : List (List Int)} (h : PySg43.voices_asked ss = true) : ∀ s ∈ ss, Step s := by
  unfold PySg43.voices_asked Sg43Neutral.asked at h
  split at h
  all_goals first
    | (rename_i e; simp at e; done)
    | skip
  · rename_i c k r z e
    obtain ⟨rfl, rfl⟩ : 20 = k ∧ ss = [r] := by simpa using e
    simp [NeutralIO.within] at h
  · rename_i c l z e
    obtain rfl : ss = l := by simpa using e
    intro s hs
    exact step_of (List.all_eq_true.mp h s hs)
theorem row_out (x : List Voice) (n : Nat) : Sg43Neutral.row (Sg43.play n x).1 = (List.range n).flatMap (fun i => (outV (iter onV i x)).map tell) := by
  rw [row_tell, play_iter, List.map_flatMap]
end Tb
namespace Tb
open Sg43
theorem within7 (k : Int) : Sg43.within k 0 7 = decide (0 ≤ k ∧ k < 8) := by
  unfold Sg43.within
  by_cases c : 0 ≤ k ∧ k < 8
  · rw [decide_eq_true c, decide_eq_true c.1, decide_eq_true (show k ≤ 7 by omega)]; rfl
  · rw [decide_eq_false c]
    simp
    omega
theorem out_voice (x : List Voice) (k : Int) (n : List Int) : stepOut x (1 :: k :: n) = (if 0 ≤ k ∧ k < 8 then [0] else [-1]) ∧ stepOn x (1 :: k :: n) = (if 0 ≤ k ∧ k < 8 then x.set k.toNat (voiceOf (Sg43Neutral.sn n)) else x) := by
  have e : Sg43Neutral.stepOf (1 :: k :: n) = some (.voice k (Sg43Neutral.sn n)) := rfl
  unfold stepOut stepOn
  rw [e]
  simp only [does, within7]
  by_cases c : 0 ≤ k ∧ k < 8
  · rw [if_pos c, if_pos c, decide_eq_true c]; exact ⟨rfl, rfl⟩
  · rw [if_neg c, if_neg c, decide_eq_false c]; exact ⟨rfl, rfl⟩
theorem out_on (x : List Voice) (k : Int) : stepOut x [2, k] = (if 0 ≤ k ∧ k < 8 then [0] else [-1]) ∧ stepOn x [2, k] = (if 0 ≤ k ∧ k < 8 then x.set k.toNat { x.getD k.toNat silent with c := ONE, s := ZERO, stage := 1, v := ZERO, z1 := ZERO, z2 := ZERO } else x) := by
  have e : Sg43Neutral.stepOf [2, k] = some (.on k) := rfl
  unfold stepOut stepOn
  rw [e]
  simp only [does, within7]
  by_cases c : 0 ≤ k ∧ k < 8
  · rw [if_pos c, if_pos c, decide_eq_true c]; exact ⟨rfl, rfl⟩
  · rw [if_neg c, if_neg c, decide_eq_false c]; exact ⟨rfl, rfl⟩
theorem out_off (x : List Voice) (k : Int) : stepOut x [3, k] = (if 0 ≤ k ∧ k < 8 then [0] else [-1]) ∧ stepOn x [3, k] = (if 0 ≤ k ∧ k < 8 then x.set k.toNat { x.getD k.toNat silent with stage := if (x.getD k.toNat silent).stage = 0 then 0 else 4 } else x) := by
  have e : Sg43Neutral.stepOf [3, k] = some (.off k) := rfl
  unfold stepOut stepOn
  rw [e]
  simp only [does, within7]
  by_cases c : 0 ≤ k ∧ k < 8
  · rw [if_pos c, if_pos c, decide_eq_true c]; exact ⟨rfl, rfl⟩
  · rw [if_neg c, if_neg c, decide_eq_false c]; exact ⟨rfl, rfl⟩
theorem out_play (x : List Voice) (k : Int) : stepOut x [4, k] = (if 0 ≤ k ∧ k ≤ 2048 then 0 :: (List.range k.toNat).flatMap (fun i => (outV (iter onV i x)).map tell) else [-1]) ∧ stepOn x [4, k] = (if 0 ≤ k ∧ k ≤ 2048 then iter onV k.toNat x else x) := by
  have e : Sg43Neutral.stepOf [4, k] = some (.play k) := rfl
  unfold stepOut stepOn
  rw [e]
  simp only [does]
  by_cases c : 0 ≤ k ∧ k ≤ 2048
  · rw [if_pos c, if_pos c, within_true c.1 c.2]
    refine ⟨?_, ?_⟩
    · show 0 :: Sg43Neutral.row (Sg43.play k.toNat x).1 = _
      rw [row_out]
    · show (Sg43.play k.toNat x).2 = _
      rw [play_iter]
  · rw [if_neg c, if_neg c, within_false c]; exact ⟨rfl, rfl⟩
theorem flat2 (f : Nat → List Voice) : ∀ n, ((List.range n).flatMap (fun i => (outV (f i)).map tell)).length = 2 * n
  | 0 => rfl
  | n + 1 => by
    rw [List.range_succ, List.flatMap_append, List.length_append, flat2 f n]
    simp [outV]
    omega
theorem stepOut_len {s : List Int} (h : Step s) (x : List Voice) : (stepOut x s).length ≤ 4097 := by
  cases h with
  | voice k n _ _ =>
    rw [(out_voice x k n).1]
    split <;> simp
  | on k =>
    rw [(out_on x k).1]
    split <;> simp
  | off k =>
    rw [(out_off x k).1]
    split <;> simp
  | play k =>
    rw [(out_play x k).1]
    split
    · rw [List.length_cons, flat2 (fun i => iter onV i x)]
      omega
    · simp
theorem flat_cons (a : List Int) (l : List (List Int)) : flat (a :: l) = told1 a ++ flat l := by
  unfold flat
  rw [List.flatMap_cons]
theorem outs_flat : ∀ (l : List (List Int)) (x : List Voice), (∀ s ∈ l, Step s) → (flat (outs x l)).length ≤ 4098 * l.length
  | [], _, _ => by simp [outs, flat]
  | s :: l, x, h => by
    have ih := outs_flat l (stepOn x s) fun t ht => h t (List.mem_cons_of_mem _ ht)
    have hs := stepOut_len (h s List.mem_cons_self) x
    unfold outs
    rw [flat_cons, List.length_append]
    show (stepOut x s).length + 1 + _ ≤ _
    rw [List.length_cons]
    omega
theorem joined_len (l : List (List Int)) (x : List Voice) (h : ∀ s ∈ l, Step s) : (joined (outs x l)).length ≤ 4098 * l.length := by
  have := outs_flat l x h
  cases e : outs x l with
  | nil => simp [joined]
  | cons a t =>
    rw [e, flat_cons, List.length_append] at this
    show (a ++ flat t).length ≤ _
    rw [List.length_append]
    have : (told1 a).length = a.length + 1 := rfl
    omega
theorem joined_next (s : List Int) (l : List (List Int)) (x : List Voice) : joined (outs x (l ++ [s])) = if l = [] then stepOut x s else joined (outs x l) ++ told1 (stepOut (after x l) s) := by
  cases l with
  | nil => exact joined_first _
  | cons t l =>
    rw [if_neg (by simp), outs_snoc]
    exact joined_snoc _ _ _
end Tb

/-! ### bits as Python's whole numbers have them -/
namespace Tb
open PySem PyProof.Rows Sg43
theorem band (x y : Nat) : Builtin.bitAnd (x : Int) (y : Int) = ((x &&& y : Nat) : Int) := by
  rw [bitAnd_pp (by omega) (by omega), Int.toNat_natCast, Int.toNat_natCast]
theorem bxor (x y : Nat) : Builtin.bitXor (x : Int) (y : Int) = ((x ^^^ y : Nat) : Int) := by
  have e := xor_and x y
  rw [bitXor_and, band]
  omega
theorem bor (x y : Nat) : Builtin.bitOr (x : Int) (y : Int) = (x : Int) + y - ((x &&& y : Nat) : Int) := by
  rw [bitOr_and, band]
theorem b_mask (k x : Nat) : Builtin.bitAnd (x : Int) (((2 ^ k : Nat) : Int) - 1) = ((x % 2 ^ k : Nat) : Int) := by
  have hp := two_pos k
  have e : ((2 ^ k : Nat) : Int) - 1 = ((2 ^ k - 1 : Nat) : Int) := by omega
  rw [e, band, Nat.and_two_pow_sub_one_eq_mod]
theorem b_rest (F : Fmt) (x : Nat) : Builtin.bitAnd (x : Int) ((F.sign : Int) - 1) = ((F.rest x : Nat) : Int) := b_mask (F.frac + F.exp) x
theorem b_flip (F : Fmt) {x : Nat} (h : x < 2 * F.sign) : Builtin.bitXor (x : Int) (F.sign : Int) = ((F.flip x : Nat) : Int) := by
  rw [bxor, xor_flip F h]
theorem shl_one (k : Nat) : (1 : Int) * 2 ^ ((k : Nat) : Int).toNat = ((2 ^ k : Nat) : Int) := by
  rw [Int.toNat_natCast, Int.one_mul]
  simp
theorem b_low (F : Fmt) (x : Nat) : Builtin.bitAnd (x : Int) ((1 : Int) * 2 ^ ((F.frac : Nat) : Int).toNat - 1) = ((F.rest x % 2 ^ F.frac : Nat) : Int) := by
  rw [shl_one, b_mask, mask_frac]
theorem b_neg (F : Fmt) {x : Nat} (h : x < 2 * F.sign) : (Builtin.bitAnd (x : Int) (F.sign : Int) != 0) = F.neg x := by
  have hp := sign_pos F
  rw [band, land_sign F h]
  cases F.neg x
  · simp
  · simp
    omega
theorem b_signed (F : Fmt) {r : Nat} (h : r < F.sign) : Builtin.bitOr (r : Int) (F.sign : Int) = ((F.signed true r : Nat) : Int) := by
  rw [bor, land_small F h]
  unfold Fmt.signed
  simp
  omega
theorem b_signed2 (F : Fmt) {x y r : Nat} (hx : x < 2 * F.sign) (hy : y < 2 * F.sign) (h : r < F.sign) :
    Builtin.bitOr (r : Int) (Builtin.bitAnd (Builtin.bitXor (x : Int) (y : Int)) (F.sign : Int)) = ((F.signed (F.neg x != F.neg y) r : Nat) : Int) := by
  rw [bxor, band, xor_sign F hx hy]
  unfold Fmt.signed
  cases (F.neg x != F.neg y)
  · simp
    have e := bor r 0
    simp at e
    exact e
  · simp
    have e := bor r F.sign
    rw [land_small F h] at e
    rw [e]
    omega
theorem b_zero (F : Fmt) {x y z : Nat} (hx : x < 2 * F.sign) (hy : y < 2 * F.sign) (hz : z < 2 * F.sign) :
    Builtin.bitAnd (Builtin.bitAnd (Builtin.bitXor (x : Int) (y : Int)) (z : Int)) (F.sign : Int) = ((if (F.neg x != F.neg y) = F.neg z then F.signed (F.neg x != F.neg y) 0 else 0 : Nat) : Int) := by
  rw [bxor, band, band, zero_sign F hx hy hz]
theorem intBits_le {i : Int} {b : Nat} (h : i.natAbs < 2 ^ b) : Builtin.Int.intBits i ≤ b := by
  unfold Builtin.Int.intBits
  split
  · exact Nat.zero_le _
  · rename_i c
    have h0 : i.natAbs ≠ 0 := by
      intro e
      have : i = 0 := by omega
      simp [this] at c
    exact (Nat.log2_lt h0).mpr h
theorem intBits_pos {i : Int} (h : i ≠ 0) : ((Builtin.Int.intBits i : Nat) : Int) = (Nat.log2 i.natAbs : Int) + 1 := by
  unfold Builtin.Int.intBits
  rw [if_neg (by simpa using h)]
  rfl
end Tb
namespace Tb
open PySem
theorem lt_intBits (m : Nat) : m < 2 ^ Builtin.Int.intBits (m : Int) := by
  by_cases h : m = 0
  · subst h
    exact two_pos _
  · have e := intBits_pos (i := (m : Int)) (by omega)
    rw [Int.natAbs_natCast] at e
    have e2 : Builtin.Int.intBits (m : Int) = Nat.log2 m + 1 := by omega
    rw [e2]
    exact Nat.lt_log2_self
end Tb

/-! ### what the defs are read by -/
namespace Fn
open PySem PySem.Spec PyProof.Rows L2
abbrev Fmt := Sg43.Fmt
/-- a format as the program has it: five whole numbers -/
def formV (F : Fmt) : List V := [.int (F.frac : Int), .int (F.inf : Int), .int (F.sign : Int), .int (F.one : Int), .int (Tb.depth F : Int)]
structure Fm (K : PySem.W.Frag) (p : Addr) (F : Fmt) : Prop where
  good : F = Sg43.S ∨ F = Sg43.D
  tup : ∀ H : Hp, SqT K H p (formV F)
theorem at0 (F : Fmt) : atI (formV F) 0 = some (V.int (F.frac : Int)) := rfl
theorem at1 (F : Fmt) : atI (formV F) 1 = some (V.int (F.inf : Int)) := rfl
theorem at2 (F : Fmt) : atI (formV F) 2 = some (V.int (F.sign : Int)) := rfl
theorem at3 (F : Fmt) : atI (formV F) 3 = some (V.int (F.one : Int)) := rfl
theorem at4 (F : Fmt) : atI (formV F) 4 = some (V.int (Tb.depth F : Int)) := rfl
section
variable {K : PySem.W.Frag} {p : Addr} {F : Fmt}
theorem Fm.frac1 (f : Fm K p F) : 1 ≤ F.frac := by rcases f.good with e | e <;> subst e <;> decide
theorem Fm.exp1 (f : Fm K p F) : 1 ≤ F.exp := by rcases f.good with e | e <;> subst e <;> decide
theorem Fm.fracle (f : Fm K p F) : F.frac ≤ 52 := by rcases f.good with e | e <;> subst e <;> decide
theorem Fm.explt (f : Fm K p F) : 2 ^ F.exp ≤ 2048 := by rcases f.good with e | e <;> subst e <;> decide
theorem Fm.depthle (f : Fm K p F) : Tb.depth F ≤ 1074 := by rcases f.good with e | e <;> subst e <;> decide
theorem Fm.onelt (f : Fm K p F) : F.one < F.inf := by rcases f.good with e | e <;> subst e <;> decide
end
section
variable {X : Cx} {a b : Expr} {x : Str} {pos p : Pos}
theorem pe_cst {i : Int} (hm : ∃ t, X.mg x = some (Value.int i t)) (hg : Gl X x := by rfl) (hd : (x == ("__debug__" : Str)) = false := by decide) : PE X (.Name x pos) (tC (.int i)) := by
  obtain ⟨t, e⟩ := hm
  exact pe_glob hg e ⟨t, rfl⟩ hd
theorem pe_tpc {q : Addr} (hm : X.mg x = some (.ref q)) (hg : Gl X x := by rfl) (hd : (x == ("__debug__" : Str)) = false := by decide) : PE X (.Name x pos) (tC (.ref q)) := pe_glob hg hm rfl hd
/-- i << j, the size of i told -/
def CShl (i j : Int) : Prop := 0 ≤ j ∧ ∃ b : Nat, i.natAbs < 2 ^ b ∧ (b : Int) + j ≤ 134217728
theorem op_shlB : OpR X (binaryOp .LShift) (rI CShl fun i j => .int (i * 2 ^ j.toNat)) := opI fun i j _ _ _ _ _ hc q => by
  obtain ⟨h0, c, h1, h2⟩ := hc
  have h3 := Tb.intBits_le h1
  exact PyProof.Rows.lshift_int h0 (by omega) q
theorem mt_bitlen : MtR X "int.bit_length" (fun x xs H Q => ∃ i : Int, x = .int i ∧ xs = [] ∧ Q (.int ((Builtin.Int.intBits i : Nat) : Int)) H) := by
  intro pins s σ H x xs v us Q I rx rs h
  obtain ⟨i, rfl, rfl, q⟩ := h
  cases rs
  obtain ⟨t, rfl⟩ := rx
  exact call_gives PySem.F.slot_int_bit_length (typeIs_int s i t) PySem.F.entry_int_bit_length (PySem.F.args_int_bit_length_1 _) (PySem.AutoIntG2.int_bit_length_int_0 i t) ⟨.int _, H, I.tok _, ⟨_, rfl⟩, q⟩
end
/-! ### a def of the text, and its promise, each by its name -/
structure Def (K : PySem.W.Frag) (mg : Str → Option Value) (x : Str) (st : Stmt) (ps : List Str) : Prop where
  ex : ∃ (f : Addr) (fd : FuncData), Fun K x x st f fd ∧ mg x = some (.ref f) ∧ Binds K fd ps []
structure Cal (P : Program) (w : World) (K : PySem.W.Frag) (mg : Str → Option Value) (base : Heap) (x : Str) (k : Nat) (ps : List Str) (sp : Sp) : Prop where
  ex : ∃ (f : Addr) (fd : FuncData), FnOk P w K mg base CX0 k f fd ps sp ∧ mg x = some (.ref f) ∧ PySem.W.keepIn K (.ref f) = true ∧ Binds K fd ps []
theorem Def.cal {P : Program} {w : World} {K : PySem.W.Frag} {mg : Str → Option Value} {base : Heap} {x : Str} {st : Stmt} {N ps : List Str} {k : Nat} {sp : Sp} (D : Def K mg x st ps) (S : FnScope N ps (defScope st)) (len : ∀ vs H Q E, sp vs H Q E → vs.length = ps.length)
    (hbody : ∀ (f : Addr) (cdv : Value) (A : Around) (outer : List Env) (s : Shared) (H : Hp) (vs : List V) (Q : VK) (E : XK), Room k (A.deeper (envOfC x (defScope st) s.heap.objs.size f cdv)) → sp vs H Q E →
      ∃ t, PSs (cxOf CX0 P w K mg base N x (defScope st) f cdv A outer s H E).nox (defBody st) t ∧ t { nx := fun _ H' => Q .non H', rt := Q } (start N vs) H) : Cal P w K mg base x (k + 1) ps sp := by
  obtain ⟨f, fd, F, m, b⟩ := D.ex
  exact ⟨f, fd, F.ok S len (fun cdv A outer s H vs Q E hr h => hbody f cdv A outer s H vs Q E hr h), m, F.kp, b⟩
section
variable {X : Cx} {x : Str} {k : Nat} {ps : List Str} {sp : Sp} {p pos : Pos} {e : Expr} {es : List Expr} {t : TA}
theorem pe_cal (C : Cal X.prog X.w X.K X.mg X.base x k ps sp) (hr : Room k X.A) (ha : PA X (e :: es) t) (hg : Gl X x := by rfl) (hdb : (x == ("__debug__" : Str)) = false := by decide)
    (he : starEach (e :: es) X.env = (false, eval e X.env) :: starEach es X.env := by rfl) (hpl : (backTo pos (starEach es X.env)).any (·.1) = false := by rfl) : PE X (.Call (.Name x p) (e :: es) [] pos) (tCall sp [] E0 t) := by
  obtain ⟨f, fd, F, m, kp, b⟩ := C.ex
  exact pe_call F hr hg m kp b .nil pass0 ha hdb he hpl
theorem pe_cal0 (C : Cal X.prog X.w X.K X.mg X.base x k ps sp) (hr : Room k X.A) (hg : Gl X x := by rfl) (hdb : (x == ("__debug__" : Str)) = false := by decide) : PE X (.Call (.Name x p) [] [] pos) (tCall sp [] E0 tNil) := by
  obtain ⟨f, fd, F, m, kp, b⟩ := C.ex
  exact pe_call0 F hr hg m kp b .nil pass0 hdb
end
theorem same_new {H : Hp} {p : Addr} (h : H p = none) (o : HO) : Same H (upd H p o) := fun b u q => by rw [upd_ne (ne_of_none q h)]; exact q
end Fn

/-! ### comprehensions that keep what was tracked -/
namespace Fn
open PySem PySem.Spec PyProof.Rows L2
def natV (es : List Nat) : List V := es.map fun (e : Nat) => V.int (e : Int)
theorem natV_len (es : List Nat) : (natV es).length = es.length := List.length_map _
theorem natV_get {es : List Nat} {i : Nat} {v : V} (h : (natV es)[i]? = some v) : ∃ n, es[i]? = some n ∧ v = V.int (n : Int) := by
  unfold natV at h
  rw [List.getElem?_map] at h
  cases e : es[i]? with
  | none => rw [e] at h; cases h
  | some n => rw [e] at h; exact ⟨n, rfl, (Option.some.inj h).symm⟩
theorem Same.seqT {K : PySem.W.Frag} {H H' : Hp} {a : Addr} {xs : List V} (e : Same H H') (h : SqT K H a xs) : SqT K H' a xs := by
  rcases h with (h | ⟨o, h⟩) | h
  · exact .inl (.inl (e _ _ h))
  · exact .inl (.inr ⟨o, e _ _ h⟩)
  · exact .inr h
section
variable {X : Cx} {tg : Expr}
def iSeq (K : PySem.W.Frag) (tl : TE) : TI := fun σ H R => iList K tl σ H R ∨ iTup K tl σ H R
theorem pi_seq {l : Expr} {tl : TE} (hl : PE X l tl) : PI X tg l (iSeq X.K tl) := fun pins s σ H R I h => h.elim (fun h => pi_list hl pins s σ H R I h) fun h => pi_tup hl pins s σ H R I h
end
theorem same_at {H1 H : Hp} {D : Addr} {o : HO} (hD : H1 D = none) (s : Same H1 H) : Same H1 (upd H D o) := fun b u e => by
  rw [upd_ne (ne_of_none e hD)]
  exact s b u e
/-- [f(x) for x in xs], what f does being kept from what was tracked -/
theorem lc_mapL {K : PySem.W.Frag} {a : Addr} {xs ys : List V} {j : Nat} {te : TE} {vs : List Nat} {σ : L2.St} {H1 : Hp} {D : Addr} {Qd : Hp → Prop} (hD : H1 D = none) (hsq : SqL K H1 a xs) (hz : xs.length ≤ sizeLine) (hl : ys.length = xs.length)
    (hw : ∀ v, wipe ((wipe σ vs).set j (some v)) vs = wipe σ vs)
    (hs : ∀ (i : Nat) (x y : V) (H2 : Hp) (k : VK), xs[i]? = some x → ys[i]? = some y → Same H1 H2 → (∀ H4, Same H2 H4 → k y H4) → te ((wipe σ vs).set j (some x)) H2 k)
    (hd : ∀ H2, Same H1 H2 → H2 D = some (.lst ys) → Qd H2) :
    ∃ W : Nat → Nat → Hp → Prop, (∃ m, W 0 m (upd H1 D (.lst []))) ∧ ∀ i m H, W i m H →
      ((Itl K a).stop i H ∧ Qd H) ∨ ((Itl K a).go i H ∧ ∃ Nx : Hp → Prop, (∀ H', Nx H' → ∃ m', m' < m ∧ W (i + 1) m' H') ∧ ∀ x H', (Itl K a).yld i H x H' → gName j x (wipe σ vs) H' fun σ2 H2 => wipe σ2 vs = wipe σ vs ∧ tYes σ2 H2 fun b H3 =>
        if b = true then te σ2 H3 fun y H4 => ∃ acc, H4 D = some (.lst acc) ∧ acc.length < sizeLine ∧ Nx (upd H4 D (.lst (acc ++ [y]))) else Nx H3) := by
  refine lc_list (xs := xs) (fun i H => Same H1 H ∧ H D = some (.lst (ys.take i))) ⟨same_new hD _, upd_same⟩ (fun i H _ p => p.1.seq hsq) (fun i x H hx p => ?_) (fun H p => hd H p.1 (by rw [p.2, ← hl, List.take_length]))
  have hi : i < xs.length := by
    rw [List.getElem?_eq_some_iff] at hx
    exact hx.1
  have hy : ys[i]? = some ys[i] := List.getElem?_eq_getElem (by omega)
  refine ⟨hw x, ?_⟩
  unfold tYes
  refine iteT (hs i x ys[i] H _ hx hy p.1 fun H4 s4 => ⟨_, s4 _ _ p.2, ?_, ?_, ?_⟩)
  · rw [List.length_take]; omega
  · exact same_at hD (p.1.trans s4)
  · rw [upd_same, List.take_succ, hy]; rfl
theorem lc_mapT {K : PySem.W.Frag} {a : Addr} {xs ys : List V} {j : Nat} {te : TE} {vs : List Nat} {σ : L2.St} {H1 : Hp} {D : Addr} {Qd : Hp → Prop} (hD : H1 D = none) (hsq : SqT K H1 a xs) (hz : xs.length ≤ sizeLine) (hl : ys.length = xs.length)
    (hw : ∀ v, wipe ((wipe σ vs).set j (some v)) vs = wipe σ vs)
    (hs : ∀ (i : Nat) (x y : V) (H2 : Hp) (k : VK), xs[i]? = some x → ys[i]? = some y → Same H1 H2 → (∀ H4, Same H2 H4 → k y H4) → te ((wipe σ vs).set j (some x)) H2 k)
    (hd : ∀ H2, Same H1 H2 → H2 D = some (.lst ys) → Qd H2) :
    ∃ W : Nat → Nat → Hp → Prop, (∃ m, W 0 m (upd H1 D (.lst []))) ∧ ∀ i m H, W i m H →
      ((Itt K a).stop i H ∧ Qd H) ∨ ((Itt K a).go i H ∧ ∃ Nx : Hp → Prop, (∀ H', Nx H' → ∃ m', m' < m ∧ W (i + 1) m' H') ∧ ∀ x H', (Itt K a).yld i H x H' → gName j x (wipe σ vs) H' fun σ2 H2 => wipe σ2 vs = wipe σ vs ∧ tYes σ2 H2 fun b H3 =>
        if b = true then te σ2 H3 fun y H4 => ∃ acc, H4 D = some (.lst acc) ∧ acc.length < sizeLine ∧ Nx (upd H4 D (.lst (acc ++ [y]))) else Nx H3) := by
  refine lc_tup (xs := xs) (fun i H => Same H1 H ∧ H D = some (.lst (ys.take i))) ⟨same_new hD _, upd_same⟩ (fun i H _ p => Same.seqT p.1 hsq) (fun i x H hx p => ?_) (fun H p => hd H p.1 (by rw [p.2, ← hl, List.take_length]))
  have hi : i < xs.length := by
    rw [List.getElem?_eq_some_iff] at hx
    exact hx.1
  have hy : ys[i]? = some ys[i] := List.getElem?_eq_getElem (by omega)
  refine ⟨hw x, ?_⟩
  unfold tYes
  refine iteT (hs i x ys[i] H _ hx hy p.1 fun H4 s4 => ⟨_, s4 _ _ p.2, ?_, ?_, ?_⟩)
  · rw [List.length_take]; omega
  · exact same_at hD (p.1.trans s4)
  · rw [upd_same, List.take_succ, hy]; rfl
end Fn
namespace Fn
open PySem PySem.Spec PyProof.Rows L2
theorem getD_some {us : List Nat} {i : Nat} (h : i < us.length) : us[i]? = some (us.getD i 0) := by
  rw [List.getElem?_eq_getElem h]
  simp [List.getD, h]
/-- a row as it is told -/
def tells (es : List Nat) : List Int := es.map fun (e : Nat) => Tb.tell (Sg43.S.num e)
theorem tells_len (us : List Nat) : (tells us).length = us.length := List.length_map _
end Fn
namespace Fn
open PySem PySem.Spec PyProof.Rows L2
end Fn

/-! ### the attachment of a specification: arguments that are lists of whole numbers, the answer a new list of whole numbers -/
namespace At
open PySem PySem.W PySem.Calls PyProof.Rows
open L2 hiding dec_int

/-- a list of values lies at b, as it was laid for the call -/
def Lst (h : Heap) (b : Addr) (xs : List V) : Prop := ∃ vs : List Value, h.get? b = some { cls := .type "list", data := .seq vs.toArray } ∧ Vals xs vs ∧ xs.length ≤ sizeLine
theorem Lst.inj {h : Heap} {b : Addr} {xs ys : List V} (p : Lst h b xs) (q : Lst h b ys) : xs = ys := by
  obtain ⟨vs, e, r, _⟩ := p
  obtain ⟨us, e', r', _⟩ := q
  rw [e] at e'
  have z : vs.toArray = us.toArray := by
    have z1 := congrArg (fun o : Option Obj => o.map (·.data)) e'
    simp at z1
    simp [z1]
  have z2 : vs = us := by simpa using congrArg Array.toList z
  subst z2
  exact Vals.inj r r'
open Classical in
noncomputable def trk (K : PySem.W.Frag) (h : Heap) (T : Addr → Prop) : Hp := fun b =>
  if c : K.lookup b = none ∧ T b ∧ ∃ xs, Lst h b xs then some (.frz { cls := .type "list", data := .seq (c.2.2.choose_spec.choose).toArray } (.lst c.2.2.choose)) else none
theorem trk_some {K : PySem.W.Frag} {h : Heap} {T : Addr → Prop} {b : Addr} {u : HO} (e : trk K h T b = some u) :
    ∃ (vs : List Value) (xs : List V), u = .frz { cls := .type "list", data := .seq vs.toArray } (.lst xs) ∧ h.get? b = some { cls := .type "list", data := .seq vs.toArray } ∧ Vals xs vs ∧ xs.length ≤ sizeLine ∧ K.lookup b = none := by
  unfold trk at e
  by_cases c : K.lookup b = none ∧ T b ∧ ∃ xs, Lst h b xs
  · rw [dif_pos c] at e
    cases e
    have s := c.2.2.choose_spec.choose_spec
    exact ⟨_, _, rfl, s.1, s.2.1, s.2.2, c.1⟩
  · rw [dif_neg c] at e
    cases e
theorem trk_at {K : PySem.W.Frag} {h : Heap} {T : Addr → Prop} {b : Addr} {xs : List V} (k : K.lookup b = none) (t : T b) (l : Lst h b xs) : ∃ o, trk K h T b = some (.frz o (.lst xs)) := by
  have c : K.lookup b = none ∧ T b ∧ ∃ xs, Lst h b xs := ⟨k, t, xs, l⟩
  unfold trk
  rw [dif_pos c]
  have e : c.2.2.choose = xs := Lst.inj c.2.2.choose_spec l
  exact ⟨_, congrArg (fun z => some (HO.frz _ (HO.lst z))) e⟩
theorem trk_sq {K : PySem.W.Frag} {h : Heap} {T : Addr → Prop} {b : Addr} {xs : List V} (KX : K.In h) (t : T b) (l : Lst h b xs) : SqL K (trk K h T) b xs := by
  cases hk : K.lookup b with
  | none =>
    obtain ⟨o, e⟩ := trk_at hk t l
    exact .inl (.inr ⟨o, e⟩)
  | some o =>
    obtain ⟨vs, e, r, z⟩ := l
    have e2 := KX b o hk
    rw [e] at e2
    cases e2
    exact .inr ⟨_, vs.toArray, _, hk, rfl, rfl, rfl, by rw [List.size_toArray, ← r.length]; exact z, by simpa using r⟩

/-- a def's promise, at the heap behind the top, its arguments frozen -/
theorem spec_call {P : Program} {w : World} {K : PySem.W.Frag} {mg mb : Str → Option Value} {k : Nat} {fa : Addr} {fd : FuncData} {ps : List Str} {sp : Sp} {s₁ : Shared} {T : Addr → Prop} {vals : List Value} {vs : List V} {Q : VK}
    (KX : K.In s₁.heap) (hns : s₁.heap.Ns mainGlobals mg) (hb : s₁.heap.Ns builtinsNs mb) (hbb : ∀ x : Str, x ≠ "__name__" → mb x = bootBuiltins x) (hlim : s₁.heap.NoLimit) (hg : s₁.gens = #[]) (hr : Room k callerA)
    (F : ∀ base : Heap, K.In base → base.Ns mainGlobals mg → FnOk P w K mg base CX0 k fa fd ps sp) (hbind : BindsTo s₁ fd ⟨vals, []⟩ (ps.zip vals)) (hv : Vals vs vals)
    (hsp : sp vs (trk K s₁.heap T) Q E0) :
    codeAny (model P w) callerA (.call (.ref fa) ⟨vals, []⟩) (fun r s' => ∃ u v H', r = .ok (.ret u) ∧ RelV v u ∧ HOk P w H' s'.heap ∧ Q v H' ∧ OldK s₁.heap s'.heap ∧ s'.os = s₁.os ∧ AllBare s'.gens) s₁ := by
  have hok : HOk P w (trk K s₁.heap T) s₁.heap := fun b u e => by
    obtain ⟨us, xs, rfl, e1, r, z, _⟩ := trk_some e
    exact ⟨e1, z, us, _, r, e1⟩
  have base_of : ∀ {b : Addr} {o : Obj}, s₁.heap.get? b = some o → trk K s₁.heap T b = none → (hidT s₁.heap (trk K s₁.heap T)).get? b = some o := fun e n => hidT_get e n
  have noA : ∀ {b : Addr} {o : Obj} {es : Array DictEntry} {ep : Nat}, s₁.heap.get? b = some o → o.data = .dict es ep → trk K s₁.heap T b = none := fun {b o es ep} e d => by
    cases q : trk K s₁.heap T b with
    | none => rfl
    | some u =>
      obtain ⟨us, xs, _, e1, _⟩ := trk_some q
      rw [e1] at e
      cases e
      have d' : Data.seq us.toArray _ = Data.dict es ep := d
      cases d'
  have nsK : ∀ {b : Addr} {m : Str → Option Value}, s₁.heap.Ns b m → (hidT s₁.heap (trk K s₁.heap T)).Ns b m := fun {b m} ⟨o, es, ep, e, d, r⟩ => ⟨o, es, ep, base_of e (noA e d), d, r⟩
  have hKb : K.In (hidT s₁.heap (trk K s₁.heap T)) := fun b o e => base_of (KX b o e) (by
    cases q : trk K s₁.heap T b with
    | none => rfl
    | some u =>
      obtain ⟨us, xs, _, _, _, _, e1⟩ := trk_some q
      rw [e1] at e
      cases e)
  have hM : Mod K mg (hidT s₁.heap (trk K s₁.heap T)) := ⟨hKb, nsK hns, ⟨mb, nsK hb, hbb⟩, let ⟨mc, h1, h2⟩ := hlim; ⟨mc, nsK h1, h2⟩⟩
  have e0 : Env0 P w K mg (hidT s₁.heap (trk K s₁.heap T)) callerA [] s₁ (trk K s₁.heap T) := ⟨rfl, hM, fun b o e => of_hidT e, Nat.le_of_eq (hidT_size _ _), trivial, fun b hb => absurd (show b ∈ ([] : List Addr) from hb) (by simp), hok, .of_eq hg⟩
  refine codeAny_mono ((F _ hKb (nsK hns)).run callerA [] s₁ (trk K s₁.heap T) ⟨vals, []⟩ vals vs _ _ hr e0 hbind hv hsp) fun r s' h => ?_
  cases r with
  | error e => exact False.elim h
  | ok fl =>
    cases fl with
    | next => exact False.elim h
    | brk => exact False.elim h
    | cont => exact False.elim h
    | ret u =>
      obtain ⟨v, H', os, bare, un, hok', r', q⟩ := h
      refine ⟨u, v, H', rfl, r', hok', q, OldK.of_keep fun b o e => ?_, os, bare⟩
      cases z : trk K s₁.heap T b with
      | none => exact un.keep b o e z (by intro z; exact absurd (show b ∈ ([] : List Addr) from z) (by simp)) (by simp)
      | some u =>
        obtain ⟨us, xs, rfl, e1, _⟩ := trk_some z
        have z2 := un.frzs b _ _ z
        obtain ⟨e2, _⟩ := hok' b _ z2
        rw [e1] at e
        cases e
        exact e2

theorem reads_ints {R : WRecords} {cl : Str → Option Addr} {h : Heap} : ∀ {ns : List Int} {its : List Value}, Vals (ns.map V.int) its → ReadsAllW R cl h its (ns.map WData.int) []
  | [], _, r => by
    cases r
    exact .nil
  | n :: ns, _, r => by
    rw [List.map_cons] at r
    cases r with
    | cons r1 r2 =>
      obtain ⟨t, rfl⟩ := r1
      exact ReadsAllW.cons (as := []) (bs := []) (.int n t) (reads_ints r2)
theorem well_ints {P : Params} {h : Heap} : ∀ {ns : List Int} {vs : List Value}, WellAll P h vs (ns.map WData.int) → Vals (ns.map V.int) vs
  | [], vs, w => by
    rw [List.map_nil] at w
    cases w
    exact .nil
  | n :: ns, vs, w => by
    rw [List.map_cons] at w
    cases w with
    | cons a b =>
      cases a
      exact .cons ⟨_, rfl⟩ (well_ints b)
/-- the arguments' lists, one beside the other -/
inductive Lay (h : Heap) : List Addr → List (List Int) → List Value → Prop
  | nil : Lay h [] [] []
  | cons {a : Addr} {ns : List Int} {as : List Addr} {lss : List (List Int)} {us : List Value} : Lst h a (ns.map V.int) → Lay h as lss us → Lay h (a :: as) (ns :: lss) (.ref a :: us)
def enc1 (ns : List Int) : WData := WData.list (ns.map WData.int)
theorem lay_of {P : Params} {h : Heap} : ∀ {lss : List (List Int)} {vals : List Value}, (∀ ns ∈ lss, ns.length ≤ sizeLine) → WellAll P h vals (lss.map enc1) → ∃ as, Lay h as lss vals
  | [], vals, _, w => by
    rw [List.map_nil] at w
    cases w
    exact ⟨[], .nil⟩
  | ns :: lss, vals, hz, w => by
    rw [List.map_cons] at w
    cases w with
    | cons a b =>
      obtain ⟨as, L⟩ := lay_of (fun m hm => hz m (List.mem_cons_of_mem _ hm)) b
      unfold enc1 at a
      cases a with
      | list ho hall => exact ⟨_ :: as, .cons ⟨_, ho, well_ints hall, by rw [List.length_map]; exact hz ns List.mem_cons_self⟩ L⟩
theorem Lay.vals {h : Heap} : ∀ {as : List Addr} {lss : List (List Int)} {us : List Value}, Lay h as lss us → Vals (as.map V.ref) us
  | _, _, _, .nil => .nil
  | _, _, _, .cons _ L => .cons rfl L.vals
theorem Lay.len {h : Heap} : ∀ {as : List Addr} {lss : List (List Int)} {us : List Value}, Lay h as lss us → as.length = lss.length ∧ us.length = lss.length
  | _, _, _, .nil => ⟨rfl, rfl⟩
  | _, _, _, .cons _ L => ⟨congrArg (· + 1) L.len.1, congrArg (· + 1) L.len.2⟩
/-- .. as the def reads them -/
inductive Args (K : PySem.W.Frag) (H : Hp) : List Addr → List (List Int) → Prop
  | nil : Args K H [] []
  | cons {a : Addr} {ns : List Int} {as : List Addr} {lss : List (List Int)} : SqL K H a (ns.map V.int) → Args K H as lss → Args K H (a :: as) (ns :: lss)
theorem Lay.args {K : PySem.W.Frag} {h : Heap} {T : Addr → Prop} (KX : K.In h) : ∀ {as : List Addr} {lss : List (List Int)} {us : List Value}, (∀ a ∈ as, T a) → Lay h as lss us → Args K (trk K h T) as lss
  | _, _, _, _, .nil => .nil
  | _, _, _, t, .cons l L => .cons (trk_sq KX (t _ List.mem_cons_self) l) (L.args KX fun a ha => t a (List.mem_cons_of_mem _ ha))

end At

/-! ### methods and instances, each by its name; a list of lists as the argument -/
namespace Fn
open PySem PySem.Spec PyProof.Rows L2
structure Dfm (K : PySem.W.Frag) (C : Addr) (m qual : Str) (st : Stmt) (ps : List Str) : Prop where
  ex : ∃ (f : Addr) (fd : FuncData), Fun K m qual st f fd ∧ Meth K C m f ∧ Binds K fd ps [] ∧ Cls K C
structure Mth (P : Program) (w : World) (K : PySem.W.Frag) (mg : Str → Option Value) (base : Heap) (C : Addr) (m : Str) (k : Nat) (ps : List Str) (sp : Sp) : Prop where
  ex : ∃ (f : Addr) (fd : FuncData), FnOk P w K mg base CX0 k f fd ps sp ∧ Meth K C m f ∧ Binds K fd ps [] ∧ Cls K C
theorem Dfm.mth {P : Program} {w : World} {K : PySem.W.Frag} {mg : Str → Option Value} {base : Heap} {C : Addr} {m qual : Str} {st : Stmt} {N ps : List Str} {k : Nat} {sp : Sp} (D : Dfm K C m qual st ps) (S : FnScope N ps (defScope st)) (len : ∀ vs H Q E, sp vs H Q E → vs.length = ps.length)
    (hbody : ∀ (f : Addr) (cdv : Value) (A : Around) (outer : List Env) (s : Shared) (H : Hp) (vs : List V) (Q : VK) (E : XK), Room k (A.deeper (envOfC qual (defScope st) s.heap.objs.size f cdv)) → sp vs H Q E →
      ∃ t, PSs (cxOf CX0 P w K mg base N qual (defScope st) f cdv A outer s H E).nox (defBody st) t ∧ t { nx := fun _ H' => Q .non H', rt := Q } (start N vs) H) : Mth P w K mg base C m (k + 1) ps sp := by
  obtain ⟨f, fd, F, mt, b, c⟩ := D.ex
  exact ⟨f, fd, F.ok S len (fun cdv A outer s H vs Q E hr h => hbody f cdv A outer s H vs Q E hr h), mt, b, c⟩
structure Dfi (K : PySem.W.Frag) (mg : Str → Option Value) (x : Str) (C : Addr) (m qual : Str) (st : Stmt) (ps : List Str) : Prop where
  ex : ∃ (f : Addr) (fd : FuncData), Fun K m qual st f fd ∧ Mk K C f ∧ Binds K fd ps [] ∧ mg x = some (.ref C)
structure Mkr (P : Program) (w : World) (K : PySem.W.Frag) (mg : Str → Option Value) (base : Heap) (x : Str) (C : Addr) (k : Nat) (ps : List Str) (sp : Sp) : Prop where
  ex : ∃ (f : Addr) (fd : FuncData), FnOk P w K mg base CX0 k f fd ps sp ∧ Mk K C f ∧ Binds K fd ps [] ∧ mg x = some (.ref C)
theorem Dfi.mkr {P : Program} {w : World} {K : PySem.W.Frag} {mg : Str → Option Value} {base : Heap} {x : Str} {C : Addr} {m qual : Str} {st : Stmt} {N ps : List Str} {k : Nat} {sp : Sp} (D : Dfi K mg x C m qual st ps) (S : FnScope N ps (defScope st)) (len : ∀ vs H Q E, sp vs H Q E → vs.length = ps.length)
    (hbody : ∀ (f : Addr) (cdv : Value) (A : Around) (outer : List Env) (s : Shared) (H : Hp) (vs : List V) (Q : VK) (E : XK), Room k (A.deeper (envOfC qual (defScope st) s.heap.objs.size f cdv)) → sp vs H Q E →
      ∃ t, PSs (cxOf CX0 P w K mg base N qual (defScope st) f cdv A outer s H E).nox (defBody st) t ∧ t { nx := fun _ H' => Q .non H', rt := Q } (start N vs) H) : Mkr P w K mg base x C (k + 1) ps sp := by
  obtain ⟨f, fd, F, mk, b, c⟩ := D.ex
  exact ⟨f, fd, F.ok S len (fun cdv A outer s H vs Q E hr h => hbody f cdv A outer s H vs Q E hr h), mk, b, c⟩
section
variable {X : Cx} {C : Addr} {m x : Str} {k : Nat} {ps : List Str} {sp : Sp} {p pos apos : Pos} {o e : Expr} {es : List Expr} {t : TA} {ta : TE} {pl : Sem Bool}
theorem pe_mth0 (M : Mth X.prog X.w X.K X.mg X.base C m k ps sp) (hr : Room k X.A) (he : PE X o ta)
    (ht : eval (.Call (.Attribute o m apos) [] [] pos) X.env = (do
      let ov ← eval o X.env
      standAt apos.atName
      let (f, first) ← holding [ov] (getMethod ov m pl)
      callWith pos f first (backTo pos (starEach [] X.env)) (backToKw pos (keywordEach [] X.env))) := by rfl) : PE X (.Call (.Attribute o m apos) [] [] pos) (tMeth C m sp [] E0 ta tNil) := by
  obtain ⟨f, fd, F, mt, b, c⟩ := M.ex
  exact pe_meth0 (pl := pl) he c mt F hr b .nil pass0 ht
theorem pe_mth (M : Mth X.prog X.w X.K X.mg X.base C m k ps sp) (hr : Room k X.A) (he : PE X o ta) (ha : PA X (e :: es) t)
    (hst : starEach (e :: es) X.env = (false, eval e X.env) :: starEach es X.env := by rfl) (hpl : (backTo pos (starEach es X.env)).any (·.1) = false := by rfl)
    (ht : eval (.Call (.Attribute o m apos) (e :: es) [] pos) X.env = (do
      let ov ← eval o X.env
      standAt apos.atName
      let (f, first) ← holding [ov] (getMethod ov m pl)
      callWith pos f first (backTo pos (starEach (e :: es) X.env)) (backToKw pos (keywordEach [] X.env))) := by rfl) : PE X (.Call (.Attribute o m apos) (e :: es) [] pos) (tMeth C m sp [] E0 ta t) := by
  obtain ⟨f, fd, F, mt, b, c⟩ := M.ex
  exact pe_meth (pl := pl) he c mt F hr b .nil pass0 ha hst hpl ht
theorem pe_new (M : Mkr X.prog X.w X.K X.mg X.base x C k ps sp) (hr : Room (k + 1) X.A) (hg : Gl X x := by rfl) (hdb : (x == ("__debug__" : Str)) = false := by decide) : PE X (.Call (.Name x p) [] [] pos) (tMake C sp [] E0 tNil) := by
  obtain ⟨f, fd, F, mk, b, c⟩ := M.ex
  exact pe_make0 mk F hr hg c b .nil pass0 hdb
end
end Fn
namespace At
open PySem PySem.W PySem.Calls PyProof.Rows
open L2 hiding dec_int
theorem Lay.each {h : Heap} : ∀ {as : List Addr} {lss : List (List Int)} {us : List Value}, Lay h as lss us → ∀ a ∈ as, ∃ xs, Lst h a xs
  | _, _, _, .nil, _, m => by simp at m
  | _, _, _, .cons l L, a, m => by
    rcases List.mem_cons.mp m with e | m
    · rw [e]; exact ⟨_, l⟩
    · exact L.each a m
/-- the head's last goal, the argument a list of lists of whole numbers -/
theorem walk_nest {r : OpenSpec} {q : Program} {loose : List Str} {XP : (Str → Option Value) → Heap → Prop} {YP : World → Heap → Prop} {d : DefRec} {K : Params → PySem.W.Frag} {k : Nat} {x : Str} {sp : PySem.W.Frag → Sp}
    (hdf : d.params.defaults = []) (hr : Room k callerA) (hY : ∀ (w : World) (h : Heap), YP w h → (K w.params).In h)
    (F : ∀ (w : World) (mg : Str → Option Value) (fa : Addr) (h : Heap), (K w.params).In h → h.Ns mainGlobals mg → mg d.name = some (.ref fa) →
      ∃ fd : FuncData, (∀ (s : Shared) (us : List Value), us.length = 1 → BindsTo s fd ⟨us, []⟩ (([x] : List Str).zip us)) ∧ ∀ base : Heap, (K w.params).In base → base.Ns mainGlobals mg → FnOk r.prog w (K w.params) mg base CX0 k fa fd [x] (sp (K w.params)))
    (hargs : ∀ args : List WData, r.pre args = true → ∃ lss : List (List Int), args = [WData.list (lss.map enc1)] ∧ lss.length ≤ sizeLine ∧ (∀ ns ∈ lss, ns.length ≤ sizeLine) ∧
      ∀ (K : PySem.W.Frag) (H : Hp) (a : Addr) (as : List Addr), SqL K H a (as.map V.ref) → Args K H as lss → sp K [V.ref a] H (fun v H' => ∃ (p : Addr) (ans : List Int), v = .ref p ∧ H' p = some (.lst (ans.map V.int)) ∧ r.post args (enc1 ans) = true) E0) :
    WalkOS q loose XP YP r d [] (fun f vs => PySem.call f vs) := by
  intro w s₀ s₁ mg mb G Y fa o pm cd doc dV kV ho hd hcd hD hmg hg args vals as hpre hlay hrd hwl hlo
  have KX := hY w _ Y
  obtain ⟨fd, hb, hF⟩ := F w mg fa _ KX G.T.g hmg
  obtain ⟨lss, rfl, hlen, hz, hS⟩ := hargs args hpre
  cases hwl with
  | cons w1 w2 =>
    cases w2
    cases w1 with
    | @list a vs _ ho2 hall =>
      obtain ⟨bs, L⟩ := lay_of hz hall
      have La : Lst s₁.heap a (bs.map V.ref) := ⟨_, ho2, L.vals, by rw [List.length_map, L.len.1]; exact hlen⟩
      have A1 : SqL (K w.params) (trk (K w.params) s₁.heap fun b => b = a ∨ b ∈ bs) a (bs.map V.ref) := trk_sq KX (.inl rfl) La
      have A2 := L.args (T := fun b => b = a ∨ b ∈ bs) KX fun b hb => .inr hb
      refine enter_call (codeAny_mono (spec_call (T := fun b => b = a ∨ b ∈ bs) (vals := [.ref a]) (vs := [V.ref a]) KX G.T.g G.T.b G.T.builtins G.T.nolimit hg hr hF (hb s₁ _ rfl) (.cons rfl .nil) (hS _ _ a bs A1 A2)) fun res s' hq => ?_)
      obtain ⟨u, v, H', rfl, rv, hok, ⟨p, ans, rfl, hp, hpost⟩, hold, hos, hbare⟩ := hq
      cases rv
      obtain ⟨z, its, n, rr, e⟩ : (ans.map V.int).length ≤ sizeLine ∧ ∃ (its : List Value) (n : Nat), Vals (ans.map V.int) its ∧ s'.heap.get? p = some { cls := .type "list", data := .seq its.toArray n } := hok p _ hp
      refine ⟨.inl ⟨.ref p, enc1 ans, _, rfl, osNone, .list e rfl rfl (by simpa using reads_ints rr), osPost hpost, fun h => absurd h Bool.false_ne_true⟩, hold, hos, hbare⟩
end At

namespace Fn
open PySem PySem.W L2
theorem num2 {m : Int} (h : 0 ≤ m ∧ m ≤ 4294967295) : ∃ k : Nat, m = (k : Int) ∧ k < 2 * Sg43.S.sign := ⟨m.toNat, by omega, by
  have : Sg43.S.sign = 2147483648 := by decide
  omega⟩
theorem in_list {least most : Nat} {lo hi : Int} {l : List Int} (h : Codec.inList least most (Codec.inInt lo hi) l = true) : least ≤ l.length ∧ l.length ≤ most ∧ ∀ x ∈ l, lo ≤ x ∧ x ≤ hi := by
  have k := Codec.and_of (show (Codec.inLen least most l && l.all (Codec.inInt lo hi)) = true from h)
  have k1 := Codec.inNat_iff.mp k.1
  exact ⟨k1.1, k1.2, fun x hx => Codec.inInt_iff.mp (List.all_eq_true.mp k.2 x hx)⟩
end Fn
namespace Fn
open PySem PySem.W L2
theorem nats_of : ∀ {l : List Int}, (∀ x ∈ l, (0 : Int) ≤ x ∧ x ≤ 4294967295) → ∃ es : List Nat, l = es.map (fun (e : Nat) => (e : Int)) ∧ ∀ e ∈ es, e < 2 * Sg43.S.sign
  | [], _ => ⟨[], rfl, fun e h => by simp at h⟩
  | x :: r, h => by
    obtain ⟨es, e1, h1⟩ := nats_of (l := r) (fun y hy => h y (List.mem_cons_of_mem _ hy))
    obtain ⟨k, e2, h2⟩ := num2 (h x List.mem_cons_self)
    refine ⟨k :: es, by rw [e1, e2]; rfl, fun e he => ?_⟩
    rcases List.mem_cons.mp he with q | q
    · rw [q]; exact h2
    · exact h1 e q
end Fn
namespace Fn
open PySem PySem.W L2
end Fn

namespace Fn
open PySem PySem.Spec PyProof.Rows L2
open Tb (told1 flat)
def top (i : Nat) : Stmt := PySem.Challenge.pw_tonebench_s15_voices.main.body.getD i (.Pass ⟨0, 0, 0, 0⟩)
abbrev s_magnitude : Stmt := top 7
theorem sc_magnitude : FnScope ["form", "x"] ["form", "x"] (defScope s_magnitude) := ⟨rfl, rfl, rfl, by decide +kernel, rfl, by decide +kernel, by decide +kernel⟩
abbrev s_negated : Stmt := top 8
theorem sc_negated : FnScope ["form", "x"] ["form", "x"] (defScope s_negated) := ⟨rfl, rfl, rfl, by decide +kernel, rfl, by decide +kernel, by decide +kernel⟩
abbrev s_is_no_number : Stmt := top 9
theorem sc_is_no_number : FnScope ["form", "x"] ["form", "x"] (defScope s_is_no_number) := ⟨rfl, rfl, rfl, by decide +kernel, rfl, by decide +kernel, by decide +kernel⟩
abbrev s_is_infinite : Stmt := top 10
theorem sc_is_infinite : FnScope ["form", "x"] ["form", "x"] (defScope s_is_infinite) := ⟨rfl, rfl, rfl, by decide +kernel, rfl, by decide +kernel, by decide +kernel⟩
abbrev s_is_finite : Stmt := top 11
theorem sc_is_finite : FnScope ["form", "x"] ["form", "x"] (defScope s_is_finite) := ⟨rfl, rfl, rfl, by decide +kernel, rfl, by decide +kernel, by decide +kernel⟩
abbrev s_no_number : Stmt := top 12
theorem sc_no_number : FnScope ["form"] ["form"] (defScope s_no_number) := ⟨rfl, rfl, rfl, by decide +kernel, rfl, by decide +kernel, by decide +kernel⟩
abbrev s_told : Stmt := top 13
theorem sc_told : FnScope ["form", "x"] ["form", "x"] (defScope s_told) := ⟨rfl, rfl, rfl, by decide +kernel, rfl, by decide +kernel, by decide +kernel⟩
abbrev s_digits : Stmt := top 14
theorem sc_digits : FnScope ["form", "x", "hidden", "m"] ["form", "x"] (defScope s_digits) := ⟨rfl, rfl, rfl, by decide +kernel, rfl, by decide +kernel, by decide +kernel⟩
abbrev s_exponent : Stmt := top 15
theorem sc_exponent : FnScope ["form", "x", "field"] ["form", "x"] (defScope s_exponent) := ⟨rfl, rfl, rfl, by decide +kernel, rfl, by decide +kernel, by decide +kernel⟩
abbrev s_shifted : Stmt := top 16
theorem sc_shifted : FnScope ["m", "k", "kept", "rest", "half"] ["m", "k"] (defScope s_shifted) := ⟨rfl, rfl, rfl, by decide +kernel, rfl, by decide +kernel, by decide +kernel⟩
abbrev s_rounded : Stmt := top 17
theorem sc_rounded : FnScope ["form", "m", "e", "zero", "size", "last", "kept", "bits"] ["form", "m", "e", "zero"] (defScope s_rounded) := ⟨rfl, rfl, rfl, by decide +kernel, rfl, by decide +kernel, by decide +kernel⟩
abbrev s_finite_fma : Stmt := top 18
theorem sc_finite_fma : FnScope ["form", "x", "y", "z", "product", "e", "low", "last", "total"] ["form", "x", "y", "z"] (defScope s_finite_fma) := ⟨rfl, rfl, rfl, by decide +kernel, rfl, by decide +kernel, by decide +kernel⟩
abbrev s_infinite_fma : Stmt := top 19
theorem sc_infinite_fma : FnScope ["form", "x", "y", "z", "product", "zero_times"] ["form", "x", "y", "z"] (defScope s_infinite_fma) := ⟨rfl, rfl, rfl, by decide +kernel, rfl, by decide +kernel, by decide +kernel⟩
abbrev s_fma : Stmt := top 20
theorem sc_fma : FnScope ["form", "x", "y", "z"] ["form", "x", "y", "z"] (defScope s_fma) := ⟨rfl, rfl, rfl, by decide +kernel, rfl, by decide +kernel, by decide +kernel⟩
abbrev s_fms : Stmt := top 21
theorem sc_fms : FnScope ["form", "x", "y", "z"] ["form", "x", "y", "z"] (defScope s_fms) := ⟨rfl, rfl, rfl, by decide +kernel, rfl, by decide +kernel, by decide +kernel⟩
abbrev s_fnma : Stmt := top 22
theorem sc_fnma : FnScope ["form", "x", "y", "z"] ["form", "x", "y", "z"] (defScope s_fnma) := ⟨rfl, rfl, rfl, by decide +kernel, rfl, by decide +kernel, by decide +kernel⟩
abbrev s_multiply : Stmt := top 23
theorem sc_multiply : FnScope ["form", "x", "y"] ["form", "x", "y"] (defScope s_multiply) := ⟨rfl, rfl, rfl, by decide +kernel, rfl, by decide +kernel, by decide +kernel⟩
abbrev s_add : Stmt := top 24
theorem sc_add : FnScope ["form", "x", "y"] ["form", "x", "y"] (defScope s_add) := ⟨rfl, rfl, rfl, by decide +kernel, rfl, by decide +kernel, by decide +kernel⟩
abbrev s_subtract : Stmt := top 25
theorem sc_subtract : FnScope ["form", "x", "y"] ["form", "x", "y"] (defScope s_subtract) := ⟨rfl, rfl, rfl, by decide +kernel, rfl, by decide +kernel, by decide +kernel⟩
abbrev s_order : Stmt := top 26
theorem sc_order : FnScope ["form", "x"] ["form", "x"] (defScope s_order) := ⟨rfl, rfl, rfl, by decide +kernel, rfl, by decide +kernel, by decide +kernel⟩
abbrev s_are_numbers : Stmt := top 27
theorem sc_are_numbers : FnScope ["form", "x", "y"] ["form", "x", "y"] (defScope s_are_numbers) := ⟨rfl, rfl, rfl, by decide +kernel, rfl, by decide +kernel, by decide +kernel⟩
abbrev s_not_less : Stmt := top 28
theorem sc_not_less : FnScope ["form", "x", "y"] ["form", "x", "y"] (defScope s_not_less) := ⟨rfl, rfl, rfl, by decide +kernel, rfl, by decide +kernel, by decide +kernel⟩
abbrev s_turned : Stmt := top 30
theorem sc_turned : FnScope ["turning", "c", "s", "a", "b"] ["turning", "c", "s"] (defScope s_turned) := ⟨rfl, rfl, rfl, by decide +kernel, rfl, by decide +kernel, by decide +kernel⟩
abbrev s_next_height : Stmt := top 31
theorem sc_next_height : FnScope ["slopes", "stage", "v", "risen", "fallen", "fading"] ["slopes", "stage", "v"] (defScope s_next_height) := ⟨rfl, rfl, rfl, by decide +kernel, rfl, by decide +kernel, by decide +kernel⟩
abbrev s_through_filter : Stmt := top 32
theorem sc_through_filter : FnScope ["factors", "z1", "z2", "x", "y"] ["factors", "z1", "z2", "x"] (defScope s_through_filter) := ⟨rfl, rfl, rfl, by decide +kernel, rfl, by decide +kernel, by decide +kernel⟩
abbrev s_Voice___init__ : Stmt := inClass (top 34) 0
theorem sc_Voice___init__ : FnScope ["self"] ["self"] (defScope s_Voice___init__) := ⟨rfl, rfl, rfl, by decide +kernel, rfl, by decide +kernel, by decide +kernel⟩
abbrev s_Voice_set_up : Stmt := inClass (top 34) 1
theorem sc_Voice_set_up : FnScope ["self", "numbers"] ["self", "numbers"] (defScope s_Voice_set_up) := ⟨rfl, rfl, rfl, by decide +kernel, rfl, by decide +kernel, by decide +kernel⟩
abbrev s_Voice_rest : Stmt := inClass (top 34) 2
theorem sc_Voice_rest : FnScope ["self", "stage"] ["self", "stage"] (defScope s_Voice_rest) := ⟨rfl, rfl, rfl, by decide +kernel, rfl, by decide +kernel, by decide +kernel⟩
abbrev s_Voice_begin : Stmt := inClass (top 34) 3
theorem sc_Voice_begin : FnScope ["self"] ["self"] (defScope s_Voice_begin) := ⟨rfl, rfl, rfl, by decide +kernel, rfl, by decide +kernel, by decide +kernel⟩
abbrev s_Voice_finish : Stmt := inClass (top 34) 4
theorem sc_Voice_finish : FnScope ["self"] ["self"] (defScope s_Voice_finish) := ⟨rfl, rfl, rfl, by decide +kernel, rfl, by decide +kernel, by decide +kernel⟩
abbrev s_Voice_sound : Stmt := inClass (top 34) 5
theorem sc_Voice_sound : FnScope ["self", "height", "x", "passed"] ["self"] (defScope s_Voice_sound) := ⟨rfl, rfl, rfl, by decide +kernel, rfl, by decide +kernel, by decide +kernel⟩
abbrev s_both_sides : Stmt := top 35
theorem sc_both_sides : FnScope ["voices", "left", "right", "voice", "y"] ["voices"] (defScope s_both_sides) := ⟨rfl, rfl, rfl, by decide +kernel, rfl, by decide +kernel, by decide +kernel⟩
abbrev s_refusal : Stmt := top 39
theorem sc_refusal : FnScope [] [] (defScope s_refusal) := ⟨rfl, rfl, rfl, by decide +kernel, rfl, by decide +kernel, by decide +kernel⟩
abbrev s_told_singles : Stmt := top 40
theorem sc_told_singles : FnScope ["row", "x"] ["row"] (defScope s_told_singles) := ⟨rfl, rfl, rfl, by decide +kernel, rfl, by decide +kernel, by decide +kernel⟩
abbrev s_played : Stmt := top 41
theorem sc_played : FnScope ["players", "n", "numbers", "place"] ["players", "n"] (defScope s_played) := ⟨rfl, rfl, rfl, by decide +kernel, rfl, by decide +kernel, by decide +kernel⟩
abbrev s_taken : Stmt := top 42
theorem sc_taken : FnScope ["players", "step", "player"] ["players", "step"] (defScope s_taken) := ⟨rfl, rfl, rfl, by decide +kernel, rfl, by decide +kernel, by decide +kernel⟩
abbrev s_voices : Stmt := top 43
theorem sc_voices : FnScope ["steps", "players", "k", "numbers", "part"] ["steps"] (defScope s_voices) := ⟨rfl, rfl, rfl, by decide +kernel, rfl, by decide +kernel, by decide +kernel⟩
/-- what the text's top has made -/
structure Txt (K : PySem.W.Frag) (mg : Str → Option Value) (pSINGLE pVoice : Addr) : Prop where
  cWIDTH : ∃ t, mg "WIDTH" = some (Value.int 0 t)
  cINFINITY : ∃ t, mg "INFINITY" = some (Value.int 1 t)
  cMINUS : ∃ t, mg "MINUS" = some (Value.int 2 t)
  cONE : ∃ t, mg "ONE" = some (Value.int 3 t)
  cDEPTH : ∃ t, mg "DEPTH" = some (Value.int 4 t)
  cMOST_PLAYED : ∃ t, mg "MOST_PLAYED" = some (Value.int 2048 t)
  cVOICES : ∃ t, mg "VOICES" = some (Value.int 8 t)
  cSINGLE : mg "SINGLE" = some (.ref pSINGLE)
  fSINGLE : Fm K pSINGLE Sg43.S
  zabs : mg "abs" = none
  zlen : mg "len" = none
  zmax : mg "max" = none
  zmin : mg "min" = none
  zrange : mg "range" = none
  clVoice : Cls K pVoice
  cVoice : mg "Voice" = some (.ref pVoice)
  n_factors : NoAttr K pVoice "factors"
  n_kept : NoAttr K pVoice "kept"
  n_left : NoAttr K pVoice "left"
  n_point : NoAttr K pVoice "point"
  n_right : NoAttr K pVoice "right"
  n_slopes : NoAttr K pVoice "slopes"
  n_stage : NoAttr K pVoice "stage"
  n_turning : NoAttr K pVoice "turning"
  n_v : NoAttr K pVoice "v"
section
variable {P : Program} {w : World} {K : PySem.W.Frag} {mg : Str → Option Value} {base : Heap} {pSINGLE pVoice : Addr}
/-! ### the arithmetic of bits: each def's promise -/
/-- the form, and three numbers' bits -/
def sp_magnitude (K : PySem.W.Frag) : Sp := fun vs H Q _ => ∃ (p : Addr) (F : Fmt) (x : Nat), vs = [.ref p, .int (x : Int)] ∧ Fm K p F ∧ x < 2 * F.sign ∧ Q (.int ((F.rest x : Nat) : Int)) H
theorem ok_magnitude (T : Txt K mg pSINGLE pVoice) (D : Def K mg "magnitude" s_magnitude ["form", "x"]) : Cal P w K mg base "magnitude" 1 ["form", "x"] (sp_magnitude K) := by
  refine D.cal sc_magnitude (fun vs H Q E h => ?_) (fun f cdv A outer s H vs Q E hr h => ?_)
  · obtain ⟨p, F, x, rfl, _⟩ := h
    rfl
  obtain ⟨p, F, x, rfl, fm, hx, q⟩ := h
  refine ⟨_, (pss_one (ps_ret (pe_op op_and (pv 1) (pe_op op_sub (pe_ix ix_tup (pv 0) (pe_cst T.cMINUS) (fun _ _ => rfl)) pe_int)))), ?_⟩
  refine ⟨_, rfl, _, rfl, p, _, _, _, rfl, rfl, fm.tup H, at2 F, _, _, rfl, rfl, _, _, rfl, rfl, ?_⟩
  show Q (V.int (Builtin.bitAnd (x : Int) ((F.sign : Int) - 1))) H
  rw [Tb.b_rest]
  exact q
def sp_negated (K : PySem.W.Frag) : Sp := fun vs H Q _ => ∃ (p : Addr) (F : Fmt) (x : Nat), vs = [.ref p, .int (x : Int)] ∧ Fm K p F ∧ x < 2 * F.sign ∧ Q (.int ((F.flip x : Nat) : Int)) H
theorem ok_negated (T : Txt K mg pSINGLE pVoice) (D : Def K mg "negated" s_negated ["form", "x"]) : Cal P w K mg base "negated" 1 ["form", "x"] (sp_negated K) := by
  refine D.cal sc_negated (fun vs H Q E h => ?_) (fun f cdv A outer s H vs Q E hr h => ?_)
  · obtain ⟨p, F, x, rfl, _⟩ := h
    rfl
  obtain ⟨p, F, x, rfl, fm, hx, q⟩ := h
  refine ⟨_, (pss_one (ps_ret (pe_op op_xor (pv 1) (pe_ix ix_tup (pv 0) (pe_cst T.cMINUS) (fun _ _ => rfl))))), ?_⟩
  refine ⟨_, rfl, _, rfl, p, _, _, _, rfl, rfl, fm.tup H, at2 F, _, _, rfl, rfl, ?_⟩
  show Q (V.int (Builtin.bitXor (x : Int) (F.sign : Int))) H
  rw [Tb.b_flip F hx]
  exact q
def sp_is_no_number (K : PySem.W.Frag) : Sp := fun vs H Q _ => ∃ (p : Addr) (F : Fmt) (x : Nat), vs = [.ref p, .int (x : Int)] ∧ Fm K p F ∧ x < 2 * F.sign ∧ Q (.bl (decide (F.inf < F.rest x))) H
theorem ok_is_no_number (T : Txt K mg pSINGLE pVoice) (C_magnitude : Cal P w K mg base "magnitude" 1 ["form", "x"] (sp_magnitude K)) (D : Def K mg "is_no_number" s_is_no_number ["form", "x"]) :
    Cal P w K mg base "is_no_number" 2 ["form", "x"] (sp_is_no_number K) := by
  refine D.cal sc_is_no_number (fun vs H Q E h => ?_) (fun f cdv A outer s H vs Q E hr h => ?_)
  · obtain ⟨p, F, x, rfl, _⟩ := h
    rfl
  obtain ⟨p, F, x, rfl, fm, hx, q⟩ := h
  refine ⟨_, (pss_one (ps_ret (pe_cmpR op_gt (pe_cal C_magnitude (hr.mono (by decide)) (pa_cons (pv 0) (pa_cons (pv 1) pa_nil))) (pe_ix ix_tup (pv 0) (pe_cst T.cINFINITY) (fun _ _ => rfl)) (nomark _)))), ?_⟩
  refine ⟨_, rfl, _, rfl, p, F, x, rfl, fm, hx, _, rfl, p, _, _, _, rfl, rfl, fm.tup H, at1 F, _, _, rfl, rfl, ?_⟩
  show Q (V.bl (decide ((F.inf : Int) < ((F.rest x : Nat) : Int)))) H
  rw [show decide ((F.inf : Int) < ((F.rest x : Nat) : Int)) = decide (F.inf < F.rest x) from decide_eq_decide.mpr (by omega)]
  exact q
theorem dec_nat (a b : Nat) : decide (V.int (a : Int) = V.int (b : Int)) = decide (a = b) := by
  refine decide_eq_decide.mpr ⟨fun e => ?_, fun e => by rw [e]⟩
  injection e with e
  omega
theorem dec_zero (a : Nat) : decide (V.int (a : Int) = V.int 0) = decide (a = 0) := dec_nat a 0
def sp_is_infinite (K : PySem.W.Frag) : Sp := fun vs H Q _ => ∃ (p : Addr) (F : Fmt) (x : Nat), vs = [.ref p, .int (x : Int)] ∧ Fm K p F ∧ x < 2 * F.sign ∧ Q (.bl (decide (F.rest x = F.inf))) H
theorem ok_is_infinite (T : Txt K mg pSINGLE pVoice) (C_magnitude : Cal P w K mg base "magnitude" 1 ["form", "x"] (sp_magnitude K)) (D : Def K mg "is_infinite" s_is_infinite ["form", "x"]) :
    Cal P w K mg base "is_infinite" 2 ["form", "x"] (sp_is_infinite K) := by
  refine D.cal sc_is_infinite (fun vs H Q E h => ?_) (fun f cdv A outer s H vs Q E hr h => ?_)
  · obtain ⟨p, F, x, rfl, _⟩ := h
    rfl
  obtain ⟨p, F, x, rfl, fm, hx, q⟩ := h
  refine ⟨_, (pss_one (ps_ret (pe_cmpR op_eq (pe_cal C_magnitude (hr.mono (by decide)) (pa_cons (pv 0) (pa_cons (pv 1) pa_nil))) (pe_ix ix_tup (pv 0) (pe_cst T.cINFINITY) (fun _ _ => rfl)) (nomark _)))), ?_⟩
  refine ⟨_, rfl, _, rfl, p, F, x, rfl, fm, hx, _, rfl, p, _, _, _, rfl, rfl, fm.tup H, at1 F, rfl, ?_⟩
  show Q (V.bl (decide (V.int ((F.rest x : Nat) : Int) = V.int (F.inf : Int)))) H
  rw [dec_nat]
  exact q
def sp_is_finite (K : PySem.W.Frag) : Sp := fun vs H Q _ => ∃ (p : Addr) (F : Fmt) (x : Nat), vs = [.ref p, .int (x : Int)] ∧ Fm K p F ∧ x < 2 * F.sign ∧ Q (.bl (decide (F.rest x < F.inf))) H
theorem ok_is_finite (T : Txt K mg pSINGLE pVoice) (D : Def K mg "is_finite" s_is_finite ["form", "x"]) : Cal P w K mg base "is_finite" 1 ["form", "x"] (sp_is_finite K) := by
  refine D.cal sc_is_finite (fun vs H Q E h => ?_) (fun f cdv A outer s H vs Q E hr h => ?_)
  · obtain ⟨p, F, x, rfl, _⟩ := h
    rfl
  obtain ⟨p, F, x, rfl, fm, hx, q⟩ := h
  refine ⟨_, (pss_one (ps_ret (pe_cmpR op_ne (pe_op op_and (pv 1) (pe_ix ix_tup (pv 0) (pe_cst T.cINFINITY) (fun _ _ => rfl))) (pe_ix ix_tup (pv 0) (pe_cst T.cINFINITY) (fun _ _ => rfl)) (nomark _)))), ?_⟩
  refine ⟨_, rfl, _, rfl, p, _, _, _, rfl, rfl, fm.tup H, at1 F, _, _, rfl, rfl, _, rfl, p, _, _, _, rfl, rfl, fm.tup H, at1 F, rfl, ?_⟩
  show Q (V.bl (!decide (V.int (Builtin.bitAnd (x : Int) (F.inf : Int)) = V.int (F.inf : Int)))) H
  rw [Tb.band, dec_nat, decide_eq_decide.mpr (Tb.fin_iff F x)]
  rw [show (!decide (F.inf ≤ F.rest x)) = decide (F.rest x < F.inf) by
    by_cases c : F.inf ≤ F.rest x
    · rw [decide_eq_true c, decide_eq_false (by omega)]; rfl
    · rw [decide_eq_false c, decide_eq_true (by omega)]; rfl]
  exact q
def sp_no_number (K : PySem.W.Frag) : Sp := fun vs H Q _ => ∃ (p : Addr) (F : Fmt), vs = [.ref p] ∧ Fm K p F ∧ Q (.int ((F.inf + 1 : Nat) : Int)) H
theorem ok_no_number (T : Txt K mg pSINGLE pVoice) (D : Def K mg "no_number" s_no_number ["form"]) : Cal P w K mg base "no_number" 1 ["form"] (sp_no_number K) := by
  refine D.cal sc_no_number (fun vs H Q E h => ?_) (fun f cdv A outer s H vs Q E hr h => ?_)
  · obtain ⟨p, F, rfl, _⟩ := h
    rfl
  obtain ⟨p, F, rfl, fm, q⟩ := h
  refine ⟨_, (pss_one (ps_ret (pe_op op_add (pe_ix ix_tup (pv 0) (pe_cst T.cINFINITY) (fun _ _ => rfl)) pe_int))), ?_⟩
  exact ⟨_, rfl, p, _, _, _, rfl, rfl, fm.tup H, at1 F, _, _, rfl, rfl, q⟩
def sp_told (K : PySem.W.Frag) : Sp := fun vs H Q _ => ∃ (p : Addr) (F : Fmt) (x : Nat), vs = [.ref p, .int (x : Int)] ∧ Fm K p F ∧ x < 2 * F.sign ∧ Q (.int (Tb.tell (F.num x))) H
theorem ok_told (T : Txt K mg pSINGLE pVoice) (C_is_no_number : Cal P w K mg base "is_no_number" 2 ["form", "x"] (sp_is_no_number K)) (D : Def K mg "told" s_told ["form", "x"]) :
    Cal P w K mg base "told" 3 ["form", "x"] (sp_told K) := by
  refine D.cal sc_told (fun vs H Q E h => ?_) (fun f cdv A outer s H vs Q E hr h => ?_)
  · obtain ⟨p, F, x, rfl, _⟩ := h
    rfl
  obtain ⟨p, F, x, rfl, fm, hx, q⟩ := h
  rw [Tb.tell_num] at q
  refine ⟨_, (pss_one (ps_ret (pe_ifExp (pt_val (pe_cal C_is_no_number (hr.mono (by decide)) (pa_cons (pv 0) (pa_cons (pv 1) pa_nil)))) (pe_un un_neg pe_int) (pv 1)))), ?_⟩
  refine ⟨_, rfl, _, rfl, p, F, x, rfl, fm, hx, _, rfl, ?_⟩
  refine ite2 (fun c => ⟨_, rfl, ?_⟩) (fun c => ⟨_, rfl, ?_⟩)
  · rw [if_pos (of_decide_eq_true c)] at q
    exact q
  · rw [if_neg (fun z => c (decide_eq_true z))] at q
    exact q
def sp_digits (K : PySem.W.Frag) : Sp := fun vs H Q _ => ∃ (p : Addr) (F : Fmt) (x : Nat), vs = [.ref p, .int (x : Int)] ∧ Fm K p F ∧ x < 2 * F.sign ∧ Q (.int (Tb.dig F x)) H
theorem ok_digits (T : Txt K mg pSINGLE pVoice) (C_magnitude : Cal P w K mg base "magnitude" 1 ["form", "x"] (sp_magnitude K)) (D : Def K mg "digits" s_digits ["form", "x"]) :
    Cal P w K mg base "digits" 2 ["form", "x"] (sp_digits K) := by
  refine D.cal sc_digits (fun vs H Q E h => ?_) (fun f cdv A outer s H vs Q E hr h => ?_)
  · obtain ⟨p, F, x, rfl, _⟩ := h
    rfl
  obtain ⟨p, F, x, rfl, fm, hx, q⟩ := h
  have hfr := fm.fracle
  refine ⟨_, (pss_cons (ps_set (i := 2) sc_digits.nd rfl (by first | exact Or.inl rfl | exact Or.inr rfl) (pe_op op_shlB pe_int (pe_ix ix_tup (pv 0) (pe_cst T.cWIDTH) (fun _ _ => rfl))))
      (pss_cons (ps_set (i := 3) sc_digits.nd rfl (by first | exact Or.inl rfl | exact Or.inr rfl) (pe_op op_and (pv 1) (pe_op op_sub (pv 2) pe_int)))
      (pss_cons (ps_if (pt_cmpR op_ge (pe_cal C_magnitude (hr.mono (by decide)) (pa_cons (pv 0) (pa_cons (pv 1) pa_nil))) (pv 2) (nomark _)) (pss_one (ps_aug (i := 3) sc_digits.nd rfl (Or.inl rfl) (pv 2) ip_add)) pss_nil)
      (pss_one (ps_ret (pe_ifExp (pt_truth (pe_op op_and (pv 1) (pe_ix ix_tup (pv 0) (pe_cst T.cMINUS) (fun _ _ => rfl))) (fun _ => rfl)) (pe_un un_neg (pv 3)) (pv 3))))))), ?_⟩
  refine ⟨_, rfl, p, _, _, _, rfl, rfl, fm.tup H, at0 F, _, _, rfl, rfl, ⟨by show (0 : Int) ≤ (F.frac : Int); omega, 1, by decide, by show ((1 : Nat) : Int) + (F.frac : Int) ≤ 134217728; omega⟩, ?_⟩
  refine ⟨_, rfl, _, rfl, _, _, rfl, rfl, _, _, rfl, rfl, ?_⟩
  refine ⟨_, rfl, _, rfl, p, F, x, rfl, fm, hx, _, rfl, _, _, rfl, rfl, _, rfl, ?_⟩
  have fin : ∀ (z : Int), z = ((Tb.mant F x : Nat) : Int) → if (Builtin.bitAnd (x : Int) (F.sign : Int) != 0) = true then Q (V.int (-z)) H else Q (V.int z) H := fun z hz => by
    rw [Tb.b_neg F hx, hz]
    rw [Tb.dig_int] at q
    refine ite2 (fun c => ?_) (fun c => ?_)
    · rw [if_pos c] at q
      exact q
    · rw [if_neg c] at q
      exact q
  refine ite2 (fun c => ?_) (fun c => ?_)
  · have c' : ((1 : Int) * 2 ^ ((F.frac : Nat) : Int).toNat) ≤ ((F.rest x : Nat) : Int) := of_decide_eq_true c
    rw [Tb.shl_one] at c'
    refine ⟨_, rfl, _, rfl, _, _, rfl, rfl, ?_⟩
    refine ⟨_, rfl, _, rfl, p, _, _, _, rfl, rfl, fm.tup H, at2 F, _, _, rfl, rfl, _, rfl, ?_⟩
    dsimp only
    have g := fin (Builtin.bitAnd (x : Int) ((1 : Int) * 2 ^ ((F.frac : Nat) : Int).toNat - 1) + (1 : Int) * 2 ^ ((F.frac : Nat) : Int).toNat) (by
      rw [Tb.b_low, Tb.shl_one, ← Tb.mant_high F (by omega)]
      simp)
    by_cases c2 : (Builtin.bitAnd (x : Int) (F.sign : Int) != 0) = true
    · rw [if_pos c2] at g ⊢
      exact ⟨_, rfl, _, rfl, g⟩
    · rw [if_neg c2] at g ⊢
      exact ⟨_, rfl, g⟩
  · have c' : ¬ ((1 : Int) * 2 ^ ((F.frac : Nat) : Int).toNat) ≤ ((F.rest x : Nat) : Int) := fun z => c (decide_eq_true z)
    rw [Tb.shl_one] at c'
    refine ⟨_, rfl, _, rfl, p, _, _, _, rfl, rfl, fm.tup H, at2 F, _, _, rfl, rfl, _, rfl, ?_⟩
    dsimp only
    have g := fin (Builtin.bitAnd (x : Int) ((1 : Int) * 2 ^ ((F.frac : Nat) : Int).toNat - 1)) (by
      rw [Tb.b_low, Tb.mant_low F (by omega)])
    by_cases c2 : (Builtin.bitAnd (x : Int) (F.sign : Int) != 0) = true
    · rw [if_pos c2] at g ⊢
      exact ⟨_, rfl, _, rfl, g⟩
    · rw [if_neg c2] at g ⊢
      exact ⟨_, rfl, g⟩
def sp_exponent (K : PySem.W.Frag) : Sp := fun vs H Q _ => ∃ (p : Addr) (F : Fmt) (x : Nat), vs = [.ref p, .int (x : Int)] ∧ Fm K p F ∧ x < 2 * F.sign ∧ Q (.int ((Tb.ex F x : Int) - (Tb.depth F : Int))) H
theorem ok_exponent (T : Txt K mg pSINGLE pVoice) (C_magnitude : Cal P w K mg base "magnitude" 1 ["form", "x"] (sp_magnitude K)) (D : Def K mg "exponent" s_exponent ["form", "x"]) :
    Cal P w K mg base "exponent" 2 ["form", "x"] (sp_exponent K) := by
  refine D.cal sc_exponent (fun vs H Q E h => ?_) (fun f cdv A outer s H vs Q E hr h => ?_)
  · obtain ⟨p, F, x, rfl, _⟩ := h
    rfl
  obtain ⟨p, F, x, rfl, fm, hx, q⟩ := h
  refine ⟨_, (pss_cons (ps_set (i := 2) sc_exponent.nd rfl (by first | exact Or.inl rfl | exact Or.inr rfl) (pe_op op_shr (pe_cal C_magnitude (hr.mono (by decide)) (pa_cons (pv 0) (pa_cons (pv 1) pa_nil))) (pe_ix ix_tup (pv 0) (pe_cst T.cWIDTH) (fun _ _ => rfl))))
      (pss_one (ps_ret (pe_op op_sub (pe_op op_sub (pe_callB (call_max2 rfl) rfl T.zmax boot_max (pa_cons (pv 2) (pa_cons pe_int pa_nil))) pe_int) (pe_ix ix_tup (pv 0) (pe_cst T.cDEPTH) (fun _ _ => rfl)))))), ?_⟩
  refine ⟨_, rfl, _, rfl, p, F, x, rfl, fm, hx, _, rfl, p, _, _, _, rfl, rfl, fm.tup H, at0 F, _, _, rfl, rfl, (by show (0 : Int) ≤ (F.frac : Int); omega), ?_⟩
  refine ⟨_, rfl, _, _, rfl, _, _, rfl, rfl, _, rfl, p, _, _, _, rfl, rfl, fm.tup H, at4 F, _, _, rfl, rfl, ?_⟩
  rw [← Tb.ex_int] at q
  exact q
def sp_shifted : Sp := fun vs H Q _ => ∃ (m : Nat) (k : Int), vs = [.int (m : Int), .int k] ∧ (∃ b : Nat, m < 2 ^ b ∧ b ≤ 10000) ∧ k ≤ 10000 ∧ Q (.int ((Tb.shiftedN m k : Nat) : Int)) H
theorem ok_shifted (D : Def K mg "shifted" s_shifted ["m", "k"]) : Cal P w K mg base "shifted" 1 ["m", "k"] sp_shifted := by
  refine D.cal sc_shifted (fun vs H Q E h => ?_) (fun f cdv A outer s H vs Q E hr h => ?_)
  · obtain ⟨m, k, rfl, _⟩ := h
    rfl
  obtain ⟨m, k, rfl, ⟨b, hb, hb2⟩, hk2, q⟩ := h
  refine ⟨_, (pss_cons (ps_if (pt_cmpR op_ge (pv 1) pe_int (nomark _)) (pss_one (ps_ret (pe_op op_shlB (pv 0) (pv 1)))) pss_nil)
      (pss_cons (ps_if (pt_cmpR op_lt (pe_bm0 PySem.F.plainAttrs_int PySem.F.slot_int_bit_length PySem.F.type_int_bit_length mt_bitlen (pv 0)) (pe_un un_neg (pv 1)) (nomark _)) (pss_one (ps_ret pe_int)) pss_nil)
      (pss_cons (ps_set (i := 2) sc_shifted.nd rfl (by first | exact Or.inl rfl | exact Or.inr rfl) (pe_op op_shr (pv 0) (pe_un un_neg (pv 1))))
      (pss_cons (ps_set (i := 3) sc_shifted.nd rfl (by first | exact Or.inl rfl | exact Or.inr rfl) (pe_op op_sub (pv 0) (pe_op op_shlB (pv 2) (pe_un un_neg (pv 1)))))
      (pss_cons (ps_set (i := 4) sc_shifted.nd rfl (by first | exact Or.inl rfl | exact Or.inr rfl) (pe_op op_shlB pe_int (pe_op op_sub (pe_un un_neg (pv 1)) pe_int)))
      (pss_cons (ps_if (PW.pt (pw_or (pt_cmpR op_gt (pv 3) (pv 4) (nomark _)) (pw_or1 (PW.pt (pw_and (pt_cmpR op_eq (pv 3) (pv 4) (nomark _)) (pw_and1 (pt_cmpR op_eq (pe_op op_mod (pv 2) pe_int) pe_int (nomark _)))))))) (pss_one (ps_aug (i := 2) sc_shifted.nd rfl (Or.inl rfl) pe_int ip_add)) pss_nil)
      (pss_one (ps_ret (pv 2))))))))), ?_⟩
  refine ⟨_, rfl, _, _, rfl, rfl, _, rfl, ?_⟩
  refine ite2 (fun c => ?_) (fun c => ?_)
  · have c' : (0 : Int) ≤ k := of_decide_eq_true c
    refine ⟨_, rfl, _, rfl, _, _, rfl, rfl, ⟨c', b, by show (m : Int).natAbs < 2 ^ b; simpa using hb, by omega⟩, ?_⟩
    rw [← Tb.shl_nat m c'] at q
    exact q
  · have c' : ¬ (0 : Int) ≤ k := fun z => c (decide_eq_true z)
    have ib := Tb.lt_intBits m
    have ib2 := Tb.intBits_le (i := (m : Int)) (b := b) (by simpa using hb)
    refine ⟨_, rfl, rfl, _, rfl, rfl, _, rfl, _, rfl, _, _, rfl, rfl, _, rfl, ?_⟩
    refine ite2 (fun c => ?_) (fun c => ?_)
    · have c3 : ((Builtin.Int.intBits (m : Int) : Nat) : Int) < -k := of_decide_eq_true c
      rw [Tb.shifted_far ib c3] at q
      exact q
    have c3 : ¬ ((Builtin.Int.intBits (m : Int) : Nat) : Int) < -k := fun z => c (decide_eq_true z)
    have hk1 : -10000 ≤ k := by omega
    have cs := Tb.shr_cases m c'
    have hq : ((m : Int) / 2 ^ (-k).toNat).natAbs < 2 ^ b := by
      rw [Tb.pow_cast, ← Int.natCast_ediv]
      exact Nat.lt_of_le_of_lt (Nat.div_le_self _ _) hb
    refine ⟨_, rfl, _, rfl, _, rfl, _, _, rfl, rfl, (by show (0 : Int) ≤ -k; omega), ?_⟩
    refine ⟨_, rfl, _, rfl, _, rfl, _, rfl, _, _, rfl, rfl, ⟨by show (0 : Int) ≤ -k; omega, b, hq, by omega⟩, _, _, rfl, rfl, ?_⟩
    refine ⟨_, rfl, _, rfl, _, _, rfl, rfl, _, _, rfl, rfl, ⟨by show (0 : Int) ≤ -k - 1; omega, 1, by decide, by omega⟩, ?_⟩
    dsimp only at cs ⊢
    generalize hQ : (m : Int) / 2 ^ (-k).toNat = kq at cs ⊢
    generalize hR : (m : Int) - kq * 2 ^ (-k).toNat = kr at cs ⊢
    generalize hD : (1 : Int) * 2 ^ (-k - 1).toNat = kd at cs ⊢
    obtain ⟨c1, c2, c3, c4⟩ := cs
    refine ⟨_, rfl, _, rfl, _, _, rfl, rfl, _, rfl, ?_⟩
    refine ite2 (fun d => ?_) (fun d => ?_)
    · have d' : kd < kr := of_decide_eq_true d
      refine iteT ⟨_, rfl, _, _, rfl, rfl, _, rfl, ?_⟩
      rw [c1 d'] at q
      exact q
    · have d' : ¬ kd < kr := fun z => d (decide_eq_true z)
      refine ⟨_, rfl, _, rfl, rfl, _, rfl, ?_⟩
      refine ite2 (fun g => ?_) (fun g => ?_)
      · have g' : kr = kd := by
          have := of_decide_eq_true g
          injection this
        refine ⟨_, rfl, _, _, rfl, rfl, (by show (0 : Int) < 2; decide), rfl, _, rfl, ?_⟩
        refine ite2 (fun o => ?_) (fun o => ?_)
        · have o' : kq % 2 = 1 := by
            have := of_decide_eq_true o
            injection this
          refine ⟨_, rfl, _, _, rfl, rfl, _, rfl, ?_⟩
          rw [c2 g' o'] at q
          exact q
        · have o' : ¬ kq % 2 = 1 := fun z => o (decide_eq_true (congrArg V.int z))
          refine ⟨_, rfl, ?_⟩
          rw [c3 g' o'] at q
          exact q
      · have g' : ¬ kr = kd := fun z => g (decide_eq_true (by rw [z]))
        refine iteF ⟨_, rfl, ?_⟩
        rw [c4 (by omega)] at q
        exact q
def sp_rounded (K : PySem.W.Frag) : Sp := fun vs H Q _ => ∃ (p : Addr) (F : Fmt) (m e z : Int), vs = [.ref p, .int m, .int e, .int z] ∧ Fm K p F ∧ (∃ b : Nat, m.natAbs < 2 ^ b ∧ b ≤ 5000) ∧ e.natAbs < 2 ^ 200 ∧
  Q (.int (if m = 0 then z else ((F.signed (decide (m < 0)) (Tb.roundedN F m.natAbs e) : Nat) : Int))) H
theorem ok_rounded (T : Txt K mg pSINGLE pVoice) (C_shifted : Cal P w K mg base "shifted" 1 ["m", "k"] sp_shifted) (D : Def K mg "rounded" s_rounded ["form", "m", "e", "zero"]) :
    Cal P w K mg base "rounded" 2 ["form", "m", "e", "zero"] (sp_rounded K) := by
  refine D.cal sc_rounded (fun vs H Q E h => ?_) (fun f cdv A outer s H vs Q E hr h => ?_)
  · obtain ⟨p, F, m, e, z, rfl, _⟩ := h
    rfl
  obtain ⟨p, F, m, e, z, rfl, fm, ⟨b, hb, hb2⟩, he1, q⟩ := h
  have hfr := fm.fracle
  have hdp := fm.depthle
  refine ⟨_, (pss_cons (ps_if (pt_cmpR op_eq (pv 1) pe_int (nomark _)) (pss_one (ps_ret (pv 3))) pss_nil)
      (pss_cons (ps_set (i := 4) sc_rounded.nd rfl (by first | exact Or.inl rfl | exact Or.inr rfl) (pe_callB call_abs rfl T.zabs boot_abs (pa_cons (pv 1) pa_nil)))
      (pss_cons (ps_set (i := 5) sc_rounded.nd rfl (by first | exact Or.inl rfl | exact Or.inr rfl) (pe_callB (call_max2 rfl) rfl T.zmax boot_max (pa_cons (pe_op op_sub (pe_op op_sub (pe_op op_add (pv 2) (pe_bm0 PySem.F.plainAttrs_int PySem.F.slot_int_bit_length PySem.F.type_int_bit_length mt_bitlen (pv 4))) (pe_ix ix_tup (pv 0) (pe_cst T.cWIDTH) (fun _ _ => rfl))) pe_int) (pa_cons (pe_un un_neg (pe_ix ix_tup (pv 0) (pe_cst T.cDEPTH) (fun _ _ => rfl))) pa_nil))))
      (pss_cons (ps_set (i := 6) sc_rounded.nd rfl (by first | exact Or.inl rfl | exact Or.inr rfl) (pe_cal C_shifted (hr.mono (by decide)) (pa_cons (pv 4) (pa_cons (pe_op op_sub (pv 2) (pv 5)) pa_nil))))
      (pss_cons (ps_set (i := 7) sc_rounded.nd rfl (by first | exact Or.inl rfl | exact Or.inr rfl) (pe_callB (call_min2 rfl) rfl T.zmin boot_min (pa_cons (pe_op op_add (pe_op op_shlB (pe_op op_add (pv 5) (pe_ix ix_tup (pv 0) (pe_cst T.cDEPTH) (fun _ _ => rfl))) (pe_ix ix_tup (pv 0) (pe_cst T.cWIDTH) (fun _ _ => rfl))) (pv 6)) (pa_cons (pe_ix ix_tup (pv 0) (pe_cst T.cINFINITY) (fun _ _ => rfl)) pa_nil))))
      (pss_one (ps_ret (pe_ifExp (pt_cmpR op_lt (pv 1) pe_int (nomark _)) (pe_op op_or (pv 7) (pe_ix ix_tup (pv 0) (pe_cst T.cMINUS) (fun _ _ => rfl))) (pv 7))))))))), ?_⟩
  refine ⟨_, rfl, rfl, _, rfl, ?_⟩
  refine ite2 (fun c => ?_) (fun c => ?_)
  · have c' : m = 0 := by
      have := of_decide_eq_true c
      injection this
    refine ⟨_, rfl, ?_⟩
    rw [if_pos c'] at q
    exact q
  · have c' : ¬ m = 0 := fun z => c (decide_eq_true (by rw [z]))
    rw [if_neg c'] at q
    refine ⟨_, rfl, _, rfl, ?_⟩
    dsimp only
    rw [Tb.abs_int]
    have hn0 : ((m.natAbs : Nat) : Int) ≠ 0 := by omega
    have hib := Tb.intBits_pos hn0
    rw [Int.natAbs_natCast] at hib
    have hlb : (Nat.log2 m.natAbs : Int) + 1 ≤ b := by
      have := Tb.intBits_le (i := ((m.natAbs : Nat) : Int)) (b := b) (by simpa using hb)
      omega
    refine ⟨_, rfl, _, rfl, rfl, _, rfl, rfl, _, _, rfl, rfl, _, rfl, p, _, _, _, rfl, rfl, fm.tup H, at0 F, _, _, rfl, rfl, _, _, rfl, rfl, _, rfl, p, _, _, _, rfl, rfl, fm.tup H, at4 F, _, rfl, _, _, rfl, ?_⟩
    dsimp only
    rw [Tb.last_int F m.natAbs e _ hib]
    have hl1 : -(Tb.depth F : Int) ≤ Tb.lastN F m.natAbs e := by
      unfold Tb.lastN
      omega
    have hl2 : (Tb.lastN F m.natAbs e + (Tb.depth F : Int)).natAbs < 2 ^ 201 := by
      rw [Tb.pow201]
      rw [Tb.pow200] at he1
      unfold Tb.lastN
      omega
    have hl3 : e - Tb.lastN F m.natAbs e ≤ 10000 := by
      unfold Tb.lastN
      omega
    refine ⟨_, rfl, _, rfl, _, rfl, _, _, rfl, rfl, m.natAbs, _, rfl, ⟨b, hb, by omega⟩, hl3, ?_⟩
    refine ⟨_, rfl, _, rfl, p, _, _, _, rfl, rfl, fm.tup H, at4 F, _, _, rfl, rfl, _, rfl, p, _, _, _, rfl, rfl, fm.tup H, at0 F, _, _, rfl, rfl,
      ⟨by show (0 : Int) ≤ (F.frac : Int); omega, 201, hl2, by omega⟩, _, rfl, _, _, rfl, rfl, _, rfl, p, _, _, _, rfl, rfl, fm.tup H, at1 F, _, _, rfl, ?_⟩
    dsimp only
    rw [Tb.bits_int]
    refine ⟨_, rfl, _, _, rfl, rfl, _, rfl, ?_⟩
    have hle : Tb.roundedN F m.natAbs e < F.sign := Nat.lt_of_le_of_lt (Tb.roundedN_le F _ _) (Tb.inf_lt F)
    refine ite2 (fun d => ?_) (fun d => ?_)
    · refine ⟨_, rfl, _, rfl, p, _, _, _, rfl, rfl, fm.tup H, at2 F, _, _, rfl, rfl, ?_⟩
      rw [d, ← Tb.b_signed F hle] at q
      exact q
    · have d' : decide (m < 0) = false := by simpa using d
      refine ⟨_, rfl, ?_⟩
      rw [d'] at q
      exact q
def sp_finite_fma (K : PySem.W.Frag) : Sp := fun vs H Q _ => ∃ (p : Addr) (F : Fmt) (x y z : Nat), vs = [.ref p, .int (x : Int), .int (y : Int), .int (z : Int)] ∧ Fm K p F ∧ x < 2 * F.sign ∧ y < 2 * F.sign ∧ z < 2 * F.sign ∧
  F.rest x ≠ F.inf ∧ F.rest y ≠ F.inf ∧ F.rest z ≠ F.inf ∧ Q (.int ((Tb.back F (F.fused x y z) : Nat) : Int)) H
theorem ok_finite_fma (T : Txt K mg pSINGLE pVoice) (C_digits : Cal P w K mg base "digits" 2 ["form", "x"] (sp_digits K)) (C_exponent : Cal P w K mg base "exponent" 2 ["form", "x"] (sp_exponent K)) (C_rounded : Cal P w K mg base "rounded" 2 ["form", "m", "e", "zero"] (sp_rounded K))
    (D : Def K mg "finite_fma" s_finite_fma ["form", "x", "y", "z"]) : Cal P w K mg base "finite_fma" 3 ["form", "x", "y", "z"] (sp_finite_fma K) := by
  refine D.cal sc_finite_fma (fun vs H Q E h => ?_) (fun f cdv A outer s H vs Q E hr h => ?_)
  · obtain ⟨p, F, x, y, z, rfl, _⟩ := h
    rfl
  obtain ⟨p, F, x, y, z, rfl, fm, hx, hy, hz, fx, fy, fz, q⟩ := h
  have hfr := fm.fracle
  have hdp := fm.depthle
  have hep := fm.explt
  have e1 := Tb.ex_lt F x
  have e2 := Tb.ex_lt F y
  have e3 := Tb.ex_lt F z
  have d1 : (Tb.dig F x).natAbs < 2 ^ 53 := Tb.lt_mono (Tb.dig_lt F x) (by omega)
  have d2 : (Tb.dig F y).natAbs < 2 ^ 53 := Tb.lt_mono (Tb.dig_lt F y) (by omega)
  have d3 : (Tb.dig F z).natAbs < 2 ^ 53 := Tb.lt_mono (Tb.dig_lt F z) (by omega)
  refine ⟨_, (pss_cons (ps_set (i := 4) sc_finite_fma.nd rfl (by first | exact Or.inl rfl | exact Or.inr rfl) (pe_op op_mul (pe_cal C_digits (hr.mono (by decide)) (pa_cons (pv 0) (pa_cons (pv 1) pa_nil))) (pe_cal C_digits (hr.mono (by decide)) (pa_cons (pv 0) (pa_cons (pv 2) pa_nil)))))
      (pss_cons (ps_set (i := 5) sc_finite_fma.nd rfl (by first | exact Or.inl rfl | exact Or.inr rfl) (pe_op op_add (pe_cal C_exponent (hr.mono (by decide)) (pa_cons (pv 0) (pa_cons (pv 1) pa_nil))) (pe_cal C_exponent (hr.mono (by decide)) (pa_cons (pv 0) (pa_cons (pv 2) pa_nil)))))
      (pss_cons (ps_set (i := 6) sc_finite_fma.nd rfl (by first | exact Or.inl rfl | exact Or.inr rfl) (pe_cal C_exponent (hr.mono (by decide)) (pa_cons (pv 0) (pa_cons (pv 3) pa_nil))))
      (pss_cons (ps_set (i := 7) sc_finite_fma.nd rfl (by first | exact Or.inl rfl | exact Or.inr rfl) (pe_callB (call_min2 rfl) rfl T.zmin boot_min (pa_cons (pv 5) (pa_cons (pv 6) pa_nil))))
      (pss_cons (ps_set (i := 8) sc_finite_fma.nd rfl (by first | exact Or.inl rfl | exact Or.inr rfl) (pe_op op_add (pe_op op_shlB (pv 4) (pe_op op_sub (pv 5) (pv 7))) (pe_op op_shlB (pe_cal C_digits (hr.mono (by decide)) (pa_cons (pv 0) (pa_cons (pv 3) pa_nil))) (pe_op op_sub (pv 6) (pv 7)))))
      (pss_one (ps_ret (pe_cal C_rounded (hr.mono (by decide)) (pa_cons (pv 0) (pa_cons (pv 8) (pa_cons (pv 7) (pa_cons (pe_op op_and (pe_op op_and (pe_op op_xor (pv 1) (pv 2)) (pv 3)) (pe_ix ix_tup (pv 0) (pe_cst T.cMINUS) (fun _ _ => rfl))) pa_nil)))))))))))), ?_⟩
  refine ⟨_, rfl, _, rfl, p, F, x, rfl, fm, hx, _, rfl, _, rfl, p, F, y, rfl, fm, hy, _, _, rfl, rfl, .inl ⟨by omega, by omega⟩, ?_⟩
  refine ⟨_, rfl, _, rfl, p, F, x, rfl, fm, hx, _, rfl, _, rfl, p, F, y, rfl, fm, hy, _, _, rfl, rfl, ?_⟩
  refine ⟨_, rfl, _, rfl, p, F, z, rfl, fm, hz, ?_⟩
  refine ⟨_, rfl, _, rfl, _, _, rfl, ?_⟩
  dsimp only
  generalize hL : (if (Tb.ex F z : Int) - (Tb.depth F : Int) < (Tb.ex F x : Int) - (Tb.depth F : Int) + ((Tb.ex F y : Int) - (Tb.depth F : Int)) then (Tb.ex F z : Int) - (Tb.depth F : Int) else (Tb.ex F x : Int) - (Tb.depth F : Int) + ((Tb.ex F y : Int) - (Tb.depth F : Int))) = last
  have l1 : last ≤ (Tb.ex F z : Int) - (Tb.depth F : Int) := by split at hL <;> omega
  have l2 : last ≤ (Tb.ex F x : Int) - (Tb.depth F : Int) + ((Tb.ex F y : Int) - (Tb.depth F : Int)) := by split at hL <;> omega
  have l3 : -2148 ≤ last := by split at hL <;> omega
  have dm := Tb.abs_mul_lt d1 d2
  refine ⟨_, rfl, _, rfl, _, rfl, _, _, rfl, rfl, _, _, rfl, rfl, ⟨by omega, 106, dm, by omega⟩, _, rfl, _, rfl, p, F, z, rfl, fm, hz, _, rfl, _, rfl, _, _, rfl, rfl, _, _, rfl, rfl, ⟨by omega, 53, d3, by omega⟩, _, _, rfl, rfl, ?_⟩
  have sm := Tb.fma_sum (Tb.dig F x * Tb.dig F y) (Tb.dig F z) (Tb.ex F x) (Tb.ex F y) (Tb.ex F z) (Tb.depth F) last hL.symm
  have b1 := Tb.lt_mono (Tb.abs_lt_pow (m := ((Tb.ex F x : Int) - (Tb.depth F : Int) + ((Tb.ex F y : Int) - (Tb.depth F : Int)) - last).toNat) dm) (b := 4999) (by omega)
  have b2 := Tb.lt_mono (Tb.abs_lt_pow (m := ((Tb.ex F z : Int) - (Tb.depth F : Int) - last).toNat) d3) (b := 4999) (by omega)
  have b3 := Tb.abs_add_lt b1 b2
  generalize hT : Tb.dig F x * Tb.dig F y * 2 ^ ((Tb.ex F x : Int) - (Tb.depth F : Int) + ((Tb.ex F y : Int) - (Tb.depth F : Int)) - last).toNat + Tb.dig F z * 2 ^ ((Tb.ex F z : Int) - (Tb.depth F : Int) - last).toNat = total at sm b3
  dsimp only
  rw [hT]
  refine ⟨_, rfl, _, rfl, _, rfl, _, rfl, _, rfl, _, _, rfl, rfl, _, rfl, _, _, rfl, rfl, _, rfl, p, _, _, _, rfl, rfl, fm.tup H, at2 F, _, _, rfl, rfl, p, F, _, _, _, rfl, fm, ⟨_, b3, by decide⟩, Tb.lt200 (by omega) (by omega), ?_⟩
  dsimp only
  rw [Tb.b_zero F hx hy hz]
  have ff := Tb.fused_finite F fx fy fz sm
  have el : (((last + 2 * (Tb.depth F : Int)).toNat : Nat) : Int) - 2 * (Tb.depth F : Int) = last := by
    split at hL <;> omega
  rw [el] at ff
  rw [ff] at q
  unfold Tb.back at q
  rw [Option.getD_some] at q
  by_cases c : total = 0
  · rw [if_pos c] at q ⊢
    exact q
  · rw [if_neg c] at q ⊢
    exact q
def sp_infinite_fma (K : PySem.W.Frag) : Sp := fun vs H Q _ => ∃ (p : Addr) (F : Fmt) (x y z : Nat), vs = [.ref p, .int (x : Int), .int (y : Int), .int (z : Int)] ∧ Fm K p F ∧ x < 2 * F.sign ∧ y < 2 * F.sign ∧ z < 2 * F.sign ∧
  (F.rest x = F.inf ∨ F.rest y = F.inf) ∧ Q (.int ((Tb.back F (F.fused x y z) : Nat) : Int)) H
theorem ok_infinite_fma (T : Txt K mg pSINGLE pVoice) (C_magnitude : Cal P w K mg base "magnitude" 1 ["form", "x"] (sp_magnitude K)) (C_negated : Cal P w K mg base "negated" 1 ["form", "x"] (sp_negated K)) (C_no_number : Cal P w K mg base "no_number" 1 ["form"] (sp_no_number K))
    (D : Def K mg "infinite_fma" s_infinite_fma ["form", "x", "y", "z"]) : Cal P w K mg base "infinite_fma" 2 ["form", "x", "y", "z"] (sp_infinite_fma K) := by
  refine D.cal sc_infinite_fma (fun vs H Q E h => ?_) (fun f cdv A outer s H vs Q E hr h => ?_)
  · obtain ⟨p, F, x, y, z, rfl, _⟩ := h
    rfl
  obtain ⟨p, F, x, y, z, rfl, fm, hx, hy, hz, hi, q⟩ := h
  have hil := Tb.inf_lt F
  have hsl := Tb.signed_lt F (s := F.neg x != F.neg y) hil
  refine ⟨_, (pss_cons (ps_set (i := 4) sc_infinite_fma.nd rfl (by first | exact Or.inl rfl | exact Or.inr rfl) (pe_op op_or (pe_ix ix_tup (pv 0) (pe_cst T.cINFINITY) (fun _ _ => rfl)) (pe_op op_and (pe_op op_xor (pv 1) (pv 2)) (pe_ix ix_tup (pv 0) (pe_cst T.cMINUS) (fun _ _ => rfl)))))
      (pss_cons (ps_set (i := 5) sc_infinite_fma.nd rfl (by first | exact Or.inl rfl | exact Or.inr rfl) (pe_or (pe_cmpR op_eq (pe_cal C_magnitude (hr.mono (by decide)) (pa_cons (pv 0) (pa_cons (pv 1) pa_nil))) pe_int (nomark _)) (pe_one (pe_cmpR op_eq (pe_cal C_magnitude (hr.mono (by decide)) (pa_cons (pv 0) (pa_cons (pv 2) pa_nil))) pe_int (nomark _)))))
      (pss_cons (ps_if (PW.pt (pw_or (pt_val (pv 5)) (pw_or1 (pt_cmpR op_eq (pv 3) (pe_cal C_negated (hr.mono (by decide)) (pa_cons (pv 0) (pa_cons (pv 4) pa_nil))) (nomark _))))) (pss_one (ps_ret (pe_cal C_no_number (hr.mono (by decide)) (pa_cons (pv 0) pa_nil)))) pss_nil)
      (pss_one (ps_ret (pv 4)))))), ?_⟩
  refine ⟨_, rfl, p, _, _, _, rfl, rfl, fm.tup H, at1 F, _, rfl, _, rfl, _, _, rfl, rfl, _, rfl, p, _, _, _, rfl, rfl, fm.tup H, at2 F, _, _, rfl, rfl, _, _, rfl, rfl, ?_⟩
  dsimp only
  rw [Tb.b_signed2 F hx hy hil]
  have nan : F.rest x = 0 ∨ F.rest y = 0 ∨ z = F.flip (F.signed (F.neg x != F.neg y) F.inf) → Q (V.int ((F.inf + 1 : Nat) : Int)) H := fun c => by
    rw [Tb.fused_inf_none F hi hz c] at q
    exact q
  have num : F.rest x ≠ 0 → F.rest y ≠ 0 → z ≠ F.flip (F.signed (F.neg x != F.neg y) F.inf) → Q (V.int ((F.signed (F.neg x != F.neg y) F.inf : Nat) : Int)) H := fun c1 c2 c3 => by
    rw [Tb.fused_inf_some F hi hz c1 c2 c3] at q
    exact q
  refine ⟨_, rfl, _, rfl, p, F, x, rfl, fm, hx, rfl, _, rfl, ?_⟩
  dsimp only
  rw [dec_zero]
  refine ite2 (fun c => ?_) (fun c => ?_)
  · have c' := of_decide_eq_true c
    refine ⟨_, rfl, _, rfl, ?_⟩
    refine iteT (iteT ⟨_, rfl, p, F, rfl, fm, ?_⟩)
    exact nan (.inl c')
  · have c' : ¬ F.rest x = 0 := fun z => c (decide_eq_true z)
    refine ⟨_, rfl, _, rfl, p, F, y, rfl, fm, hy, rfl, ?_⟩
    dsimp only
    rw [dec_zero]
    refine ⟨_, rfl, _, rfl, ?_⟩
    refine ite2 (fun d => ?_) (fun d => ?_)
    · refine iteT ⟨_, rfl, p, F, rfl, fm, ?_⟩
      exact nan (.inr (.inl (of_decide_eq_true d)))
    · have d' : ¬ F.rest y = 0 := fun z => d (decide_eq_true z)
      refine ⟨_, rfl, _, rfl, _, rfl, p, F, _, rfl, fm, hsl, rfl, _, rfl, ?_⟩
      dsimp only
      rw [dec_nat]
      refine ite2 (fun g => ?_) (fun g => ?_)
      · refine ⟨_, rfl, p, F, rfl, fm, ?_⟩
        exact nan (.inr (.inr (of_decide_eq_true g)))
      · refine ⟨_, rfl, ?_⟩
        exact num c' d' (fun z => g (decide_eq_true z))
def sp_fma (K : PySem.W.Frag) : Sp := fun vs H Q _ => ∃ (p : Addr) (F : Fmt) (x y z : Nat), vs = [.ref p, .int (x : Int), .int (y : Int), .int (z : Int)] ∧ Fm K p F ∧ x < 2 * F.sign ∧ y < 2 * F.sign ∧ z < 2 * F.sign ∧
  Q (.int ((Tb.back F (F.ma (F.num x) (F.num y) (F.num z)) : Nat) : Int)) H
theorem ok_fma (T : Txt K mg pSINGLE pVoice) (C_is_finite : Cal P w K mg base "is_finite" 1 ["form", "x"] (sp_is_finite K)) (C_no_number : Cal P w K mg base "no_number" 1 ["form"] (sp_no_number K)) (C_is_no_number : Cal P w K mg base "is_no_number" 2 ["form", "x"] (sp_is_no_number K)) (C_is_infinite : Cal P w K mg base "is_infinite" 2 ["form", "x"] (sp_is_infinite K))
    (C_infinite_fma : Cal P w K mg base "infinite_fma" 2 ["form", "x", "y", "z"] (sp_infinite_fma K)) (C_finite_fma : Cal P w K mg base "finite_fma" 3 ["form", "x", "y", "z"] (sp_finite_fma K))
    (D : Def K mg "fma" s_fma ["form", "x", "y", "z"]) : Cal P w K mg base "fma" 4 ["form", "x", "y", "z"] (sp_fma K) := by
  refine D.cal sc_fma (fun vs H Q E h => ?_) (fun f cdv A outer s H vs Q E hr h => ?_)
  · obtain ⟨p, F, x, y, z, rfl, _⟩ := h
    rfl
  obtain ⟨p, F, x, y, z, rfl, fm, hx, hy, hz, q⟩ := h
  refine ⟨_, (pss_cons (ps_if (PW.pt (pw_and (pt_val (pe_cal C_is_finite (hr.mono (by decide)) (pa_cons (pv 0) (pa_cons (pv 1) pa_nil)))) (pw_and (pt_val (pe_cal C_is_finite (hr.mono (by decide)) (pa_cons (pv 0) (pa_cons (pv 2) pa_nil)))) (pw_and1 (pt_val (pe_cal C_is_finite (hr.mono (by decide)) (pa_cons (pv 0) (pa_cons (pv 3) pa_nil)))))))) (pss_one (ps_ret (pe_cal C_finite_fma (hr.mono (by decide)) (pa_cons (pv 0) (pa_cons (pv 1) (pa_cons (pv 2) (pa_cons (pv 3) pa_nil))))))) pss_nil)
      (pss_cons (ps_if (PW.pt (pw_or (pt_val (pe_cal C_is_no_number (hr.mono (by decide)) (pa_cons (pv 0) (pa_cons (pv 1) pa_nil)))) (pw_or (pt_val (pe_cal C_is_no_number (hr.mono (by decide)) (pa_cons (pv 0) (pa_cons (pv 2) pa_nil)))) (pw_or1 (pt_val (pe_cal C_is_no_number (hr.mono (by decide)) (pa_cons (pv 0) (pa_cons (pv 3) pa_nil)))))))) (pss_one (ps_ret (pe_cal C_no_number (hr.mono (by decide)) (pa_cons (pv 0) pa_nil)))) pss_nil)
      (pss_cons (ps_if (PW.pt (pw_or (pt_val (pe_cal C_is_infinite (hr.mono (by decide)) (pa_cons (pv 0) (pa_cons (pv 1) pa_nil)))) (pw_or1 (pt_val (pe_cal C_is_infinite (hr.mono (by decide)) (pa_cons (pv 0) (pa_cons (pv 2) pa_nil))))))) (pss_one (ps_ret (pe_cal C_infinite_fma (hr.mono (by decide)) (pa_cons (pv 0) (pa_cons (pv 1) (pa_cons (pv 2) (pa_cons (pv 3) pa_nil))))))) pss_nil)
      (pss_one (ps_ret (pv 3)))))), ?_⟩
  refine ⟨_, rfl, _, rfl, p, F, x, rfl, fm, hx, _, rfl, ?_⟩
  rcases (show (F.rest x < F.inf ∧ F.rest y < F.inf ∧ F.rest z < F.inf) ∨ (¬ F.rest x < F.inf) ∨ (F.rest x < F.inf ∧ ¬ F.rest y < F.inf) ∨ (F.rest x < F.inf ∧ F.rest y < F.inf ∧ ¬ F.rest z < F.inf) by omega) with ⟨fx, fy, fz⟩ | fx | ⟨fx, fy⟩ | ⟨fx, fy, fz⟩
  · rw [decide_eq_true fx]
    refine iteT ⟨_, rfl, _, rfl, p, F, y, rfl, fm, hy, _, rfl, ?_⟩
    rw [decide_eq_true fy]
    refine iteT ⟨_, rfl, _, rfl, p, F, z, rfl, fm, hz, _, rfl, ?_⟩
    rw [decide_eq_true fz]
    refine iteT ⟨_, rfl, _, rfl, _, rfl, _, rfl, p, F, x, y, z, rfl, fm, hx, hy, hz, by omega, by omega, by omega, ?_⟩
    rw [Tb.num_some F (by omega), Tb.num_some F (by omega), Tb.num_some F (by omega)] at q
    exact q
  rw [decide_eq_false fx]
  refine iteF (iteF ?_)
  have nf : ¬ (F.rest x < F.inf ∧ F.rest y < F.inf ∧ F.rest z < F.inf) := fun c => fx c.1
  rotate_left
  rw [decide_eq_true fx]
  refine iteT ⟨_, rfl, _, rfl, p, F, y, rfl, fm, hy, _, rfl, ?_⟩
  rw [decide_eq_false fy]
  refine iteF (iteF ?_)
  have nf : ¬ (F.rest x < F.inf ∧ F.rest y < F.inf ∧ F.rest z < F.inf) := fun c => fy c.2.1
  rotate_left
  rw [decide_eq_true fx]
  refine iteT ⟨_, rfl, _, rfl, p, F, y, rfl, fm, hy, _, rfl, ?_⟩
  rw [decide_eq_true fy]
  refine iteT ⟨_, rfl, _, rfl, p, F, z, rfl, fm, hz, _, rfl, ?_⟩
  rw [decide_eq_false fz]
  refine iteF ?_
  have nf : ¬ (F.rest x < F.inf ∧ F.rest y < F.inf ∧ F.rest z < F.inf) := fun c => fz c.2.2
  rotate_left
  all_goals
    refine ⟨_, rfl, _, rfl, p, F, x, rfl, fm, hx, _, rfl, ?_⟩
    refine ite2 (fun c => ?_) (fun c => ?_)
    · refine iteT ⟨_, rfl, p, F, rfl, fm, ?_⟩
      rw [Tb.num_none F (of_decide_eq_true c)] at q
      exact q
    have c1 : ¬ F.inf < F.rest x := fun z => c (decide_eq_true z)
    rw [Tb.num_some F c1] at q
    refine ⟨_, rfl, _, rfl, p, F, y, rfl, fm, hy, _, rfl, ?_⟩
    refine ite2 (fun c => ?_) (fun c => ?_)
    · refine iteT ⟨_, rfl, p, F, rfl, fm, ?_⟩
      rw [Tb.num_none F (of_decide_eq_true c)] at q
      exact q
    have c2 : ¬ F.inf < F.rest y := fun z => c (decide_eq_true z)
    rw [Tb.num_some F c2] at q
    refine ⟨_, rfl, _, rfl, p, F, z, rfl, fm, hz, _, rfl, ?_⟩
    refine ite2 (fun c => ?_) (fun c => ?_)
    · refine ⟨_, rfl, p, F, rfl, fm, ?_⟩
      rw [Tb.num_none F (of_decide_eq_true c)] at q
      exact q
    have c3 : ¬ F.inf < F.rest z := fun z => c (decide_eq_true z)
    rw [Tb.num_some F c3] at q
    have q : Q (.int ((Tb.back F (F.fused x y z) : Nat) : Int)) H := q
    refine ⟨_, rfl, _, rfl, p, F, x, rfl, fm, hx, _, rfl, ?_⟩
    refine ite2 (fun c => ?_) (fun c => ?_)
    · exact iteT ⟨_, rfl, _, rfl, _, rfl, _, rfl, p, F, x, y, z, rfl, fm, hx, hy, hz, .inl (of_decide_eq_true c), q⟩
    have i1 : ¬ F.rest x = F.inf := fun z => c (decide_eq_true z)
    refine ⟨_, rfl, _, rfl, p, F, y, rfl, fm, hy, _, rfl, ?_⟩
    refine ite2 (fun c => ?_) (fun c => ?_)
    · exact ⟨_, rfl, _, rfl, _, rfl, _, rfl, p, F, x, y, z, rfl, fm, hx, hy, hz, .inr (of_decide_eq_true c), q⟩
    have i2 : ¬ F.rest y = F.inf := fun z => c (decide_eq_true z)
    refine ⟨_, rfl, ?_⟩
    rw [Tb.fused_inf_z F i1 i2 (by omega)] at q
    exact q
def sp_fms (K : PySem.W.Frag) : Sp := fun vs H Q _ => ∃ (p : Addr) (F : Fmt) (x y z : Nat), vs = [.ref p, .int (x : Int), .int (y : Int), .int (z : Int)] ∧ Fm K p F ∧ x < 2 * F.sign ∧ y < 2 * F.sign ∧ z < 2 * F.sign ∧
  Q (.int ((Tb.back F (F.ma (F.num x) (F.num y) (F.minus (F.num z))) : Nat) : Int)) H
theorem ok_fms (C_fma : Cal P w K mg base "fma" 4 ["form", "x", "y", "z"] (sp_fma K)) (C_negated : Cal P w K mg base "negated" 1 ["form", "x"] (sp_negated K)) (D : Def K mg "fms" s_fms ["form", "x", "y", "z"]) :
    Cal P w K mg base "fms" 5 ["form", "x", "y", "z"] (sp_fms K) := by
  refine D.cal sc_fms (fun vs H Q E h => ?_) (fun f cdv A outer s H vs Q E hr h => ?_)
  · obtain ⟨p, F, x, y, z, rfl, _⟩ := h
    rfl
  obtain ⟨p, F, x, y, z, rfl, fm, hx, hy, hz, q⟩ := h
  refine ⟨_, (pss_one (ps_ret (pe_cal C_fma (hr.mono (by decide)) (pa_cons (pv 0) (pa_cons (pv 1) (pa_cons (pv 2) (pa_cons (pe_cal C_negated (hr.mono (by decide)) (pa_cons (pv 0) (pa_cons (pv 3) pa_nil))) pa_nil))))))), ?_⟩
  refine ⟨_, rfl, _, rfl, _, rfl, _, rfl, _, rfl, p, F, z, rfl, fm, hz, p, F, x, y, _, rfl, fm, hx, hy, Tb.flip_lt F hz, ?_⟩
  rw [Tb.minus_num F hz]
  exact q
def sp_fnma (K : PySem.W.Frag) : Sp := fun vs H Q _ => ∃ (p : Addr) (F : Fmt) (x y z : Nat), vs = [.ref p, .int (x : Int), .int (y : Int), .int (z : Int)] ∧ Fm K p F ∧ x < 2 * F.sign ∧ y < 2 * F.sign ∧ z < 2 * F.sign ∧
  Q (.int ((Tb.back F (F.ma (F.minus (F.num x)) (F.num y) (F.num z)) : Nat) : Int)) H
theorem ok_fnma (C_fma : Cal P w K mg base "fma" 4 ["form", "x", "y", "z"] (sp_fma K)) (C_negated : Cal P w K mg base "negated" 1 ["form", "x"] (sp_negated K)) (D : Def K mg "fnma" s_fnma ["form", "x", "y", "z"]) :
    Cal P w K mg base "fnma" 5 ["form", "x", "y", "z"] (sp_fnma K) := by
  refine D.cal sc_fnma (fun vs H Q E h => ?_) (fun f cdv A outer s H vs Q E hr h => ?_)
  · obtain ⟨p, F, x, y, z, rfl, _⟩ := h
    rfl
  obtain ⟨p, F, x, y, z, rfl, fm, hx, hy, hz, q⟩ := h
  refine ⟨_, (pss_one (ps_ret (pe_cal C_fma (hr.mono (by decide)) (pa_cons (pv 0) (pa_cons (pe_cal C_negated (hr.mono (by decide)) (pa_cons (pv 0) (pa_cons (pv 1) pa_nil))) (pa_cons (pv 2) (pa_cons (pv 3) pa_nil))))))), ?_⟩
  refine ⟨_, rfl, _, rfl, _, rfl, p, F, x, rfl, fm, hx, _, rfl, _, rfl, p, F, _, y, z, rfl, fm, Tb.flip_lt F hx, hy, hz, ?_⟩
  rw [Tb.minus_num F hx]
  exact q
def sp_multiply (K : PySem.W.Frag) : Sp := fun vs H Q _ => ∃ (p : Addr) (F : Fmt) (x y : Nat), vs = [.ref p, .int (x : Int), .int (y : Int)] ∧ Fm K p F ∧ x < 2 * F.sign ∧ y < 2 * F.sign ∧
  Q (.int ((Tb.back F (F.mul (F.num x) (F.num y)) : Nat) : Int)) H
theorem ok_multiply (T : Txt K mg pSINGLE pVoice) (C_fma : Cal P w K mg base "fma" 4 ["form", "x", "y", "z"] (sp_fma K)) (D : Def K mg "multiply" s_multiply ["form", "x", "y"]) :
    Cal P w K mg base "multiply" 5 ["form", "x", "y"] (sp_multiply K) := by
  refine D.cal sc_multiply (fun vs H Q E h => ?_) (fun f cdv A outer s H vs Q E hr h => ?_)
  · obtain ⟨p, F, x, y, rfl, _⟩ := h
    rfl
  obtain ⟨p, F, x, y, rfl, fm, hx, hy, q⟩ := h
  have hs := Tb.sign_pos F
  refine ⟨_, (pss_one (ps_ret (pe_cal C_fma (hr.mono (by decide)) (pa_cons (pv 0) (pa_cons (pv 1) (pa_cons (pv 2) (pa_cons (pe_ix ix_tup (pv 0) (pe_cst T.cMINUS) (fun _ _ => rfl)) pa_nil))))))), ?_⟩
  refine ⟨_, rfl, _, rfl, _, rfl, _, rfl, p, _, _, _, rfl, rfl, fm.tup H, at2 F, p, F, x, y, F.sign, rfl, fm, hx, hy, by omega, ?_⟩
  rw [Tb.mul_is F fm.exp1, Tb.signed_t0] at q
  rw [Tb.num_sign F]
  exact q
theorem Fm.one_num {K : PySem.W.Frag} {p : Addr} {F : Fmt} (fm : Fm K p F) : F.num F.one = some F.one ∧ F.one < 2 * F.sign := by
  have h1 := fm.onelt
  have h2 := Tb.inf_lt F
  refine ⟨Tb.num_some F ?_, by omega⟩
  unfold Sg43.Fmt.rest
  rw [Nat.mod_eq_of_lt (by omega)]
  omega
def sp_add (K : PySem.W.Frag) : Sp := fun vs H Q _ => ∃ (p : Addr) (F : Fmt) (x y : Nat), vs = [.ref p, .int (x : Int), .int (y : Int)] ∧ Fm K p F ∧ x < 2 * F.sign ∧ y < 2 * F.sign ∧
  Q (.int ((Tb.back F (F.add (F.num x) (F.num y)) : Nat) : Int)) H
theorem ok_add (T : Txt K mg pSINGLE pVoice) (C_fma : Cal P w K mg base "fma" 4 ["form", "x", "y", "z"] (sp_fma K)) (D : Def K mg "add" s_add ["form", "x", "y"]) :
    Cal P w K mg base "add" 5 ["form", "x", "y"] (sp_add K) := by
  refine D.cal sc_add (fun vs H Q E h => ?_) (fun f cdv A outer s H vs Q E hr h => ?_)
  · obtain ⟨p, F, x, y, rfl, _⟩ := h
    rfl
  obtain ⟨p, F, x, y, rfl, fm, hx, hy, q⟩ := h
  refine ⟨_, (pss_one (ps_ret (pe_cal C_fma (hr.mono (by decide)) (pa_cons (pv 0) (pa_cons (pv 1) (pa_cons (pe_ix ix_tup (pv 0) (pe_cst T.cONE) (fun _ _ => rfl)) (pa_cons (pv 2) pa_nil))))))), ?_⟩
  refine ⟨_, rfl, _, rfl, _, rfl, p, _, _, _, rfl, rfl, fm.tup H, at3 F, _, rfl, p, F, x, F.one, y, rfl, fm, hx, fm.one_num.2, hy, ?_⟩
  rw [Tb.add_is] at q
  rw [fm.one_num.1]
  exact q
def sp_subtract (K : PySem.W.Frag) : Sp := fun vs H Q _ => ∃ (p : Addr) (F : Fmt) (x y : Nat), vs = [.ref p, .int (x : Int), .int (y : Int)] ∧ Fm K p F ∧ x < 2 * F.sign ∧ y < 2 * F.sign ∧
  Q (.int ((Tb.back F (F.sub (F.num x) (F.num y)) : Nat) : Int)) H
theorem ok_subtract (T : Txt K mg pSINGLE pVoice) (C_fms : Cal P w K mg base "fms" 5 ["form", "x", "y", "z"] (sp_fms K)) (D : Def K mg "subtract" s_subtract ["form", "x", "y"]) :
    Cal P w K mg base "subtract" 6 ["form", "x", "y"] (sp_subtract K) := by
  refine D.cal sc_subtract (fun vs H Q E h => ?_) (fun f cdv A outer s H vs Q E hr h => ?_)
  · obtain ⟨p, F, x, y, rfl, _⟩ := h
    rfl
  obtain ⟨p, F, x, y, rfl, fm, hx, hy, q⟩ := h
  refine ⟨_, (pss_one (ps_ret (pe_cal C_fms (hr.mono (by decide)) (pa_cons (pv 0) (pa_cons (pv 1) (pa_cons (pe_ix ix_tup (pv 0) (pe_cst T.cONE) (fun _ _ => rfl)) (pa_cons (pv 2) pa_nil))))))), ?_⟩
  refine ⟨_, rfl, _, rfl, _, rfl, p, _, _, _, rfl, rfl, fm.tup H, at3 F, _, rfl, p, F, x, F.one, y, rfl, fm, hx, fm.one_num.2, hy, ?_⟩
  rw [Tb.sub_is] at q
  rw [fm.one_num.1]
  exact q
def sp_order (K : PySem.W.Frag) : Sp := fun vs H Q _ => ∃ (p : Addr) (F : Fmt) (x : Nat), vs = [.ref p, .int (x : Int)] ∧ Fm K p F ∧ x < 2 * F.sign ∧ Q (.int (Tb.ord F x)) H
theorem ok_order (T : Txt K mg pSINGLE pVoice) (C_magnitude : Cal P w K mg base "magnitude" 1 ["form", "x"] (sp_magnitude K)) (D : Def K mg "order" s_order ["form", "x"]) : Cal P w K mg base "order" 2 ["form", "x"] (sp_order K) := by
  refine D.cal sc_order (fun vs H Q E h => ?_) (fun f cdv A outer s H vs Q E hr h => ?_)
  · obtain ⟨p, F, x, rfl, _⟩ := h
    rfl
  obtain ⟨p, F, x, rfl, fm, hx, q⟩ := h
  rw [Tb.ord_int F hx] at q
  refine ⟨_, (pss_one (ps_ret (pe_ifExp (pt_truth (pe_op op_and (pv 1) (pe_ix ix_tup (pv 0) (pe_cst T.cMINUS) (fun _ _ => rfl))) (fun _ => rfl)) (pe_un un_neg (pe_cal C_magnitude (hr.mono (by decide)) (pa_cons (pv 0) (pa_cons (pv 1) pa_nil)))) (pv 1)))), ?_⟩
  refine ⟨_, rfl, _, rfl, p, _, _, _, rfl, rfl, fm.tup H, at2 F, _, _, rfl, rfl, _, rfl, ?_⟩
  rw [Tb.b_neg F hx]
  refine ite2 (fun c => ?_) (fun c => ?_)
  · rw [if_pos c] at q
    exact ⟨_, rfl, _, rfl, p, F, x, rfl, fm, hx, _, rfl, q⟩
  · rw [if_neg c] at q
    exact ⟨_, rfl, q⟩
def sp_are_numbers (K : PySem.W.Frag) : Sp := fun vs H Q _ => ∃ (p : Addr) (F : Fmt) (x y : Nat), vs = [.ref p, .int (x : Int), .int (y : Int)] ∧ Fm K p F ∧ x < 2 * F.sign ∧ y < 2 * F.sign ∧
  Q (.bl (decide (¬ F.inf < F.rest x ∧ ¬ F.inf < F.rest y))) H
theorem ok_are_numbers (C_is_no_number : Cal P w K mg base "is_no_number" 2 ["form", "x"] (sp_is_no_number K)) (D : Def K mg "are_numbers" s_are_numbers ["form", "x", "y"]) :
    Cal P w K mg base "are_numbers" 3 ["form", "x", "y"] (sp_are_numbers K) := by
  refine D.cal sc_are_numbers (fun vs H Q E h => ?_) (fun f cdv A outer s H vs Q E hr h => ?_)
  · obtain ⟨p, F, x, y, rfl, _⟩ := h
    rfl
  obtain ⟨p, F, x, y, rfl, fm, hx, hy, q⟩ := h
  refine ⟨_, (pss_one (ps_ret (pe_and (pe_not (pe_cal C_is_no_number (hr.mono (by decide)) (pa_cons (pv 0) (pa_cons (pv 1) pa_nil)))) (pe_one (pe_not (pe_cal C_is_no_number (hr.mono (by decide)) (pa_cons (pv 0) (pa_cons (pv 2) pa_nil)))))))), ?_⟩
  refine ⟨_, rfl, _, rfl, p, F, x, rfl, fm, hx, _, rfl, _, rfl, ?_⟩
  by_cases c : F.inf < F.rest x
  · rw [decide_eq_false (fun z => z.1 c)] at q
    rw [decide_eq_true c]
    exact iteF q
  · rw [decide_eq_false c]
    refine iteT ⟨_, rfl, _, rfl, p, F, y, rfl, fm, hy, _, rfl, ?_⟩
    have e : decide (¬ F.inf < F.rest x ∧ ¬ F.inf < F.rest y) = !decide (F.inf < F.rest y) := by
      by_cases d : F.inf < F.rest y
      · rw [decide_eq_false (fun z => z.2 d), decide_eq_true d]; rfl
      · rw [decide_eq_true ⟨c, d⟩, decide_eq_false d]; rfl
    rw [e] at q
    exact q
def sp_not_less (K : PySem.W.Frag) : Sp := fun vs H Q _ => ∃ (p : Addr) (F : Fmt) (x y : Nat), vs = [.ref p, .int (x : Int), .int (y : Int)] ∧ Fm K p F ∧ x < 2 * F.sign ∧ y < 2 * F.sign ∧ Q (.bl (Tb.nless F (F.num x) (F.num y))) H
theorem ok_not_less (C_are_numbers : Cal P w K mg base "are_numbers" 3 ["form", "x", "y"] (sp_are_numbers K)) (C_order : Cal P w K mg base "order" 2 ["form", "x"] (sp_order K)) (D : Def K mg "not_less" s_not_less ["form", "x", "y"]) :
    Cal P w K mg base "not_less" 4 ["form", "x", "y"] (sp_not_less K) := by
  refine D.cal sc_not_less (fun vs H Q E h => ?_) (fun f cdv A outer s H vs Q E hr h => ?_)
  · obtain ⟨p, F, x, y, rfl, _⟩ := h
    rfl
  obtain ⟨p, F, x, y, rfl, fm, hx, hy, q⟩ := h
  refine ⟨_, (pss_one (ps_ret (pe_and (pe_cal C_are_numbers (hr.mono (by decide)) (pa_cons (pv 0) (pa_cons (pv 1) (pa_cons (pv 2) pa_nil)))) (pe_one (pe_cmpR op_ge (pe_cal C_order (hr.mono (by decide)) (pa_cons (pv 0) (pa_cons (pv 1) pa_nil))) (pe_cal C_order (hr.mono (by decide)) (pa_cons (pv 0) (pa_cons (pv 2) pa_nil))) (nomark _)))))), ?_⟩
  refine ⟨_, rfl, _, rfl, _, rfl, p, F, x, y, rfl, fm, hx, hy, _, rfl, ?_⟩
  refine ite2 (fun c => ?_) (fun c => ?_)
  · obtain ⟨c1, c2⟩ := of_decide_eq_true c
    rw [Tb.nless_ord F c1 c2] at q
    exact ⟨_, rfl, _, rfl, p, F, x, rfl, fm, hx, _, rfl, _, rfl, p, F, y, rfl, fm, hy, _, _, rfl, rfl, q⟩
  · rw [Tb.nless_nan F (by
      by_cases d : F.inf < F.rest x
      · exact .inl d
      · refine .inr (Decidable.byContradiction fun e => c (decide_eq_true ⟨d, e⟩)))] at q
    exact q
/-! ### what is answered -/
def sp_refusal : Sp := fun vs H Q _ => vs = [] ∧ ∀ p, H p = none → Q (.ref p) (upd H p (.lst [.int (-1)]))
theorem ok_refusal (D : Def K mg "refusal" s_refusal []) : Cal P w K mg base "refusal" 1 [] sp_refusal := by
  refine D.cal sc_refusal (fun vs H Q E h => ?_) (fun f cdv A outer s H vs Q E hr h => ?_)
  · obtain ⟨rfl, _⟩ := h
    rfl
  obtain ⟨rfl, q⟩ := h
  refine ⟨_, (pss_one (ps_ret (pe_lst (pa_cons (pe_un un_neg pe_int) pa_nil)))), ?_⟩
  exact ⟨_, rfl, (by show 1 ≤ sizeLine; decide), fun p hp => q p hp⟩
def sp_told_singles (K : PySem.W.Frag) : Sp := fun vs H Q _ => ∃ (a : Addr) (es : List Nat), vs = [.ref a] ∧ (SqL K H a (natV es) ∨ SqT K H a (natV es)) ∧ es.length ≤ 1000000 ∧ (∀ e ∈ es, e < 2 * Sg43.S.sign) ∧
  ∀ (p : Addr) (H' : Hp), H p = none → Same H H' → H' p = some (.lst ((tells es).map V.int)) → Q (.ref p) H'
theorem ok_told_singles (T : Txt K mg pSINGLE pVoice) (C_told : Cal P w K mg base "told" 3 ["form", "x"] (sp_told K)) (D : Def K mg "told_singles" s_told_singles ["row"]) : Cal P w K mg base "told_singles" 4 ["row"] (sp_told_singles K) := by
  refine D.cal sc_told_singles (fun vs H Q E h => ?_) (fun f cdv A outer s H vs Q E hr h => ?_)
  · obtain ⟨a, es, rfl, _⟩ := h
    rfl
  obtain ⟨a, es, rfl, hsq, hz, hes, q⟩ := h
  have fm := T.fSINGLE
  have hz2 : (natV es).length ≤ sizeLine := by
    rw [natV_len]
    exact Nat.le_trans hz (by rw [PySem.sizeLine_eq]; decide)
  have hl : ((tells es).map V.int).length = (natV es).length := by
    rw [natV_len, List.length_map]
    exact List.length_map _
  have turn : ∀ {i : Nat} {x y : V}, (natV es)[i]? = some x → ((tells es).map V.int)[i]? = some y → ∃ n : Nat, x = V.int (n : Int) ∧ n < 2 * Sg43.S.sign ∧ y = V.int (Tb.tell (Sg43.S.num n)) := fun {i x y} hx hy => by
    obtain ⟨n, hn, rfl⟩ := natV_get hx
    refine ⟨n, rfl, hes n (List.mem_of_getElem? hn), ?_⟩
    unfold tells at hy
    rw [List.getElem?_map, List.getElem?_map, hn] at hy
    exact (Option.some.inj hy).symm
  refine ⟨_, (pss_one (ps_ret (pe_lc rfl sc_told_singles.nd (pi_seq (pv 0)) (blkOk_by (own := [("x", 1)]) rfl) (fun _ _ _ _ _ => pg_name (i := 1) sc_told_singles.nd rfl (by first | exact Or.inl rfl | exact Or.inr rfl)) (fun _ _ _ _ _ => pts_nil) (fun _ _ _ _ _ => (pe_cal C_told (hr.mono (by decide)) (pa_cons (pe_tpc T.cSINGLE) (pa_cons (pv 1) pa_nil))))))), ?_⟩
  rcases hsq with h | h
  · refine .inl ⟨_, rfl, a, rfl, ⟨_, h⟩, fun D hD => lc_mapL (xs := natV es) (ys := (tells es).map V.int) hD h hz2 hl (fun _ => rfl) (fun i x y H2 k hx hy s2 hk => ?_) (fun H2 s2 e => q D H2 hD s2 e)⟩
    obtain ⟨n, rfl, hn, rfl⟩ := turn hx hy
    exact ⟨_, rfl, _, _, n, rfl, fm, hn, hk H2 (Same.refl _)⟩
  · refine .inr ⟨_, rfl, a, rfl, ⟨_, h⟩, fun D hD => lc_mapT (xs := natV es) (ys := (tells es).map V.int) hD h hz2 hl (fun _ => rfl) (fun i x y H2 k hx hy s2 hk => ?_) (fun H2 s2 e => q D H2 hD s2 e)⟩
    obtain ⟨n, rfl, hn, rfl⟩ := turn hx hy
    exact ⟨_, rfl, _, _, n, rfl, fm, hn, hk H2 (Same.refl _)⟩
end
end Fn
namespace Fn
open PySem PySem.Spec PyProof.Rows L2
open Tb (told1 flat)
section
variable {P : Program} {w : World} {K : PySem.W.Frag} {mg : Str → Option Value} {base : Heap} {pSINGLE pVoice : Addr}
abbrev b2 (o : Sg43.Num) : V := .int ((Tb.back Sg43.S o : Nat) : Int)
theorem s_one : Sg43.ONE = some Sg43.S.one := by decide
def sp_next_height (K : PySem.W.Frag) : Sp := fun vs H Q _ => ∃ (l : Addr) (r f h e g v : Nat), vs = [.ref l, .int (g : Int), .int (v : Int)] ∧ SqL K H l [.int (r : Int), .int (f : Int), .int (h : Int), .int (e : Int)] ∧
  r < 2 * Sg43.S.sign ∧ f < 2 * Sg43.S.sign ∧ h < 2 * Sg43.S.sign ∧ e < 2 * Sg43.S.sign ∧ v < 2 * Sg43.S.sign ∧ g ≤ 4 ∧
  ∀ (p : Addr) (u : Nat), H p = none → u < 2 * Sg43.S.sign → Sg43.S.num u = (Sg43.heightStep (Tb.slopesOf r f h e) g (Sg43.S.num v)).2 →
    Q (.ref p) (upd H p (.tup [.int (u : Int), .int (((Sg43.heightStep (Tb.slopesOf r f h e) g (Sg43.S.num v)).1 : Nat) : Int)]))
theorem ok_next_height (T : Txt K mg pSINGLE pVoice) (C_add : Cal P w K mg base "add" 5 ["form", "x", "y"] (sp_add K)) (C_subtract : Cal P w K mg base "subtract" 6 ["form", "x", "y"] (sp_subtract K)) (C_not_less : Cal P w K mg base "not_less" 4 ["form", "x", "y"] (sp_not_less K))
    (D : Def K mg "next_height" s_next_height ["slopes", "stage", "v"]) : Cal P w K mg base "next_height" 7 ["slopes", "stage", "v"] (sp_next_height K) := by
  refine D.cal sc_next_height (fun vs H Q E h => ?_) (fun f cdv A outer s H vs Q E hr h => ?_)
  · obtain ⟨l, r, f, h, e, g, v, rfl, _⟩ := h
    rfl
  obtain ⟨l, r, fl, h, e, g, v, rfl, hS, kr, kf, kh, ke, kv, hg, q⟩ := h
  have fm := T.fSINGLE
  have fr := fm.frac1
  have on := fm.one_num
  have z0 : (0 : Nat) < 2 * Sg43.S.sign := by decide
  have nz : Sg43.S.num 0 = some 0 := Tb.num_zero _
  have nn : ∀ {x : Nat}, x < 2 * Sg43.S.sign → Tb.Ok Sg43.S (Sg43.S.num x) := fun h => Tb.num_ok _ h
  refine ⟨_, (pss_cons (ps_if (pt_cmpR op_eq (pv 1) pe_int (nomark _)) (pss_cons (ps_set (i := 3) sc_next_height.nd rfl (by first | exact Or.inl rfl | exact Or.inr rfl) (pe_cal C_add (hr.mono (by decide)) (pa_cons (pe_tpc T.cSINGLE) (pa_cons (pv 2) (pa_cons (pe_ix ix_list (pv 0) pe_int (fun _ _ => rfl)) pa_nil)))))
      (pss_one (ps_ret (pe_ifExp (pt_val (pe_cal C_not_less (hr.mono (by decide)) (pa_cons (pe_tpc T.cSINGLE) (pa_cons (pv 3) (pa_cons (pe_ix ix_tup (pe_tpc T.cSINGLE) (pe_cst T.cONE) (fun _ _ => rfl)) pa_nil))))) (pe_tup (pa_cons (pe_ix ix_tup (pe_tpc T.cSINGLE) (pe_cst T.cONE) (fun _ _ => rfl)) (pa_cons pe_int pa_nil))) (pe_tup (pa_cons (pv 3) (pa_cons pe_int pa_nil))))))) pss_nil)
      (pss_cons (ps_if (pt_cmpR op_eq (pv 1) pe_int (nomark _)) (pss_cons (ps_set (i := 4) sc_next_height.nd rfl (by first | exact Or.inl rfl | exact Or.inr rfl) (pe_cal C_subtract (hr.mono (by decide)) (pa_cons (pe_tpc T.cSINGLE) (pa_cons (pv 2) (pa_cons (pe_ix ix_list (pv 0) pe_int (fun _ _ => rfl)) pa_nil)))))
      (pss_one (ps_ret (pe_ifExp (pt_val (pe_cal C_not_less (hr.mono (by decide)) (pa_cons (pe_tpc T.cSINGLE) (pa_cons (pe_ix ix_list (pv 0) pe_int (fun _ _ => rfl)) (pa_cons (pv 4) pa_nil))))) (pe_tup (pa_cons (pe_ix ix_list (pv 0) pe_int (fun _ _ => rfl)) (pa_cons pe_int pa_nil))) (pe_tup (pa_cons (pv 4) (pa_cons pe_int pa_nil))))))) pss_nil)
      (pss_cons (ps_if (pt_cmpR op_eq (pv 1) pe_int (nomark _)) (pss_one (ps_ret (pe_tup (pa_cons (pv 2) (pa_cons pe_int pa_nil))))) pss_nil)
      (pss_cons (ps_if (pt_cmpR op_eq (pv 1) pe_int (nomark _)) (pss_cons (ps_set (i := 5) sc_next_height.nd rfl (by first | exact Or.inl rfl | exact Or.inr rfl) (pe_cal C_subtract (hr.mono (by decide)) (pa_cons (pe_tpc T.cSINGLE) (pa_cons (pv 2) (pa_cons (pe_ix ix_list (pv 0) pe_int (fun _ _ => rfl)) pa_nil)))))
      (pss_one (ps_ret (pe_ifExp (pt_val (pe_cal C_not_less (hr.mono (by decide)) (pa_cons (pe_tpc T.cSINGLE) (pa_cons pe_int (pa_cons (pv 5) pa_nil))))) (pe_tup (pa_cons pe_int (pa_cons pe_int pa_nil))) (pe_tup (pa_cons (pv 5) (pa_cons pe_int pa_nil))))))) pss_nil)
      (pss_one (ps_ret (pe_tup (pa_cons pe_int (pa_cons pe_int pa_nil))))))))), ?_⟩
  -- stage 1
  refine ⟨_, rfl, rfl, _, rfl, ?_⟩
  refine ite2 (fun c => ?_) (fun c => ?_)
  · have c' : g = 1 := of_decide_eq_true (by rw [← dec_nat]; exact c)
    subst c'
    have ka : Tb.Ok Sg43.S (Sg43.S.add (Sg43.S.num v) (Sg43.S.num r)) := Tb.add_ok _ (nn kr)
    have kb := Tb.num_back _ fr ka
    have kl := Tb.back_lt _ fr ka
    refine ⟨_, rfl, _, rfl, l, _, _, _, rfl, rfl, hS, rfl, _, _, v, r, rfl, fm, kv, kr, ?_⟩
    refine ⟨_, rfl, _, _, _, _, rfl, rfl, fm.tup H, at3 _, _, _, _, _, rfl, fm, kl, on.2, _, rfl, ?_⟩
    rw [kb, on.1]
    have e1 : Sg43.heightStep (Tb.slopesOf r fl h e) 1 (Sg43.S.num v) = if Tb.nless Sg43.S (Sg43.S.add (Sg43.S.num v) (Sg43.S.num r)) (some Sg43.S.one) = true then (2, some Sg43.S.one) else (1, Sg43.S.add (Sg43.S.num v) (Sg43.S.num r)) := by
      rw [← s_one]
      rfl
    refine ite2 (fun d => ?_) (fun d => ?_)
    · rw [if_pos d] at e1
      refine ⟨_, _, _, _, rfl, rfl, fm.tup H, at3 _, (by show 2 ≤ sizeLine; decide), fun p hp => ?_⟩
      rw [e1] at q
      exact q p _ hp on.2 on.1
    · rw [if_neg d] at e1
      refine ⟨_, rfl, (by show 2 ≤ sizeLine; decide), fun p hp => ?_⟩
      rw [e1] at q
      exact q p _ hp kl kb
  have n1 : ¬ g = 1 := fun z => c (by rw [show decide (V.int (g : Int) = V.int 1) = decide (g = 1) from dec_nat g 1]; exact decide_eq_true z)
  -- stage 2
  refine ⟨_, rfl, rfl, _, rfl, ?_⟩
  refine ite2 (fun c => ?_) (fun c => ?_)
  · have c' : g = 2 := of_decide_eq_true (by rw [← dec_nat]; exact c)
    subst c'
    have ka : Tb.Ok Sg43.S (Sg43.S.sub (Sg43.S.num v) (Sg43.S.num fl)) := Tb.sub_ok _ (nn kf)
    have kb := Tb.num_back _ fr ka
    have kl := Tb.back_lt _ fr ka
    refine ⟨_, rfl, _, rfl, l, _, _, _, rfl, rfl, hS, rfl, _, _, v, fl, rfl, fm, kv, kf, ?_⟩
    refine ⟨_, rfl, l, _, _, _, rfl, rfl, hS, rfl, _, rfl, _, _, h, _, rfl, fm, kh, kl, _, rfl, ?_⟩
    rw [kb]
    have e1 : Sg43.heightStep (Tb.slopesOf r fl h e) 2 (Sg43.S.num v) = if Tb.nless Sg43.S (Sg43.S.num h) (Sg43.S.sub (Sg43.S.num v) (Sg43.S.num fl)) = true then (3, Sg43.S.num h) else (2, Sg43.S.sub (Sg43.S.num v) (Sg43.S.num fl)) := rfl
    refine ite2 (fun d => ?_) (fun d => ?_)
    · rw [if_pos d] at e1
      refine ⟨_, rfl, l, _, _, _, rfl, rfl, hS, rfl, (by show 2 ≤ sizeLine; decide), fun p hp => ?_⟩
      rw [e1] at q
      exact q p _ hp kh rfl
    · rw [if_neg d] at e1
      refine ⟨_, rfl, (by show 2 ≤ sizeLine; decide), fun p hp => ?_⟩
      rw [e1] at q
      exact q p _ hp kl kb
  have n2 : ¬ g = 2 := fun z => c (by rw [show decide (V.int (g : Int) = V.int 2) = decide (g = 2) from dec_nat g 2]; exact decide_eq_true z)
  -- stage 3
  refine ⟨_, rfl, rfl, _, rfl, ?_⟩
  refine ite2 (fun c => ?_) (fun c => ?_)
  · have c' : g = 3 := of_decide_eq_true (by rw [← dec_nat]; exact c)
    subst c'
    refine ⟨_, rfl, (by show 2 ≤ sizeLine; decide), fun p hp => ?_⟩
    exact q p v hp kv rfl
  have n3 : ¬ g = 3 := fun z => c (by rw [show decide (V.int (g : Int) = V.int 3) = decide (g = 3) from dec_nat g 3]; exact decide_eq_true z)
  -- stage 4
  refine ⟨_, rfl, rfl, _, rfl, ?_⟩
  refine ite2 (fun c => ?_) (fun c => ?_)
  · have c' : g = 4 := of_decide_eq_true (by rw [← dec_nat]; exact c)
    subst c'
    have ka : Tb.Ok Sg43.S (Sg43.S.sub (Sg43.S.num v) (Sg43.S.num e)) := Tb.sub_ok _ (nn ke)
    have kb := Tb.num_back _ fr ka
    have kl := Tb.back_lt _ fr ka
    refine ⟨_, rfl, _, rfl, l, _, _, _, rfl, rfl, hS, rfl, _, _, v, e, rfl, fm, kv, ke, ?_⟩
    refine ⟨_, rfl, _, _, 0, _, rfl, fm, z0, kl, _, rfl, ?_⟩
    rw [kb, nz]
    have e1 : Sg43.heightStep (Tb.slopesOf r fl h e) 4 (Sg43.S.num v) = if Tb.nless Sg43.S (some 0) (Sg43.S.sub (Sg43.S.num v) (Sg43.S.num e)) = true then (0, some 0) else (4, Sg43.S.sub (Sg43.S.num v) (Sg43.S.num e)) := rfl
    refine ite2 (fun d => ?_) (fun d => ?_)
    · rw [if_pos d] at e1
      refine ⟨(by show 2 ≤ sizeLine; decide), fun p hp => ?_⟩
      rw [e1] at q
      exact q p 0 hp z0 nz
    · rw [if_neg d] at e1
      refine ⟨_, rfl, (by show 2 ≤ sizeLine; decide), fun p hp => ?_⟩
      rw [e1] at q
      exact q p _ hp kl kb
  have n4 : ¬ g = 4 := fun z => c (by rw [show decide (V.int (g : Int) = V.int 4) = decide (g = 4) from dec_nat g 4]; exact decide_eq_true z)
  have g0 : g = 0 := by omega
  subst g0
  refine ⟨(by show 2 ≤ sizeLine; decide), fun p hp => ?_⟩
  exact q p 0 hp z0 nz
def sp_turned (K : PySem.W.Frag) : Sp := fun vs H Q _ => ∃ (l : Addr) (a b c s : Nat), vs = [.ref l, .int (c : Int), .int (s : Int)] ∧ SqL K H l [.int (a : Int), .int (b : Int)] ∧ a < 2 * Sg43.S.sign ∧ b < 2 * Sg43.S.sign ∧ c < 2 * Sg43.S.sign ∧ s < 2 * Sg43.S.sign ∧
  ∀ p, H p = none → Q (.ref p) (upd H p (.tup [b2 (Sg43.turnStep (Sg43.S.num c) (Sg43.S.num s) (Sg43.S.num a) (Sg43.S.num b)).1, b2 (Sg43.turnStep (Sg43.S.num c) (Sg43.S.num s) (Sg43.S.num a) (Sg43.S.num b)).2]))
theorem ok_turned (T : Txt K mg pSINGLE pVoice) (C_fma : Cal P w K mg base "fma" 4 ["form", "x", "y", "z"] (sp_fma K)) (C_fms : Cal P w K mg base "fms" 5 ["form", "x", "y", "z"] (sp_fms K)) (C_multiply : Cal P w K mg base "multiply" 5 ["form", "x", "y"] (sp_multiply K))
    (D : Def K mg "turned" s_turned ["turning", "c", "s"]) : Cal P w K mg base "turned" 6 ["turning", "c", "s"] (sp_turned K) := by
  refine D.cal sc_turned (fun vs H Q E h => ?_) (fun f cdv A outer s H vs Q E hr h => ?_)
  · obtain ⟨l, a, b, c, s, rfl, _⟩ := h
    rfl
  obtain ⟨l, a, b, c, z, rfl, hS, ha, hb, hc, hs, q⟩ := h
  have fm := T.fSINGLE
  have k1 : ∀ x y, Tb.Ok Sg43.S (Sg43.S.mul x y) := fun x y => Tb.mul_ok Sg43.S fm.exp1
  have e1 : ∀ x y, Sg43.S.num (Tb.back Sg43.S (Sg43.S.mul x y)) = Sg43.S.mul x y := fun x y => Tb.num_back Sg43.S fm.frac1 (k1 x y)
  refine ⟨_, (pss_cons (ps_set (i := 3) sc_turned.nd rfl (by first | exact Or.inl rfl | exact Or.inr rfl) (pe_ix ix_list (pv 0) pe_int (fun _ _ => rfl)))
      (pss_cons (ps_set (i := 4) sc_turned.nd rfl (by first | exact Or.inl rfl | exact Or.inr rfl) (pe_ix ix_list (pv 0) pe_int (fun _ _ => rfl)))
      (pss_one (ps_ret (pe_tup (pa_cons (pe_cal C_fms (hr.mono (by decide)) (pa_cons (pe_tpc T.cSINGLE) (pa_cons (pv 1) (pa_cons (pv 3) (pa_cons (pe_cal C_multiply (hr.mono (by decide)) (pa_cons (pe_tpc T.cSINGLE) (pa_cons (pv 2) (pa_cons (pv 4) pa_nil)))) pa_nil))))) (pa_cons (pe_cal C_fma (hr.mono (by decide)) (pa_cons (pe_tpc T.cSINGLE) (pa_cons (pv 1) (pa_cons (pv 4) (pa_cons (pe_cal C_multiply (hr.mono (by decide)) (pa_cons (pe_tpc T.cSINGLE) (pa_cons (pv 2) (pa_cons (pv 3) pa_nil)))) pa_nil))))) pa_nil))))))), ?_⟩
  refine ⟨_, rfl, l, _, _, _, rfl, rfl, hS, rfl, ?_⟩
  refine ⟨_, rfl, l, _, _, _, rfl, rfl, hS, rfl, ?_⟩
  refine ⟨_, rfl, _, rfl, _, rfl, _, rfl, _, _, z, b, rfl, fm, hs, hb, _, _, c, a, _, rfl, fm, hc, ha, Tb.back_lt _ fm.frac1 (k1 _ _), ?_⟩
  refine ⟨_, rfl, _, rfl, _, rfl, _, rfl, _, _, z, a, rfl, fm, hs, ha, _, _, c, b, _, rfl, fm, hc, hb, Tb.back_lt _ fm.frac1 (k1 _ _), ?_⟩
  refine ⟨(by show 2 ≤ sizeLine; decide), fun p hp => ?_⟩
  rw [e1, e1]
  exact q p hp
def sp_through_filter (K : PySem.W.Frag) : Sp := fun vs H Q _ => ∃ (l : Addr) (b0 b1 b2 a1 a2 z1 z2 x : Nat), vs = [.ref l, .int (z1 : Int), .int (z2 : Int), .int (x : Int)] ∧ SqL K H l [.int (b0 : Int), .int (b1 : Int), .int (b2 : Int), .int (a1 : Int), .int (a2 : Int)] ∧
  b0 < 2 * Sg43.S.sign ∧ b1 < 2 * Sg43.S.sign ∧ b2 < 2 * Sg43.S.sign ∧ a1 < 2 * Sg43.S.sign ∧ a2 < 2 * Sg43.S.sign ∧ z1 < 2 * Sg43.S.sign ∧ z2 < 2 * Sg43.S.sign ∧ x < 2 * Sg43.S.sign ∧
  ∀ (p : Addr) (y u1 u2 : Nat), H p = none → y < 2 * Sg43.S.sign → u1 < 2 * Sg43.S.sign → u2 < 2 * Sg43.S.sign → (Sg43.S.num y, Sg43.S.num u1, Sg43.S.num u2) = Sg43.filterStep (Tb.factorsOf b0 b1 b2 a1 a2) (Sg43.S.num z1) (Sg43.S.num z2) (Sg43.S.num x) →
    Q (.ref p) (upd H p (.tup [.int (y : Int), .int (u1 : Int), .int (u2 : Int)]))
theorem ok_through_filter (T : Txt K mg pSINGLE pVoice) (C_fma : Cal P w K mg base "fma" 4 ["form", "x", "y", "z"] (sp_fma K)) (C_fnma : Cal P w K mg base "fnma" 5 ["form", "x", "y", "z"] (sp_fnma K)) (C_multiply : Cal P w K mg base "multiply" 5 ["form", "x", "y"] (sp_multiply K))
    (D : Def K mg "through_filter" s_through_filter ["factors", "z1", "z2", "x"]) : Cal P w K mg base "through_filter" 6 ["factors", "z1", "z2", "x"] (sp_through_filter K) := by
  refine D.cal sc_through_filter (fun vs H Q E h => ?_) (fun f cdv A outer s H vs Q E hr h => ?_)
  · obtain ⟨l, b0, b1, b2, a1, a2, z1, z2, x, rfl, _⟩ := h
    rfl
  obtain ⟨l, b0, b1, b2, a1, a2, z1, z2, x, rfl, hS, k0, k1, k2, k3, k4, k5, k6, k7, q⟩ := h
  have fm := T.fSINGLE
  have fr := fm.frac1
  have nn : ∀ {x : Nat}, x < 2 * Sg43.S.sign → Tb.Ok Sg43.S (Sg43.S.num x) := fun h => Tb.num_ok _ h
  have oy : Tb.Ok Sg43.S (Sg43.S.ma (Sg43.S.num b0) (Sg43.S.num x) (Sg43.S.num z1)) := Tb.ma_ok _ (nn k5)
  have ly := Tb.back_lt _ fr oy
  have ey := Tb.num_back _ fr oy
  have o1 : Tb.Ok Sg43.S (Sg43.S.ma (Sg43.S.minus (Sg43.S.num a1)) (Sg43.S.ma (Sg43.S.num b0) (Sg43.S.num x) (Sg43.S.num z1)) (Sg43.S.num z2)) := Tb.ma_ok _ (nn k6)
  have om : Tb.Ok Sg43.S (Sg43.S.mul (Sg43.S.num b2) (Sg43.S.num x)) := Tb.mul_ok _ fm.exp1
  refine ⟨_, (pss_cons (ps_set (i := 4) sc_through_filter.nd rfl (by first | exact Or.inl rfl | exact Or.inr rfl) (pe_cal C_fma (hr.mono (by decide)) (pa_cons (pe_tpc T.cSINGLE) (pa_cons (pe_ix ix_list (pv 0) pe_int (fun _ _ => rfl)) (pa_cons (pv 3) (pa_cons (pv 1) pa_nil))))))
      (pss_one (ps_ret (pe_tup (pa_cons (pv 4) (pa_cons (pe_cal C_fma (hr.mono (by decide)) (pa_cons (pe_tpc T.cSINGLE) (pa_cons (pe_ix ix_list (pv 0) pe_int (fun _ _ => rfl)) (pa_cons (pv 3) (pa_cons (pe_cal C_fnma (hr.mono (by decide)) (pa_cons (pe_tpc T.cSINGLE) (pa_cons (pe_ix ix_list (pv 0) pe_int (fun _ _ => rfl)) (pa_cons (pv 4) (pa_cons (pv 2) pa_nil))))) pa_nil))))) (pa_cons (pe_cal C_fnma (hr.mono (by decide)) (pa_cons (pe_tpc T.cSINGLE) (pa_cons (pe_ix ix_list (pv 0) pe_int (fun _ _ => rfl)) (pa_cons (pv 4) (pa_cons (pe_cal C_multiply (hr.mono (by decide)) (pa_cons (pe_tpc T.cSINGLE) (pa_cons (pe_ix ix_list (pv 0) pe_int (fun _ _ => rfl)) (pa_cons (pv 3) pa_nil)))) pa_nil))))) pa_nil))))))), ?_⟩
  refine ⟨_, rfl, l, _, _, _, rfl, rfl, hS, rfl, _, rfl, _, rfl, _, _, b0, x, z1, rfl, fm, k0, k7, k5, ?_⟩
  refine ⟨_, rfl, ?_⟩
  refine ⟨_, rfl, l, _, _, _, rfl, rfl, hS, rfl, _, rfl, _, rfl, l, _, _, _, rfl, rfl, hS, rfl, _, rfl, _, rfl, _, _, a1, _, z2, rfl, fm, k3, ly, k6, ?_⟩
  rw [ey]
  refine ⟨_, _, b1, x, _, rfl, fm, k1, k7, Tb.back_lt _ fr o1, ?_⟩
  rw [Tb.num_back _ fr o1]
  refine ⟨_, rfl, l, _, _, _, rfl, rfl, hS, rfl, _, rfl, _, rfl, l, _, _, _, rfl, rfl, hS, rfl, _, rfl, _, _, b2, x, rfl, fm, k2, k7, ?_⟩
  refine ⟨_, _, a2, _, _, rfl, fm, k4, ly, Tb.back_lt _ fr om, ?_⟩
  rw [ey, Tb.num_back _ fr om]
  refine ⟨(by show 3 ≤ sizeLine; decide), fun p hp => ?_⟩
  have o2 : Tb.Ok Sg43.S (Sg43.S.ma (Sg43.S.num b1) (Sg43.S.num x) (Sg43.S.ma (Sg43.S.minus (Sg43.S.num a1)) (Sg43.S.ma (Sg43.S.num b0) (Sg43.S.num x) (Sg43.S.num z1)) (Sg43.S.num z2))) := Tb.ma_ok _ o1
  have o3 : Tb.Ok Sg43.S (Sg43.S.ma (Sg43.S.minus (Sg43.S.num a2)) (Sg43.S.ma (Sg43.S.num b0) (Sg43.S.num x) (Sg43.S.num z1)) (Sg43.S.mul (Sg43.S.num b2) (Sg43.S.num x))) := Tb.ma_ok _ om
  refine q p _ _ _ hp ly (Tb.back_lt _ fr o2) (Tb.back_lt _ fr o3) ?_
  rw [ey, Tb.num_back _ fr o2, Tb.num_back _ fr o3]
  rfl
def vf (lt ls lf : Addr) (l r : Int) (pp : Addr) (g v : Int) (pk : Addr) : List (Str × V) := [("turning", .ref lt), ("slopes", .ref ls), ("factors", .ref lf), ("left", .int l), ("right", .int r), ("point", .ref pp), ("stage", .int g), ("v", .int v), ("kept", .ref pk)]
/-- a voice's bits -/
structure VB where
  a : Nat
  b : Nat
  r0 : Nat
  r1 : Nat
  r2 : Nat
  r3 : Nat
  f0 : Nat
  f1 : Nat
  f2 : Nat
  f3 : Nat
  f4 : Nat
  l : Nat
  r : Nat
  c : Nat
  s : Nat
  v : Nat
  z1 : Nat
  z2 : Nat
  g : Nat
structure VB.Ok (u : VB) : Prop where
  a : u.a < 2 * Sg43.S.sign
  b : u.b < 2 * Sg43.S.sign
  r0 : u.r0 < 2 * Sg43.S.sign
  r1 : u.r1 < 2 * Sg43.S.sign
  r2 : u.r2 < 2 * Sg43.S.sign
  r3 : u.r3 < 2 * Sg43.S.sign
  f0 : u.f0 < 2 * Sg43.S.sign
  f1 : u.f1 < 2 * Sg43.S.sign
  f2 : u.f2 < 2 * Sg43.S.sign
  f3 : u.f3 < 2 * Sg43.S.sign
  f4 : u.f4 < 2 * Sg43.S.sign
  l : u.l < 2 * Sg43.S.sign
  r : u.r < 2 * Sg43.S.sign
  c : u.c < 2 * Sg43.S.sign
  s : u.s < 2 * Sg43.S.sign
  v : u.v < 2 * Sg43.S.sign
  z1 : u.z1 < 2 * Sg43.S.sign
  z2 : u.z2 < 2 * Sg43.S.sign
  g : u.g ≤ 4
def VB.nums (u : VB) : List Nat := [u.a, u.b, u.r0, u.r1, u.r2, u.r3, u.f0, u.f1, u.f2, u.f3, u.f4, u.l, u.r]
def VB.voice (u : VB) : Sg43.Voice := ⟨Sg43.S.num u.c, Sg43.S.num u.s, Sg43.S.num u.a, Sg43.S.num u.b, Tb.slopesOf u.r0 u.r1 u.r2 u.r3, u.g, Sg43.S.num u.v, Tb.factorsOf u.f0 u.f1 u.f2 u.f3 u.f4, Sg43.S.num u.z1, Sg43.S.num u.z2, Sg43.S.num u.l, Sg43.S.num u.r⟩
/-- at the beginning, with a stage -/
def VB.anew (u : VB) (g : Nat) : VB := { u with c := Sg43.S.one, s := 0, v := 0, z1 := 0, z2 := 0, g := g }
def VB.none : VB := ⟨Sg43.S.one, 0, 0, 0, 0, 0, 0, 0, 0, 0, 0, 0, 0, Sg43.S.one, 0, 0, 0, 0, 0⟩
/-- a voice stands at p, none of its lists among Av -/
structure VAt (C : Addr) (Av : Addr → Prop) (H : Hp) (p : Addr) (u : VB) : Prop where
  ex : ∃ (dx lt ls lf pp pk : Addr), H p = some (.ins C dx (vf lt ls lf (u.l : Int) (u.r : Int) pp (u.g : Int) (u.v : Int) pk)) ∧ H lt = some (.lst [.int (u.a : Int), .int (u.b : Int)]) ∧ H ls = some (.lst [.int (u.r0 : Int), .int (u.r1 : Int), .int (u.r2 : Int), .int (u.r3 : Int)]) ∧
    H lf = some (.lst [.int (u.f0 : Int), .int (u.f1 : Int), .int (u.f2 : Int), .int (u.f3 : Int), .int (u.f4 : Int)]) ∧ H pp = some (.tup [.int (u.c : Int), .int (u.s : Int)]) ∧ H pk = some (.tup [.int (u.z1 : Int), .int (u.z2 : Int)]) ∧ ¬ Av lt ∧ ¬ Av ls ∧ ¬ Av lf
/-- all but p is as it was -/
def But (H H' : Hp) (p : Addr) : Prop := ∀ b o, H b = some o → b ≠ p → H' b = some o
theorem But.refl (H : Hp) (p : Addr) : But H H p := fun _ _ e _ => e
theorem But.trans {H H1 H2 : Hp} {p : Addr} (a : But H H1 p) (b : But H1 H2 p) : But H H2 p := fun c o e n => b c o (a c o e n) n
theorem But.new {H H1 : Hp} {p q : Addr} {o : HO} (a : But H H1 p) (hq : H1 q = Option.none) : But H (upd H1 q o) p := fun c o' e n => by
  have e1 := a c o' e n
  exact (upd_ne (ne_of_none e1 hq)).trans e1
theorem But.put {H H1 : Hp} {p : Addr} {o : HO} (a : But H H1 p) : But H (upd H1 p o) p := fun c o' e n => (upd_ne n).trans (a c o' e n)
theorem keep_new {H : Hp} {b q : Addr} {o o' : HO} (e : H b = some o) (hq : H q = Option.none) : upd H q o' b = some o := (upd_ne (ne_of_none e hq)).trans e
theorem keep_put {H : Hp} {b p : Addr} {o o' : HO} (e : H b = some o) (n : b ≠ p) : upd H p o' b = some o := (upd_ne n).trans e
theorem VAt.but {C : Addr} {Av : Addr → Prop} {H H' : Hp} {p q dx : Addr} {fs : List (Str × V)} {u : VB} (h : VAt C Av H q u) (hp : H p = some (.ins C dx fs)) (n : q ≠ p) (k : But H H' p) : VAt C Av H' q u := by
  obtain ⟨dy, lt, ls, lf, pp, pk, h1, h2, h3, h4, h5, h6, vv⟩ := h.ex
  exact ⟨dy, lt, ls, lf, pp, pk, k _ _ h1 n, k _ _ h2 (ne_of h2 hp (by intro z; cases z)), k _ _ h3 (ne_of h3 hp (by intro z; cases z)), k _ _ h4 (ne_of h4 hp (by intro z; cases z)), k _ _ h5 (ne_of h5 hp (by intro z; cases z)), k _ _ h6 (ne_of h6 hp (by intro z; cases z)), vv⟩
theorem VAt.same {C : Addr} {Av : Addr → Prop} {H H' : Hp} {q : Addr} {u : VB} (h : VAt C Av H q u) (k : Same H H') : VAt C Av H' q u := by
  obtain ⟨dy, lt, ls, lf, pp, pk, h1, h2, h3, h4, h5, h6, vv⟩ := h.ex
  exact ⟨dy, lt, ls, lf, pp, pk, k _ _ h1, k _ _ h2, k _ _ h3, k _ _ h4, k _ _ h5, k _ _ h6, vv⟩
/-- a new object, kept in an attribute of p -/
theorem step_new {G : Hp → Prop} {H : Hp} {p t : Addr} {o o' o0 : HO} (hp : H p = some o0) (ht : H t = Option.none) (k : ∀ H1 : Hp, H1 p = some o' → H1 t = some o → t ≠ p → But H H1 p → G H1) : G (upd (upd H t o) p o') :=
  k _ upd_same (keep_put upd_same (ne_of_none hp ht).symm) (ne_of_none hp ht).symm (But.put (But.new (But.refl _ _) ht))
theorem step_set {G : Hp → Prop} {H : Hp} {p : Addr} {o' : HO} (k : ∀ H1 : Hp, H1 p = some o' → But H H1 p → G H1) : G (upd H p o') := k _ upd_same (But.put (But.refl _ _))
theorem step_at {G : Hp → Prop} {H : Hp} {t : Addr} {o : HO} (ht : H t = Option.none) (k : ∀ H1 : Hp, H1 t = some o → Same H H1 → G H1) : G (upd H t o) := k _ upd_same (same_new ht _)
theorem But.same {H H1 H2 : Hp} {p : Addr} (a : But H H1 p) (b : Same H1 H2) : But H H2 p := fun c o e n => b c o (a c o e n)

theorem VAt.list {C : Addr} {Av : Addr → Prop} {H : Hp} {q pn : Addr} {u : VB} {xs : List V} {o : HO} (h : VAt C Av H q u) (hn : H pn = some (.lst xs)) (av : Av pn) : VAt C Av (upd H pn o) q u := by
  obtain ⟨dy, lt, ls, lf, pp, pk, h1, h2, h3, h4, h5, h6, v1, v2, v3⟩ := h.ex
  exact ⟨dy, lt, ls, lf, pp, pk, keep_put h1 (ne_of h1 hn (by intro z; cases z)), keep_put h2 (fun z => v1 (z ▸ av)), keep_put h3 (fun z => v2 (z ▸ av)), keep_put h4 (fun z => v3 (z ▸ av)), keep_put h5 (ne_of h5 hn (by intro z; cases z)), keep_put h6 (ne_of h6 hn (by intro z; cases z)), v1, v2, v3⟩
/-- a new address is among no lists -/
theorem VAt.more {C : Addr} {Av : Addr → Prop} {H : Hp} {q pn : Addr} {u : VB} (h : VAt C Av H q u) (hn : H pn = Option.none) : VAt C (fun b => Av b ∨ b = pn) H q u := by
  obtain ⟨dy, lt, ls, lf, pp, pk, h1, h2, h3, h4, h5, h6, v1, v2, v3⟩ := h.ex
  exact ⟨dy, lt, ls, lf, pp, pk, h1, h2, h3, h4, h5, h6, fun z => z.elim v1 (ne_of_none h2 hn), fun z => z.elim v2 (ne_of_none h3 hn), fun z => z.elim v3 (ne_of_none h4 hn)⟩
theorem VAt.less {C : Addr} {Av Av' : Addr → Prop} {H : Hp} {q : Addr} {u : VB} (h : VAt C Av H q u) (k : ∀ b, Av' b → Av b) : VAt C Av' H q u := by
  obtain ⟨dy, lt, ls, lf, pp, pk, h1, h2, h3, h4, h5, h6, v1, v2, v3⟩ := h.ex
  exact ⟨dy, lt, ls, lf, pp, pk, h1, h2, h3, h4, h5, h6, fun z => v1 (k _ z), fun z => v2 (k _ z), fun z => v3 (k _ z)⟩
/-- the voices, one behind another -/
structure VsAt (C : Addr) (Av : Addr → Prop) (H : Hp) (as : List Addr) (xs : List Sg43.Voice) : Prop where
  len : as.length = xs.length
  at_ : ∀ (j : Nat) (a : Addr), as[j]? = some a → ∃ u : VB, u.Ok ∧ VAt C Av H a u ∧ xs[j]? = some u.voice
theorem VAt.obj {C : Addr} {Av : Addr → Prop} {H : Hp} {q : Addr} {u : VB} (h : VAt C Av H q u) : ∃ dx fs, H q = some (.ins C dx fs) := by
  obtain ⟨dy, lt, ls, lf, pp, pk, h1, _⟩ := h.ex
  exact ⟨_, _, h1⟩
theorem VsAt.mem {C : Addr} {Av : Addr → Prop} {H : Hp} {as : List Addr} {xs : List Sg43.Voice} (h : VsAt C Av H as xs) {a : Addr} (m : a ∈ as) : ∃ dx fs, H a = some (.ins C dx fs) := by
  obtain ⟨j, hj, rfl⟩ := List.mem_iff_getElem.mp m
  obtain ⟨u, _, v, _⟩ := h.at_ j _ (List.getElem?_eq_getElem hj)
  exact v.obj
theorem VsAt.same {C : Addr} {Av : Addr → Prop} {H H' : Hp} {as : List Addr} {xs : List Sg43.Voice} (h : VsAt C Av H as xs) (k : Same H H') : VsAt C Av H' as xs :=
  ⟨h.len, fun j a e => let ⟨u, o, v, x⟩ := h.at_ j a e; ⟨u, o, v.same k, x⟩⟩
theorem VsAt.list {C : Addr} {Av : Addr → Prop} {H : Hp} {as : List Addr} {xs : List Sg43.Voice} {pn : Addr} {ys : List V} {o : HO} (h : VsAt C Av H as xs) (hn : H pn = some (.lst ys)) (av : Av pn) : VsAt C Av (upd H pn o) as xs :=
  ⟨h.len, fun j a e => let ⟨u, ok, v, x⟩ := h.at_ j a e; ⟨u, ok, v.list hn av, x⟩⟩
theorem VsAt.more {C : Addr} {Av : Addr → Prop} {H : Hp} {as : List Addr} {xs : List Sg43.Voice} {pn : Addr} (h : VsAt C Av H as xs) (hn : H pn = Option.none) : VsAt C (fun b => Av b ∨ b = pn) H as xs :=
  ⟨h.len, fun j a e => let ⟨u, ok, v, x⟩ := h.at_ j a e; ⟨u, ok, v.more hn, x⟩⟩
theorem VsAt.less {C : Addr} {Av Av' : Addr → Prop} {H : Hp} {as : List Addr} {xs : List Sg43.Voice} (h : VsAt C Av H as xs) (k : ∀ b, Av' b → Av b) : VsAt C Av' H as xs :=
  ⟨h.len, fun j a e => let ⟨u, ok, v, x⟩ := h.at_ j a e; ⟨u, ok, v.less k, x⟩⟩
/-- one voice changed -/
theorem VsAt.set {C : Addr} {Av : Addr → Prop} {H H' : Hp} {as : List Addr} {xs : List Sg43.Voice} {i : Nat} {p : Addr} {u : VB} (h : VsAt C Av H as xs) (nd : as.Nodup) (hi : as[i]? = some p) (ok : u.Ok) (v : VAt C Av H' p u) (k : But H H' p) : VsAt C Av H' as (xs.set i u.voice) := by
  obtain ⟨u0, _, v0, _⟩ := h.at_ i p hi
  obtain ⟨dx, fs, hp⟩ := v0.obj
  have hil : i < as.length := (List.getElem?_eq_some_iff.mp hi).1
  refine ⟨by rw [List.length_set]; exact h.len, fun j a e => ?_⟩
  by_cases c : j = i
  · subst c
    have ea : a = p := Option.some.inj (e.symm.trans hi)
    subst ea
    exact ⟨u, ok, v, List.getElem?_set_self (by rw [← h.len]; exact hil)⟩
  · obtain ⟨u1, o1, v1, x1⟩ := h.at_ j a e
    have na : a ≠ p := fun z => c (nd_ix nd e (by rw [z]; exact hi))
    exact ⟨u1, o1, v1.but hp na k, by rw [List.getElem?_set_ne (fun z => c z.symm)]; exact x1⟩
/-- all but the voices is as it was -/
def Out (H H' : Hp) (as : List Addr) : Prop := ∀ b o, H b = some o → ¬ b ∈ as → H' b = some o
theorem Out.refl (H : Hp) (as : List Addr) : Out H H as := fun _ _ e _ => e
theorem Out.trans {H H1 H2 : Hp} {as : List Addr} (a : Out H H1 as) (b : Out H1 H2 as) : Out H H2 as := fun c o e n => b c o (a c o e n) n
theorem Out.but {H H1 : Hp} {as : List Addr} {p : Addr} (m : p ∈ as) (b : But H H1 p) : Out H H1 as := fun c o e n => b c o e fun z => n (z ▸ m)
theorem Out.same {H H1 : Hp} {as : List Addr} (b : Same H H1) : Out H H1 as := fun c o e _ => b c o e
theorem Out.free {C : Addr} {Av : Addr → Prop} {H H1 : Hp} {as : List Addr} {xs : List Sg43.Voice} {q : Addr} (a : Out H H1 as) (v : VsAt C Av H1 as xs) (hq : H1 q = Option.none) : H q = Option.none := by
  cases e : H q with
  | none => rfl
  | some o =>
    by_cases m : q ∈ as
    · obtain ⟨dx, fs, z⟩ := v.mem m
      rw [z] at hq
      cases hq
    · rw [a _ _ e m] at hq
      cases hq
structure Players (C : Addr) (Av : Addr → Prop) (H : Hp) (pl : Addr) (as : List Addr) (xs : List Sg43.Voice) : Prop where
  lst : H pl = some (.lst (as.map V.ref))
  nd : as.Nodup
  vs : VsAt C Av H as xs
theorem Players.out {C : Addr} {Av : Addr → Prop} {H : Hp} {pl : Addr} {as : List Addr} {xs : List Sg43.Voice} (h : Players C Av H pl as xs) : ¬ pl ∈ as := fun m => by
  obtain ⟨dx, fs, z⟩ := h.vs.mem m
  rw [h.lst] at z
  cases z
def sp_Voice_rest (C : Addr) : Sp := fun vs H Q _ => ∃ (p dx : Addr) (fs : List (Str × V)) (g : Int), vs = [.ref p, .int g] ∧ H p = some (.ins C dx fs) ∧ fs.length ≤ 100 ∧
  ∀ (pp pk : Addr) (H' : Hp), H' p = some (.ins C dx (putF "kept" (.ref pk) (putF "v" (.int 0) (putF "stage" (.int g) (putF "point" (.ref pp) fs))))) → H' pp = some (.tup [.int (Sg43.S.one : Int), .int 0]) → H' pk = some (.tup [.int 0, .int 0]) → But H H' p → Q .non H'
theorem ok_Voice_rest (T : Txt K mg pSINGLE pVoice) (D : Dfm K pVoice "rest" "Voice.rest" s_Voice_rest ["self", "stage"]) : Mth P w K mg base pVoice "rest" 1 ["self", "stage"] (sp_Voice_rest pVoice) := by
  refine D.mth sc_Voice_rest (fun vs H Q E h => ?_) (fun f cdv A outer s H vs Q E hr h => ?_)
  · obtain ⟨p, dx, fs, g, rfl, _⟩ := h
    rfl
  obtain ⟨p, dx, fs, g, rfl, hp, hl, q⟩ := h
  have fm := T.fSINGLE
  refine ⟨_, (pss_cons (ps_fld (pv 0) (pe_tup (pa_cons (pe_ix ix_tup (pe_tpc T.cSINGLE) (pe_cst T.cONE) (fun _ _ => rfl)) (pa_cons pe_int pa_nil))) rfl)
      (pss_cons (ps_fld (pv 0) (pv 1) rfl)
      (pss_cons (ps_fld (pv 0) pe_int rfl)
      (pss_one (ps_fld (pv 0) (pe_tup (pa_cons pe_int (pa_cons pe_int pa_nil))) rfl))))), ?_⟩
  refine ⟨_, _, _, _, rfl, rfl, fm.tup H, at3 _, (by show 2 ≤ sizeLine; decide), fun pp hpp => ?_⟩
  have l1 := length_putF "point" (V.ref pp) fs
  have l2 := length_putF "stage" (V.int g) (putF "point" (V.ref pp) fs)
  have l3 := length_putF "v" (V.int 0) (putF "stage" (V.int g) (putF "point" (V.ref pp) fs))
  refine ⟨_, rfl, p, pVoice, dx, _, rfl, keep_new hp hpp, T.clVoice, T.n_point, by omega, ?_⟩
  refine step_new hp hpp fun H1 P1 T1 n1 B1 => ?_
  refine ⟨_, rfl, _, rfl, p, pVoice, dx, _, rfl, P1, T.clVoice, T.n_stage, by omega, ?_⟩
  refine step_set fun H2 P2 B2 => ?_
  refine ⟨_, rfl, p, pVoice, dx, _, rfl, P2, T.clVoice, T.n_v, by omega, ?_⟩
  refine step_set fun H3 P3 B3 => ?_
  refine ⟨(by show 2 ≤ sizeLine; decide), fun pk hpk => ?_⟩
  refine ⟨_, rfl, p, pVoice, dx, _, rfl, keep_new P3 hpk, T.clVoice, T.n_kept, by omega, ?_⟩
  refine step_new P3 hpk fun H4 P4 T4 n4 B4 => ?_
  exact q pp pk H4 P4 (B4 _ _ (B3 _ _ (B2 _ _ T1 n1) n1) n1) T4 (((B1.trans B2).trans B3).trans B4)
def sp_Voice_set_up (C : Addr) : Sp := fun vs H Q _ => ∃ (p dx l : Addr) (fs : List (Str × V)) (u : VB) (Av : Addr → Prop), vs = [.ref p, .ref l] ∧ H p = some (.ins C dx fs) ∧ (fs = [] ∨ ∃ (lt ls lf : Addr) (x y : Int) (pp : Addr) (g v : Int) (pk : Addr), fs = vf lt ls lf x y pp g v pk) ∧ H l = some (.lst (natV u.nums)) ∧ (∀ b, Av b → ∃ o, H b = some o) ∧
  ∀ (H' : Hp), VAt C Av H' p (u.anew 0) → But H H' p → Q .non H'
theorem ok_Voice_set_up (T : Txt K mg pSINGLE pVoice) (C_Voice_rest : Mth P w K mg base pVoice "rest" 1 ["self", "stage"] (sp_Voice_rest pVoice)) (D : Dfm K pVoice "set_up" "Voice.set_up" s_Voice_set_up ["self", "numbers"]) : Mth P w K mg base pVoice "set_up" 2 ["self", "numbers"] (sp_Voice_set_up pVoice) := by
  refine D.mth sc_Voice_set_up (fun vs H Q E h => ?_) (fun f cdv A outer s H vs Q E hr h => ?_)
  · obtain ⟨p, dx, l, fs, u, Av, rfl, _⟩ := h
    rfl
  obtain ⟨p, dx, l, fs, u, Av, rfl, hp, hfs, hL, av, q⟩ := h
  have nl : l ≠ p := ne_of hL hp (by intro z; cases z)
  have c1 : cutV (natV u.nums) (some 0) (some 2) = [.int (u.a : Int), .int (u.b : Int)] := rfl
  have c2 : cutV (natV u.nums) (some 2) (some 6) = [.int (u.r0 : Int), .int (u.r1 : Int), .int (u.r2 : Int), .int (u.r3 : Int)] := rfl
  have c3 : cutV (natV u.nums) (some 6) (some 11) = [.int (u.f0 : Int), .int (u.f1 : Int), .int (u.f2 : Int), .int (u.f3 : Int), .int (u.f4 : Int)] := rfl
  have a11 : atI (natV u.nums) 11 = some (.int (u.l : Int)) := rfl
  have a12 : atI (natV u.nums) 12 = some (.int (u.r : Int)) := rfl
  have fl : fs.length ≤ 9 := by
    rcases hfs with rfl | ⟨_, _, _, _, _, _, _, _, _, rfl⟩
    · show 0 ≤ 9; decide
    · exact Nat.le_refl 9
  refine ⟨_, (pss_cons (ps_fld (pv 0) (pe_slice sl_list (pv 1) (po_some pe_int) (po_some pe_int)) rfl)
      (pss_cons (ps_fld (pv 0) (pe_slice sl_list (pv 1) (po_some pe_int) (po_some pe_int)) rfl)
      (pss_cons (ps_fld (pv 0) (pe_slice sl_list (pv 1) (po_some pe_int) (po_some pe_int)) rfl)
      (pss_cons (ps_fld (pv 0) (pe_ix ix_list (pv 1) pe_int (fun _ _ => rfl)) rfl)
      (pss_cons (ps_fld (pv 0) (pe_ix ix_list (pv 1) pe_int (fun _ _ => rfl)) rfl)
      (pss_one (ps_expr (pe_mth C_Voice_rest (hr.mono (by decide)) (pv 0) (pa_cons pe_int pa_nil))))))))), ?_⟩
  refine ⟨_, rfl, _, rfl, _, rfl, l, _, rfl, SqL.of hL, fun t1 h1 => ?_⟩
  rw [c1]
  have l1 := length_putF "turning" (V.ref t1) fs
  refine ⟨_, rfl, p, pVoice, dx, _, rfl, keep_new hp h1, T.clVoice, T.n_turning, by omega, ?_⟩
  refine step_new hp h1 fun H1 P1 T1 n1 B1 => ?_
  have L1 := B1 _ _ hL nl
  refine ⟨_, rfl, _, rfl, _, rfl, l, _, rfl, SqL.of L1, fun t2 h2 => ?_⟩
  rw [c2]
  have l2 := length_putF "slopes" (V.ref t2) (putF "turning" (V.ref t1) fs)
  refine ⟨_, rfl, p, pVoice, dx, _, rfl, keep_new P1 h2, T.clVoice, T.n_slopes, by omega, ?_⟩
  refine step_new P1 h2 fun H2 P2 T2 n2 B2 => ?_
  have L2 := B2 _ _ L1 nl
  refine ⟨_, rfl, _, rfl, _, rfl, l, _, rfl, SqL.of L2, fun t3 h3 => ?_⟩
  rw [c3]
  have l3 := length_putF "factors" (V.ref t3) (putF "slopes" (V.ref t2) (putF "turning" (V.ref t1) fs))
  refine ⟨_, rfl, p, pVoice, dx, _, rfl, keep_new P2 h3, T.clVoice, T.n_factors, by omega, ?_⟩
  refine step_new P2 h3 fun H3 P3 T3 n3 B3 => ?_
  have L3 := B3 _ _ L2 nl
  refine ⟨_, rfl, l, _, _, _, rfl, rfl, SqL.of L3, a11, ?_⟩
  have l4 := length_putF "left" (V.int (u.l : Int)) (putF "factors" (V.ref t3) (putF "slopes" (V.ref t2) (putF "turning" (V.ref t1) fs)))
  refine ⟨_, rfl, p, pVoice, dx, _, rfl, P3, T.clVoice, T.n_left, by omega, ?_⟩
  refine step_set fun H4 P4 B4 => ?_
  have L4 := B4 _ _ L3 nl
  refine ⟨_, rfl, l, _, _, _, rfl, rfl, SqL.of L4, a12, ?_⟩
  have l5 := length_putF "right" (V.int (u.r : Int)) (putF "left" (V.int (u.l : Int)) (putF "factors" (V.ref t3) (putF "slopes" (V.ref t2) (putF "turning" (V.ref t1) fs))))
  refine ⟨_, rfl, p, pVoice, dx, _, rfl, P4, T.clVoice, T.n_right, by omega, ?_⟩
  refine step_set fun H5 P5 B5 => ?_
  refine ⟨_, rfl, p, dx, _, rfl, P5, ?_, p, dx, _, 0, rfl, P5, by omega, fun pp pk H' e1 e2 e3 bt => ?_⟩
  · rcases hfs with rfl | ⟨_, _, _, _, _, _, _, _, _, rfl⟩ <;> rfl
  have b15 := (((B2.trans B3).trans B4).trans B5).trans bt
  have e0 : H' p = some (.ins pVoice dx (vf t1 t2 t3 (u.l : Int) (u.r : Int) pp ((0 : Nat) : Int) ((0 : Nat) : Int) pk)) := by
    rcases hfs with rfl | ⟨_, _, _, _, _, _, _, _, _, rfl⟩ <;> exact e1
  refine q H' ⟨dx, t1, t2, t3, pp, pk, e0, b15 _ _ T1 n1, (((B3.trans B4).trans B5).trans bt) _ _ T2 n2, ((B4.trans B5).trans bt) _ _ T3 n3, e2, e3, fun z => ?_, fun z => ?_, fun z => ?_⟩ (B1.trans b15)
  · obtain ⟨o, e⟩ := av t1 z
    rw [h1] at e
    cases e
  · obtain ⟨o, e⟩ := av t2 z
    rw [B1 _ _ e n2] at h2
    cases h2
  · obtain ⟨o, e⟩ := av t3 z
    rw [B2 _ _ (B1 _ _ e n3) n3] at h3
    cases h3
def sp_Voice___init__ (C : Addr) : Sp := fun vs H Q _ => ∃ (p dx : Addr) (Av : Addr → Prop), vs = [.ref p] ∧ H p = some (.ins C dx []) ∧ (∀ b, Av b → ∃ o, H b = some o) ∧ ∀ (H' : Hp), VAt C Av H' p VB.none → But H H' p → Q .non H'
theorem ok_Voice___init__ (T : Txt K mg pSINGLE pVoice) (C_Voice_set_up : Mth P w K mg base pVoice "set_up" 2 ["self", "numbers"] (sp_Voice_set_up pVoice)) (D : Dfi K mg "Voice" pVoice "__init__" "Voice.__init__" s_Voice___init__ ["self"]) : Mkr P w K mg base "Voice" pVoice 3 ["self"] (sp_Voice___init__ pVoice) := by
  refine D.mkr sc_Voice___init__ (fun vs H Q E h => ?_) (fun f cdv A outer s H vs Q E hr h => ?_)
  · obtain ⟨p, dx, Av, rfl, _⟩ := h
    rfl
  obtain ⟨p, dx, Av, rfl, hp, av, q⟩ := h
  have fm := T.fSINGLE
  refine ⟨_, (pss_one (ps_expr (pe_mth C_Voice_set_up (hr.mono (by decide)) (pv 0) (pa_cons (pe_op op_cat (pe_lst (pa_cons (pe_ix ix_tup (pe_tpc T.cSINGLE) (pe_cst T.cONE) (fun _ _ => rfl)) (pa_cons pe_int pa_nil))) (pe_op op_rep (pe_lst (pa_cons pe_int pa_nil)) pe_int)) pa_nil)))), ?_⟩
  refine ⟨_, rfl, p, dx, _, rfl, hp, rfl, ?_⟩
  refine ⟨_, _, _, _, rfl, rfl, fm.tup H, at3 _, (by show 2 ≤ sizeLine; decide), fun q1 h1 => ?_⟩
  refine step_at h1 fun H1 T1 S1 => ?_
  refine ⟨(by show 1 ≤ sizeLine; decide), fun q2 h2 => ?_⟩
  refine ⟨q2, _, _, rfl, rfl, upd_same, by decide, by decide, (by show 1 * 11 ≤ sizeLine; decide), fun q3 h3 => ?_⟩
  refine ⟨q1, q3, _, _, rfl, rfl, same_new h3 _ _ _ (same_new h2 _ _ _ T1), upd_same, (by show 2 + 11 ≤ sizeLine; decide), fun q4 h4 => ?_⟩
  refine ⟨p, dx, q4, [], VB.none, Av, rfl, same_new h4 _ _ _ (same_new h3 _ _ _ (same_new h2 _ _ _ (S1 _ _ hp))), .inl rfl, upd_same, (fun b z => let ⟨o, e⟩ := av b z; ⟨o, same_new h4 _ _ _ (same_new h3 _ _ _ (same_new h2 _ _ _ (S1 _ _ e)))⟩), fun H' v bt => ?_⟩
  exact q H' v fun b o e n => bt b o (same_new h4 _ _ _ (same_new h3 _ _ _ (same_new h2 _ _ _ (S1 _ _ e)))) n
def sp_Voice_begin (C : Addr) : Sp := fun vs H Q _ => ∃ (p : Addr) (u : VB) (Av : Addr → Prop), vs = [.ref p] ∧ VAt C Av H p u ∧ ∀ (H' : Hp), VAt C Av H' p (u.anew 1) → But H H' p → Q .non H'
theorem ok_Voice_begin (T : Txt K mg pSINGLE pVoice) (C_Voice_rest : Mth P w K mg base pVoice "rest" 1 ["self", "stage"] (sp_Voice_rest pVoice)) (D : Dfm K pVoice "begin" "Voice.begin" s_Voice_begin ["self"]) : Mth P w K mg base pVoice "begin" 2 ["self"] (sp_Voice_begin pVoice) := by
  refine D.mth sc_Voice_begin (fun vs H Q E h => ?_) (fun f cdv A outer s H vs Q E hr h => ?_)
  · obtain ⟨p, u, Av, rfl, _⟩ := h
    rfl
  obtain ⟨p, u, Av, rfl, ⟨dx, lt, ls, lf, pp0, pk0, h1, h2, h3, h4, h5, h6, vv⟩, q⟩ := h
  refine ⟨_, (pss_one (ps_expr (pe_mth C_Voice_rest (hr.mono (by decide)) (pv 0) (pa_cons pe_int pa_nil)))), ?_⟩
  refine ⟨_, rfl, p, dx, _, rfl, h1, rfl, p, dx, _, 1, rfl, h1, (by show 9 ≤ 100; decide), fun pp pk H' e1 e2 e3 bt => ?_⟩
  exact q H' ⟨dx, lt, ls, lf, pp, pk, e1, bt _ _ h2 (ne_of h2 h1 (by intro z; cases z)), bt _ _ h3 (ne_of h3 h1 (by intro z; cases z)), bt _ _ h4 (ne_of h4 h1 (by intro z; cases z)), e2, e3, vv⟩ bt
def VB.ended (u : VB) : VB := { u with g := if u.g = 0 then 0 else 4 }
def sp_Voice_finish (C : Addr) : Sp := fun vs H Q _ => ∃ (p : Addr) (u : VB) (Av : Addr → Prop), vs = [.ref p] ∧ VAt C Av H p u ∧ ∀ (H' : Hp), VAt C Av H' p u.ended → But H H' p → Q .non H'
theorem ok_Voice_finish (T : Txt K mg pSINGLE pVoice) (D : Dfm K pVoice "finish" "Voice.finish" s_Voice_finish ["self"]) : Mth P w K mg base pVoice "finish" 1 ["self"] (sp_Voice_finish pVoice) := by
  refine D.mth sc_Voice_finish (fun vs H Q E h => ?_) (fun f cdv A outer s H vs Q E hr h => ?_)
  · obtain ⟨p, u, Av, rfl, _⟩ := h
    rfl
  obtain ⟨p, u, Av, rfl, va, q⟩ := h
  obtain ⟨dx, lt, ls, lf, pp, pk, h1, h2, h3, h4, h5, h6, vv⟩ := id va.ex
  refine ⟨_, (pss_one (ps_if (pt_cmpR op_ne (pe_fld (pv 0) rfl) pe_int (nomark _)) (pss_one (ps_fld (pv 0) pe_int rfl)) pss_nil)), ?_⟩
  refine ⟨_, rfl, p, pVoice, dx, _, _, rfl, h1, T.clVoice, T.n_stage, rfl, rfl, _, rfl, ?_⟩
  rw [show decide (V.int (u.g : Int) = V.int 0) = decide (u.g = 0) from dec_nat u.g 0]
  by_cases c : u.g = 0
  · rw [decide_eq_true c]
    refine iteF ?_
    refine q H ?_ (But.refl _ _)
    have e : u.ended = u := by
      unfold VB.ended
      rw [if_pos c, ← c]
    rw [e]
    exact va
  · rw [decide_eq_false c]
    refine iteT ⟨_, rfl, p, pVoice, dx, _, rfl, h1, T.clVoice, T.n_stage, (by show 9 < 1000; decide), ?_⟩
    have bt : But H (upd H p (.ins pVoice dx (putF "stage" (V.int 4) (vf lt ls lf (u.l : Int) (u.r : Int) pp (u.g : Int) (u.v : Int) pk)))) p := But.put (But.refl _ _)
    have e : u.ended = { u with g := 4 } := by
      unfold VB.ended
      rw [if_neg c]
    refine q _ ?_ bt
    rw [e]
    exact ⟨dx, lt, ls, lf, pp, pk, upd_same, bt _ _ h2 (ne_of h2 h1 (by intro z; cases z)), bt _ _ h3 (ne_of h3 h1 (by intro z; cases z)), bt _ _ h4 (ne_of h4 h1 (by intro z; cases z)), bt _ _ h5 (ne_of h5 h1 (by intro z; cases z)), bt _ _ h6 (ne_of h6 h1 (by intro z; cases z)), vv⟩
def sp_Voice_sound (C : Addr) : Sp := fun vs H Q _ => ∃ (p : Addr) (u : VB) (Av : Addr → Prop), vs = [.ref p] ∧ VAt C Av H p u ∧ u.Ok ∧
  ∀ (y : Nat) (u' : VB) (H' : Hp), y < 2 * Sg43.S.sign → Sg43.S.num y = (Sg43.sounds u.voice).1 → u'.voice = (Sg43.sounds u.voice).2 → u'.Ok → u'.l = u.l → u'.r = u.r → VAt C Av H' p u' → But H H' p → Q (.int (y : Int)) H'
theorem ok_Voice_sound (T : Txt K mg pSINGLE pVoice) (C_next_height : Cal P w K mg base "next_height" 7 ["slopes", "stage", "v"] (sp_next_height K)) (C_multiply : Cal P w K mg base "multiply" 5 ["form", "x", "y"] (sp_multiply K)) (C_through_filter : Cal P w K mg base "through_filter" 6 ["factors", "z1", "z2", "x"] (sp_through_filter K))
    (C_turned : Cal P w K mg base "turned" 6 ["turning", "c", "s"] (sp_turned K)) (D : Dfm K pVoice "sound" "Voice.sound" s_Voice_sound ["self"]) : Mth P w K mg base pVoice "sound" 8 ["self"] (sp_Voice_sound pVoice) := by
  refine D.mth sc_Voice_sound (fun vs H Q E h => ?_) (fun f cdv A outer s H vs Q E hr h => ?_)
  · obtain ⟨p, u, Av, rfl, _⟩ := h
    rfl
  obtain ⟨p, u, Av, rfl, ⟨dx, lt, ls, lf, pp, pk, h1, h2, h3, h4, h5, h6, vv⟩, ok, q⟩ := h
  have fm := T.fSINGLE
  have fr := fm.frac1
  have nlt : lt ≠ p := ne_of h2 h1 (by intro z; cases z)
  have nls : ls ≠ p := ne_of h3 h1 (by intro z; cases z)
  have nlf : lf ≠ p := ne_of h4 h1 (by intro z; cases z)
  have npp : pp ≠ p := ne_of h5 h1 (by intro z; cases z)
  have npk : pk ≠ p := ne_of h6 h1 (by intro z; cases z)
  refine ⟨_, (pss_cons (ps_set (i := 1) sc_Voice_sound.nd rfl (by first | exact Or.inl rfl | exact Or.inr rfl) (pe_cal C_next_height (hr.mono (by decide)) (pa_cons (pe_fld (pv 0) rfl) (pa_cons (pe_fld (pv 0) rfl) (pa_cons (pe_fld (pv 0) rfl) pa_nil)))))
      (pss_cons (ps_fld (pv 0) (pe_ix ix_tup (pv 1) pe_int (fun _ _ => rfl)) rfl)
      (pss_cons (ps_fld (pv 0) (pe_ix ix_tup (pv 1) pe_int (fun _ _ => rfl)) rfl)
      (pss_cons (ps_set (i := 2) sc_Voice_sound.nd rfl (by first | exact Or.inl rfl | exact Or.inr rfl) (pe_cal C_multiply (hr.mono (by decide)) (pa_cons (pe_tpc T.cSINGLE) (pa_cons (pe_ix ix_tup (pe_fld (pv 0) rfl) pe_int (fun _ _ => rfl)) (pa_cons (pe_fld (pv 0) rfl) pa_nil)))))
      (pss_cons (ps_set (i := 3) sc_Voice_sound.nd rfl (by first | exact Or.inl rfl | exact Or.inr rfl) (pe_cal C_through_filter (hr.mono (by decide)) (pa_cons (pe_fld (pv 0) rfl) (pa_cons (pe_ix ix_tup (pe_fld (pv 0) rfl) pe_int (fun _ _ => rfl)) (pa_cons (pe_ix ix_tup (pe_fld (pv 0) rfl) pe_int (fun _ _ => rfl)) (pa_cons (pv 2) pa_nil))))))
      (pss_cons (ps_fld (pv 0) (pe_slice sl_tup (pv 3) (po_some pe_int) po_none) rfl)
      (pss_cons (ps_fld (pv 0) (pe_cal C_turned (hr.mono (by decide)) (pa_cons (pe_fld (pv 0) rfl) (pa_cons (pe_ix ix_tup (pe_fld (pv 0) rfl) pe_int (fun _ _ => rfl)) (pa_cons (pe_ix ix_tup (pe_fld (pv 0) rfl) pe_int (fun _ _ => rfl)) pa_nil)))) rfl)
      (pss_one (ps_ret (pe_ix ix_tup (pv 3) pe_int (fun _ _ => rfl))))))))))), ?_⟩
  -- height = next_height(self.slopes, self.stage, self.v)
  refine ⟨_, rfl, p, pVoice, dx, _, _, rfl, h1, T.clVoice, T.n_slopes, rfl, _, rfl, p, pVoice, dx, _, _, rfl, h1, T.clVoice, T.n_stage, rfl, _, rfl, p, pVoice, dx, _, _, rfl, h1, T.clVoice, T.n_v, rfl, ls, u.r0, u.r1, u.r2, u.r3, u.g, u.v, rfl, SqL.of h3, ok.r0, ok.r1, ok.r2, ok.r3, ok.v, ok.g, fun ph y hph hy hyn => ?_⟩
  have gl := Tb.step_le (Tb.slopesOf u.r0 u.r1 u.r2 u.r3) u.g (Sg43.S.num u.v)
  generalize hgs : (Sg43.heightStep (Tb.slopesOf u.r0 u.r1 u.r2 u.r3) u.g (Sg43.S.num u.v)).1 = g2 at gl ⊢
  have nph : ph ≠ p := (ne_of_none h1 hph).symm
  refine step_at hph fun H1 T1 S1 => ?_
  -- self.v, self.stage
  refine ⟨_, rfl, ph, _, _, _, rfl, rfl, SqT.of T1, rfl, _, rfl, p, pVoice, dx, _, rfl, S1 _ _ h1, T.clVoice, T.n_v, (by show 9 < 1000; decide), ?_⟩
  refine step_set fun H2 P2 B2 => ?_
  have P2 : H2 p = some (.ins pVoice dx (vf lt ls lf (u.l : Int) (u.r : Int) pp (u.g : Int) (y : Int) pk)) := P2
  refine ⟨_, rfl, ph, _, _, _, rfl, rfl, SqT.of (B2 _ _ T1 nph), rfl, _, rfl, p, pVoice, dx, _, rfl, P2, T.clVoice, T.n_stage, (by show 9 < 1000; decide), ?_⟩
  refine step_set fun H3 P3 B3 => ?_
  have P3 : H3 p = some (.ins pVoice dx (vf lt ls lf (u.l : Int) (u.r : Int) pp (g2 : Int) (y : Int) pk)) := P3
  have B03 : But H H3 p := fun b o e n => B3 b o (B2 b o (S1 b o e) n) n
  -- x = multiply(SINGLE, self.point[1], self.v)
  have om : Tb.Ok Sg43.S (Sg43.S.mul (Sg43.S.num u.s) (Sg43.S.num y)) := Tb.mul_ok _ fm.exp1
  refine ⟨_, rfl, p, pVoice, dx, _, _, rfl, P3, T.clVoice, T.n_point, rfl, pp, _, _, _, rfl, rfl, SqT.of (B03 _ _ h5 npp), rfl, _, rfl, p, pVoice, dx, _, _, rfl, P3, T.clVoice, T.n_v, rfl, _, _, u.s, y, rfl, fm, ok.s, hy, ?_⟩
  have xl := Tb.back_lt _ fr om
  have xn := Tb.num_back _ fr om
  generalize Tb.back Sg43.S (Sg43.S.mul (Sg43.S.num u.s) (Sg43.S.num y)) = x at xl xn ⊢
  -- passed
  refine ⟨_, rfl, p, pVoice, dx, _, _, rfl, P3, T.clVoice, T.n_factors, rfl, _, rfl, p, pVoice, dx, _, _, rfl, P3, T.clVoice, T.n_kept, rfl, pk, _, _, _, rfl, rfl, SqT.of (B03 _ _ h6 npk), rfl, _, rfl, p, pVoice, dx, _, _, rfl, P3, T.clVoice, T.n_kept, rfl, pk, _, _, _, rfl, rfl, SqT.of (B03 _ _ h6 npk), rfl, _, rfl,
    lf, u.f0, u.f1, u.f2, u.f3, u.f4, u.z1, u.z2, x, rfl, SqL.of (B03 _ _ h4 nlf), ok.f0, ok.f1, ok.f2, ok.f3, ok.f4, ok.z1, ok.z2, xl, fun pq t w1 w2 hpq kt kw1 kw2 ef => ?_⟩
  have npq : pq ≠ p := (ne_of_none P3 hpq).symm
  refine step_at hpq fun H4 T4 S4 => ?_
  have P4 := S4 _ _ P3
  -- self.kept = passed[1:]
  refine ⟨_, rfl, _, rfl, pq, _, rfl, SqT.of T4, (fun h => absurd h.1 (by show ¬ ((1 : Nat) = 0); decide)), fun pc hpc => ?_⟩
  rw [show cutV [V.int (t : Int), V.int (w1 : Int), V.int (w2 : Int)] (some 1) none = [.int (w1 : Int), .int (w2 : Int)] from rfl]
  refine ⟨_, rfl, p, pVoice, dx, _, rfl, keep_new P4 hpc, T.clVoice, T.n_kept, (by show 9 < 1000; decide), ?_⟩
  refine step_new P4 hpc fun H5 P5 T5 n5 B5 => ?_
  have P5 : H5 p = some (.ins pVoice dx (vf lt ls lf (u.l : Int) (u.r : Int) pp (g2 : Int) (y : Int) pc)) := P5
  have B05 : But H H5 p := fun b o e n => B5 b o (S4 b o (B03 b o e n)) n
  -- self.point = turned(self.turning, self.point[0], self.point[1])
  refine ⟨_, rfl, p, pVoice, dx, _, _, rfl, P5, T.clVoice, T.n_turning, rfl, _, rfl, p, pVoice, dx, _, _, rfl, P5, T.clVoice, T.n_point, rfl, pp, _, _, _, rfl, rfl, SqT.of (B05 _ _ h5 npp), rfl, _, rfl, p, pVoice, dx, _, _, rfl, P5, T.clVoice, T.n_point, rfl, pp, _, _, _, rfl, rfl, SqT.of (B05 _ _ h5 npp), rfl,
    lt, u.a, u.b, u.c, u.s, rfl, SqL.of (B05 _ _ h2 nlt), ok.a, ok.b, ok.c, ok.s, fun po hpo => ?_⟩
  have k1 : Tb.Ok Sg43.S (Sg43.turnStep (Sg43.S.num u.c) (Sg43.S.num u.s) (Sg43.S.num u.a) (Sg43.S.num u.b)).1 := Tb.ma_ok _ (Tb.minus_ok _ (Tb.mul_ok _ fm.exp1))
  have k2 : Tb.Ok Sg43.S (Sg43.turnStep (Sg43.S.num u.c) (Sg43.S.num u.s) (Sg43.S.num u.a) (Sg43.S.num u.b)).2 := Tb.ma_ok _ (Tb.mul_ok _ fm.exp1)
  have c1l := Tb.back_lt _ fr k1
  have c2l := Tb.back_lt _ fr k2
  have c1n := Tb.num_back _ fr k1
  have c2n := Tb.num_back _ fr k2
  refine ⟨_, rfl, p, pVoice, dx, _, rfl, keep_new P5 hpo, T.clVoice, T.n_point, (by show 9 < 1000; decide), ?_⟩
  refine step_new P5 hpo fun H6 P6 T6 n6 B6 => ?_
  have T6' : H6 po = some (.tup [.int ((Tb.back Sg43.S (Sg43.turnStep (Sg43.S.num u.c) (Sg43.S.num u.s) (Sg43.S.num u.a) (Sg43.S.num u.b)).1 : Nat) : Int), .int ((Tb.back Sg43.S (Sg43.turnStep (Sg43.S.num u.c) (Sg43.S.num u.s) (Sg43.S.num u.a) (Sg43.S.num u.b)).2 : Nat) : Int)]) := T6
  clear T6
  generalize Tb.back Sg43.S (Sg43.turnStep (Sg43.S.num u.c) (Sg43.S.num u.s) (Sg43.S.num u.a) (Sg43.S.num u.b)).1 = c' at c1l c1n T6'
  generalize Tb.back Sg43.S (Sg43.turnStep (Sg43.S.num u.c) (Sg43.S.num u.s) (Sg43.S.num u.a) (Sg43.S.num u.b)).2 = s' at c2l c2n T6'
  have P6 : H6 p = some (.ins pVoice dx (vf lt ls lf (u.l : Int) (u.r : Int) po (g2 : Int) (y : Int) pc)) := P6
  have B06 : But H H6 p := fun b o e n => B6 b o (B05 b o e n) n
  have pq6 : H6 pq = some (.tup [.int (t : Int), .int (w1 : Int), .int (w2 : Int)]) := B6 _ _ (B5 _ _ T4 npq) npq
  refine ⟨_, rfl, pq, _, _, _, rfl, rfl, SqT.of pq6, rfl, ?_⟩
  have es : Sg43.sounds u.voice = (Sg43.S.num t, VB.voice { u with c := c', s := s', g := g2, v := y, z1 := w1, z2 := w2 }) := by
    have ex : Sg43.S.num x = Sg43.m_ (Sg43.S.num u.s) (Sg43.heightStep (Tb.slopesOf u.r0 u.r1 u.r2 u.r3) u.g (Sg43.S.num u.v)).2 := by
      rw [xn, hyn]
      rfl
    rw [ex] at ef
    unfold Sg43.sounds VB.voice
    simp only
    rw [← ef, c1n, c2n, hgs, hyn]
  refine q t { u with c := c', s := s', g := g2, v := y, z1 := w1, z2 := w2 } H6 kt (by rw [es]) (by rw [es]) ?_ rfl rfl ⟨dx, lt, ls, lf, po, pc, P6, B06 _ _ h2 nlt, B06 _ _ h3 nls, B06 _ _ h4 nlf, T6', B6 _ _ T5 n5, vv⟩ B06
  exact ⟨ok.a, ok.b, ok.r0, ok.r1, ok.r2, ok.r3, ok.f0, ok.f1, ok.f2, ok.f3, ok.f4, ok.l, ok.r, c1l, c2l, hy, kw1, kw2, gl⟩
def sp_both_sides (C : Addr) : Sp := fun vs H Q _ => ∃ (pl : Addr) (as : List Addr) (xs : List Sg43.Voice) (Av : Addr → Prop), vs = [.ref pl] ∧ Players C Av H pl as xs ∧
  ∀ (q : Addr) (L R : Nat) (H' : Hp), H q = Option.none → H' q = some (.lst [.int (L : Int), .int (R : Int)]) → L < 2 * Sg43.S.sign → R < 2 * Sg43.S.sign → [Sg43.S.num L, Sg43.S.num R] = Tb.outV xs → VsAt C Av H' as (Tb.onV xs) → Out H H' as → Q (.ref q) H'
theorem ok_both_sides (T : Txt K mg pSINGLE pVoice) (C_fma : Cal P w K mg base "fma" 4 ["form", "x", "y", "z"] (sp_fma K)) (C_Voice_sound : Mth P w K mg base pVoice "sound" 8 ["self"] (sp_Voice_sound pVoice)) (D : Def K mg "both_sides" s_both_sides ["voices"]) : Cal P w K mg base "both_sides" 9 ["voices"] (sp_both_sides pVoice) := by
  refine D.cal sc_both_sides (fun vs H Q E h => ?_) (fun f cdv A outer s H vs Q E hr h => ?_)
  · obtain ⟨pl, as, xs, Av, rfl, _⟩ := h
    rfl
  obtain ⟨pl, as, xs, Av, rfl, py, q⟩ := h
  have fm := T.fSINGLE
  have fr := fm.frac1
  have S0 : 0 < 2 * Sg43.S.sign := by decide
  have npl := py.out
  have ln := py.vs.len
  refine ⟨_, (pss_cons (ps_set (i := 1) sc_both_sides.nd rfl (by first | exact Or.inl rfl | exact Or.inr rfl) pe_int)
      (pss_cons (ps_set (i := 2) sc_both_sides.nd rfl (by first | exact Or.inl rfl | exact Or.inr rfl) pe_int)
      (pss_cons (ps_for PassesOwn.never rfl (pi_list (pv 0)) (pg_name (i := 3) sc_both_sides.nd rfl (Or.inl rfl)) (pss_one (ps_if (pt_cmpR op_ne (pe_fld (pv 3) rfl) pe_int (nomark _)) (pss_cons (ps_set (i := 4) sc_both_sides.nd rfl (by first | exact Or.inl rfl | exact Or.inr rfl) (pe_mth0 C_Voice_sound (hr.mono (by decide)) (pv 3)))
      (pss_cons (ps_set (i := 1) sc_both_sides.nd rfl (by first | exact Or.inl rfl | exact Or.inr rfl) (pe_cal C_fma (hr.mono (by decide)) (pa_cons (pe_tpc T.cSINGLE) (pa_cons (pv 4) (pa_cons (pe_fld (pv 3) rfl) (pa_cons (pv 1) pa_nil))))))
      (pss_one (ps_set (i := 2) sc_both_sides.nd rfl (by first | exact Or.inl rfl | exact Or.inr rfl) (pe_cal C_fma (hr.mono (by decide)) (pa_cons (pe_tpc T.cSINGLE) (pa_cons (pv 4) (pa_cons (pe_fld (pv 3) rfl) (pa_cons (pv 2) pa_nil))))))))) pss_nil)))
      (pss_one (ps_ret (pe_lst (pa_cons (pv 1) (pa_cons (pv 2) pa_nil)))))))), ?_⟩
  refine ⟨_, rfl, pl, rfl, ⟨_, SqL.of py.lst⟩, for_list (K := K) (a := pl) (xs := as.map V.ref) (fun i σ H2 => ∃ (L R : Nat) (o o' : Option V), σ = [some (.ref pl), some (.int (L : Int)), some (.int (R : Int)), o, o'] ∧ L < 2 * Sg43.S.sign ∧ R < 2 * Sg43.S.sign ∧
      Sg43.S.num L = (Sg43.together (xs.take i) Sg43.ZERO Sg43.ZERO).1 ∧ Sg43.S.num R = (Sg43.together (xs.take i) Sg43.ZERO Sg43.ZERO).2.1 ∧ VsAt pVoice Av H2 as ((Sg43.together (xs.take i) Sg43.ZERO Sg43.ZERO).2.2 ++ xs.drop i) ∧ Out H H2 as)
    ⟨0, 0, Option.none, Option.none, rfl, S0, S0, Tb.num_zero _, Tb.num_zero _, py.vs, Out.refl _ _⟩ (fun i σ H2 _ ⟨_, _, _, _, _, _, _, _, _, _, t⟩ => SqL.of (t _ _ py.lst npl)) ?_ ?_⟩
  · rintro i v σ H2 hv ⟨L, R, o, o', rfl, hL, hR, eL, eR, vs2, out2⟩
    obtain ⟨a, ha, rfl⟩ : ∃ a, as[i]? = some a ∧ v = V.ref a := by
      rw [List.getElem?_map] at hv
      cases e : as[i]? with
      | none => rw [e] at hv; cases hv
      | some a => rw [e] at hv; exact ⟨a, rfl, (Option.some.inj hv).symm⟩
    have hil : i < as.length := (List.getElem?_eq_some_iff.mp ha).1
    obtain ⟨u, ok, va, hx⟩ := vs2.at_ i a ha
    have tl : (Sg43.together (xs.take i) Sg43.ZERO Sg43.ZERO).2.2.length = i := by
      rw [Tb.together_len, List.length_take]
      omega
    have hxi : xs[i]? = some u.voice := by
      rw [List.getElem?_append_right (by omega), tl, Nat.sub_self, List.getElem?_drop, Nat.add_zero] at hx
      exact hx
    have tk : xs.take (i + 1) = xs.take i ++ [u.voice] := by rw [List.take_add_one, hxi]; rfl
    have dr : xs.drop i = u.voice :: xs.drop (i + 1) := by
      rw [List.drop_eq_getElem_cons (by omega)]
      congr 1
      exact Option.some.inj ((List.getElem?_eq_getElem (by omega)).symm.trans hxi)
    have sn := Tb.together_snoc u.voice (xs.take i) Sg43.ZERO Sg43.ZERO
    rw [← tk] at sn
    obtain ⟨dx, lt, ls, lf, pp, pk, h1, _⟩ := id va.ex
    refine ⟨_, rfl, a, pVoice, dx, _, _, rfl, h1, T.clVoice, T.n_stage, rfl, rfl, _, rfl, ?_⟩
    rw [show decide (V.int (u.g : Int) = V.int 0) = decide (u.g = 0) from dec_nat u.g 0]
    by_cases c : u.g = 0
    · rw [decide_eq_true c]
      refine iteF ?_
      have cs : u.voice.stage = 0 := c
      rw [if_pos cs] at sn
      refine ⟨L, R, _, _, rfl, hL, hR, ?_, ?_, ?_, out2⟩
      · rw [sn]; exact eL
      · rw [sn]; exact eR
      · rw [sn]
        show VsAt pVoice Av H2 as (_ ++ [u.voice] ++ xs.drop (i + 1))
        rw [List.append_assoc, List.singleton_append, ← dr]
        exact vs2
    · rw [decide_eq_false c]
      have cs : ¬ u.voice.stage = 0 := c
      rw [if_neg cs] at sn
      refine iteT ⟨_, rfl, a, dx, _, rfl, h1, rfl, a, u, Av, rfl, va, ok, fun y u' H3 hy hyn hu' ok' el er va' bt => ?_⟩
      obtain ⟨dx', lt', ls', lf', pp', pk', h1', _⟩ := id va'.ex
      have o1 : Tb.Ok Sg43.S (Sg43.S.ma (Sg43.S.num y) (Sg43.S.num u'.l) (Sg43.S.num L)) := Tb.ma_ok _ (Tb.num_ok _ hL)
      have o2 : Tb.Ok Sg43.S (Sg43.S.ma (Sg43.S.num y) (Sg43.S.num u'.r) (Sg43.S.num R)) := Tb.ma_ok _ (Tb.num_ok _ hR)
      refine ⟨_, rfl, _, rfl, a, pVoice, dx', _, _, rfl, h1', T.clVoice, T.n_left, rfl, _, rfl, _, _, y, u'.l, L, rfl, fm, hy, ok'.l, hL, ?_⟩
      refine ⟨_, rfl, _, rfl, a, pVoice, dx', _, _, rfl, h1', T.clVoice, T.n_right, rfl, _, rfl, _, _, y, u'.r, R, rfl, fm, hy, ok'.r, hR, ?_⟩
      have m : a ∈ as := List.mem_of_getElem? ha
      refine ⟨_, _, _, _, rfl, Tb.back_lt _ fr o1, Tb.back_lt _ fr o2, ?_, ?_, ?_, out2.trans (Out.but m bt)⟩
      · rw [Tb.num_back _ fr o1, sn, hyn, el, eL]
        rfl
      · rw [Tb.num_back _ fr o2, sn, hyn, er, eR]
        rfl
      · have vs3 := vs2.set py.nd ha ok' va' bt
        rw [sn]
        show VsAt pVoice Av H3 as (_ ++ [(Sg43.sounds u.voice).2] ++ xs.drop (i + 1))
        rw [List.append_assoc, List.singleton_append, ← hu']
        rw [dr, List.set_append_right _ _ (by omega), tl, Nat.sub_self] at vs3
        exact vs3
  · rintro σ H2 ⟨L, R, o, o', rfl, hL, hR, eL, eR, vs2, out2⟩
    rw [List.length_map, ln, List.take_length, List.drop_length, List.append_nil] at *
    refine ⟨_, rfl, _, rfl, (by show 2 ≤ sizeLine; decide), fun r hr' => ?_⟩
    refine q r L R _ (out2.free vs2 hr') upd_same hL hR ?_ (vs2.same (same_new hr' _)) (out2.trans (Out.same (same_new hr' _)))
    rw [eL, eR]
    rfl
def playOut (xs : List Sg43.Voice) (n : Int) : List Int := if 0 ≤ n ∧ n ≤ 2048 then 0 :: (List.range n.toNat).flatMap (fun i => (Tb.outV (Tb.iter Tb.onV i xs)).map Tb.tell) else [-1]
def playOn (xs : List Sg43.Voice) (n : Int) : List Sg43.Voice := if 0 ≤ n ∧ n ≤ 2048 then Tb.iter Tb.onV n.toNat xs else xs
theorem flat_two (f : Nat → List Sg43.Voice) : ∀ n, ((List.range n).flatMap (fun i => (Tb.outV (f i)).map Tb.tell)).length = 2 * n
  | 0 => rfl
  | n + 1 => by
    rw [List.range_succ, List.flatMap_append, List.length_append, flat_two f n]
    simp [Tb.outV]
    omega
def sp_played (C : Addr) : Sp := fun vs H Q _ => ∃ (pl : Addr) (as : List Addr) (xs : List Sg43.Voice) (Av : Addr → Prop) (n : Int), vs = [.ref pl, .int n] ∧ Players C Av H pl as xs ∧
  ∀ (q : Addr) (H' : Hp), H q = Option.none → H' q = some (.lst ((playOut xs n).map V.int)) → VsAt C Av H' as (playOn xs n) → Out H H' as → Q (.ref q) H'
theorem ok_played (T : Txt K mg pSINGLE pVoice) (C_refusal : Cal P w K mg base "refusal" 1 [] sp_refusal) (C_told_singles : Cal P w K mg base "told_singles" 4 ["row"] (sp_told_singles K)) (C_both_sides : Cal P w K mg base "both_sides" 9 ["voices"] (sp_both_sides pVoice)) (D : Def K mg "played" s_played ["players", "n"]) : Cal P w K mg base "played" 10 ["players", "n"] (sp_played pVoice) := by
  refine D.cal sc_played (fun vs H Q E h => ?_) (fun f cdv A outer s H vs Q E hr h => ?_)
  · obtain ⟨pl, as, xs, Av, n, rfl, _⟩ := h
    rfl
  obtain ⟨pl, as, xs, Av, n, rfl, py, q⟩ := h
  have npl := py.out
  have refused : ¬ (0 ≤ n ∧ n ≤ 2048) → ∀ p, H p = Option.none → Q (.ref p) (upd H p (.lst [.int (-1)])) := fun c p hp => by
    refine q p _ hp ?_ ?_ (Out.same (same_new hp _))
    · rw [upd_same]
      unfold playOut
      rw [if_neg c]
      rfl
    · unfold playOn
      rw [if_neg c]
      exact py.vs.same (same_new hp _)
  refine ⟨_, (pss_cons (ps_if (pt_not (pt_chain op_le op_le pe_int (pv 1) (pe_cst T.cMOST_PLAYED))) (pss_one (ps_ret (pe_cal0 C_refusal (hr.mono (by decide))))) pss_nil)
      (pss_cons (ps_set (i := 2) sc_played.nd rfl (by first | exact Or.inl rfl | exact Or.inr rfl) (pe_lst (pa_cons pe_int pa_nil)))
      (pss_cons (ps_for PassesOwn.never rfl (pi_range1 rfl T.zrange (pa_cons (pv 1) pa_nil)) (pg_name (i := 3) sc_played.nd rfl (Or.inl rfl)) (pss_one (ps_expr (pe_bm PySem.F.plainAttrs_list PySem.F.slot_list_extend PySem.F.type_list_extend mt_extend (pv 2) (pa_cons (pe_cal C_told_singles (hr.mono (by decide)) (pa_cons (pe_cal C_both_sides (hr.mono (by decide)) (pa_cons (pv 0) pa_nil)) pa_nil)) pa_nil)))))
      (pss_one (ps_ret (pv 2)))))), ?_⟩
  refine ⟨_, rfl, _, _, rfl, rfl, _, rfl, ?_⟩
  refine ite2 (fun c0 => ?_) (fun c0 => ?_)
  rotate_left
  · have c' : ¬ (0 : Int) ≤ n := fun z => c0 (decide_eq_true z)
    refine ⟨_, rfl, iteT ⟨rfl, ?_⟩⟩
    exact refused (fun z => c' z.1)
  have n0 : (0 : Int) ≤ n := of_decide_eq_true c0
  refine ⟨_, _, rfl, rfl, _, rfl, ?_⟩
  by_cases c1 : n ≤ 2048
  rotate_left
  · rw [show decide (n ≤ 2048) = false from decide_eq_false c1]
    refine iteT ⟨rfl, ?_⟩
    exact refused (fun z => c1 z.2)
  rw [show decide (n ≤ 2048) = true from decide_eq_true c1]
  refine iteF ?_
  obtain ⟨k, rfl⟩ : ∃ k : Nat, n = (k : Int) := ⟨n.toNat, by omega⟩
  unfold playOut playOn at q
  rw [if_pos ⟨n0, c1⟩, if_pos ⟨n0, c1⟩, Int.toNat_natCast] at q
  refine ⟨(by show 1 ≤ sizeLine; decide), fun pn hpn => ?_⟩
  have sA : Same H (upd H pn (.lst [.int 0])) := same_new hpn _
  refine ⟨_, rfl, _, rfl, by omega, by omega, ?_⟩
  rw [Int.toNat_natCast]
  refine for_range (n := k) (fun i σ H2 => ∃ (o : Option V), σ = [some (.ref pl), some (.int (k : Int)), some (.ref pn), o] ∧ H2 pn = some (.lst ((0 :: (List.range i).flatMap (fun i => (Tb.outV (Tb.iter Tb.onV i xs)).map Tb.tell)).map V.int)) ∧ VsAt pVoice (fun b => Av b ∨ b = pn) H2 as (Tb.iter Tb.onV i xs) ∧ Out H H2 as)
    ⟨Option.none, rfl, upd_same, (py.vs.more hpn).same sA, Out.same sA⟩ ?_ ?_
  · rintro i σ H2 hi ⟨o, rfl, hN, vs2, out2⟩
    have nn : ¬ pn ∈ as := fun m => by
      obtain ⟨dx, fs, z⟩ := vs2.mem m
      rw [hN] at z
      cases z
    refine ⟨_, rfl, .inl ⟨rfl, _, SqL.of hN⟩, _, rfl, pl, as, Tb.iter Tb.onV i xs, (fun b => Av b ∨ b = pn), rfl, ⟨out2 _ _ py.lst npl, py.nd, vs2⟩, fun r L R H3 hr0 hr1 hL hR eLR vs3 out3 => ?_⟩
    refine ⟨r, [L, R], rfl, .inl (SqL.of hr1), by simp, ?_, fun p4 H4 hp4 s4 e4 => ?_⟩
    · intro e he
      simp at he
      rcases he with rfl | rfl <;> assumption
    have hN4 := s4 _ _ (out3 _ _ hN nn)
    have fl := flat_two (fun i => Tb.iter Tb.onV i xs) i
    refine ⟨pn, p4, _, _, rfl, rfl, hN4, e4, ?_, ?_⟩
    · rw [List.length_map, List.length_cons, fl, List.length_map, tells_len, PySem.sizeLine_eq]
      simp
      omega
    refine ⟨_, rfl, ?_, (vs3.same s4).list hN4 (.inr rfl), ?_⟩
    · rw [upd_same, List.range_succ, List.flatMap_append]
      have et : tells [L, R] = (Tb.outV (Tb.iter Tb.onV i xs)).map Tb.tell := by
        rw [← eLR]
        rfl
      rw [et]
      simp
    · intro b o e n
      have e2 := s4 _ _ (out3 _ _ (out2 _ _ e n) n)
      exact keep_put e2 (ne_of_none e hpn)
  · rintro σ H2 ⟨o, rfl, hN, vs2, out2⟩
    exact ⟨_, rfl, q pn H2 hpn hN (vs2.less fun b z => .inl z) out2⟩
theorem one_is : Sg43.S.num Sg43.S.one = Sg43.ONE := by decide
theorem zero_is : Sg43.S.num 0 = Sg43.ZERO := Tb.num_zero _
theorem one_lt : Sg43.S.one < 2 * Sg43.S.sign := by decide
theorem zero_lt : 0 < 2 * Sg43.S.sign := by decide
theorem VB.Ok.anew {u : VB} (h : u.Ok) {g : Nat} (hg : g ≤ 4) : (u.anew g).Ok := ⟨h.a, h.b, h.r0, h.r1, h.r2, h.r3, h.f0, h.f1, h.f2, h.f3, h.f4, h.l, h.r, one_lt, zero_lt, zero_lt, zero_lt, zero_lt, hg⟩
theorem anew_voice (u : VB) (g : Nat) : (u.anew g).voice = { u.voice with c := Sg43.ONE, s := Sg43.ZERO, stage := g, v := Sg43.ZERO, z1 := Sg43.ZERO, z2 := Sg43.ZERO } := by
  unfold VB.anew VB.voice
  simp only
  rw [one_is, zero_is]
/-- thirteen singles -/
theorem thirteen {n : List Int} (hn : n.length = 13) (hb : ∀ z ∈ n, 0 ≤ z ∧ z ≤ 4294967295) : ∃ u : VB, (u.anew 0).Ok ∧ n.map V.int = natV u.nums ∧ (u.anew 0).voice = Sg43.voiceOf (Sg43Neutral.sn n) := by
  obtain ⟨es, rfl, he⟩ := nats_of hb
  rw [List.length_map] at hn
  match es, hn, he with
  | [e0, e1, e2, e3, e4, e5, e6, e7, e8, e9, e10, e11, e12], _, he =>
    refine ⟨⟨e0, e1, e2, e3, e4, e5, e6, e7, e8, e9, e10, e11, e12, 0, 0, 0, 0, 0, 0⟩, ?_, rfl, ?_⟩
    · exact ⟨he e0 (by simp), he e1 (by simp), he e2 (by simp), he e3 (by simp), he e4 (by simp), he e5 (by simp), he e6 (by simp), he e7 (by simp), he e8 (by simp), he e9 (by simp), he e10 (by simp), he e11 (by simp), he e12 (by simp), one_lt, zero_lt, zero_lt, zero_lt, zero_lt, Nat.zero_le 4⟩
    · rw [anew_voice, Tb.sn_nats]
      rfl
def sp_taken (K : PySem.W.Frag) (C : Addr) : Sp := fun vs H Q _ => ∃ (pl ps : Addr) (as : List Addr) (xs : List Sg43.Voice) (Av : Addr → Prop) (st : List Int), vs = [.ref pl, .ref ps] ∧ Players C Av H pl as xs ∧ xs.length = 8 ∧ SqL K H ps (st.map V.int) ∧ Tb.Step st ∧ (∀ b, Av b → ∃ o, H b = some o) ∧
  ∀ (q : Addr) (H' : Hp), H q = Option.none → H' q = some (.lst ((Tb.stepOut xs st).map V.int)) → VsAt C Av H' as (Tb.stepOn xs st) → Out H H' as → Q (.ref q) H'
theorem ok_taken (T : Txt K mg pSINGLE pVoice) (C_refusal : Cal P w K mg base "refusal" 1 [] sp_refusal) (C_played : Cal P w K mg base "played" 10 ["players", "n"] (sp_played pVoice)) (C_Voice_set_up : Mth P w K mg base pVoice "set_up" 2 ["self", "numbers"] (sp_Voice_set_up pVoice))
    (C_Voice_begin : Mth P w K mg base pVoice "begin" 2 ["self"] (sp_Voice_begin pVoice)) (C_Voice_finish : Mth P w K mg base pVoice "finish" 1 ["self"] (sp_Voice_finish pVoice)) (D : Def K mg "taken" s_taken ["players", "step"]) : Cal P w K mg base "taken" 11 ["players", "step"] (sp_taken K pVoice) := by
  refine D.cal sc_taken (fun vs H Q E h => ?_) (fun f cdv A outer s H vs Q E hr h => ?_)
  · obtain ⟨pl, ps, as, xs, Av, st, rfl, _⟩ := h
    rfl
  obtain ⟨pl, ps, as, xs, Av, st, rfl, py, h8, hs, hst, av, q⟩ := h
  have npl := py.out
  have ln := py.vs.len
  refine ⟨_, (pss_cons (ps_if (pt_cmpR op_eq (pe_ix ix_list (pv 1) pe_int (fun _ _ => rfl)) pe_int (nomark _)) (pss_one (ps_ret (pe_cal C_played (hr.mono (by decide)) (pa_cons (pv 0) (pa_cons (pe_ix ix_list (pv 1) pe_int (fun _ _ => rfl)) pa_nil))))) pss_nil)
      (pss_cons (ps_if (pt_not (pt_chain op_le op_lt pe_int (pe_ix ix_list (pv 1) pe_int (fun _ _ => rfl)) (pe_cst T.cVOICES))) (pss_one (ps_ret (pe_cal0 C_refusal (hr.mono (by decide))))) pss_nil)
      (pss_cons (ps_set (i := 2) sc_taken.nd rfl (by first | exact Or.inl rfl | exact Or.inr rfl) (pe_ix ix_list (pv 0) (pe_ix ix_list (pv 1) pe_int (fun _ _ => rfl)) (fun _ _ => rfl)))
      (pss_cons (ps_if (pt_cmpR op_eq (pe_ix ix_list (pv 1) pe_int (fun _ _ => rfl)) pe_int (nomark _)) (pss_one (ps_expr (pe_mth C_Voice_set_up (hr.mono (by decide)) (pv 2) (pa_cons (pe_slice sl_list (pv 1) (po_some pe_int) po_none) pa_nil)))) (pss_one (ps_if (pt_cmpR op_eq (pe_ix ix_list (pv 1) pe_int (fun _ _ => rfl)) pe_int (nomark _)) (pss_one (ps_expr (pe_mth0 C_Voice_begin (hr.mono (by decide)) (pv 2)))) (pss_one (ps_expr (pe_mth0 C_Voice_finish (hr.mono (by decide)) (pv 2)))))))
      (pss_one (ps_ret (pe_lst (pa_cons pe_int pa_nil)))))))), ?_⟩
  have d41 : decide (V.int 1 = V.int 4) = false := by decide
  have d42 : decide (V.int 2 = V.int 4) = false := by decide
  have d43 : decide (V.int 3 = V.int 4) = false := by decide
  have d44 : decide (V.int 4 = V.int 4) = true := by decide
  have d11 : decide (V.int 1 = V.int 1) = true := by decide
  have d21 : decide (V.int 2 = V.int 1) = false := by decide
  have d31 : decide (V.int 3 = V.int 1) = false := by decide
  have d22 : decide (V.int 2 = V.int 2) = true := by decide
  have d32 : decide (V.int 3 = V.int 2) = false := by decide
  -- the player at a place
  have player : ∀ k : Int, 0 ≤ k ∧ k < 8 → ∃ (a : Addr) (u : VB), atI (as.map V.ref) k = some (V.ref a) ∧ as[k.toNat]? = some a ∧ u.Ok ∧ VAt pVoice Av H a u ∧ xs[k.toNat]? = some u.voice := fun k hk => by
    have hl : k.toNat < as.length := by omega
    obtain ⟨u, ok, va, hx⟩ := py.vs.at_ k.toNat _ (List.getElem?_eq_getElem hl)
    exact ⟨as[k.toNat], u, at_of (j := k.toNat) (by omega) (by rw [List.getElem?_map, List.getElem?_eq_getElem hl]; rfl), List.getElem?_eq_getElem hl, ok, va, hx⟩
  -- a refusal
  have refused : ∀ (k : Int), Tb.stepOut xs st = (if 0 ≤ k ∧ k < 8 then [0] else [-1]) → (∃ y, Tb.stepOn xs st = if 0 ≤ k ∧ k < 8 then y else xs) → ¬ (0 ≤ k ∧ k < 8) → ∀ p, H p = Option.none → Q (.ref p) (upd H p (.lst [.int (-1)])) := fun k e1 e2 c p hp => by
    obtain ⟨y, e2⟩ := e2
    rw [if_neg c] at e1 e2
    refine q p _ hp (by rw [upd_same, e1]; rfl) ?_ (Out.same (same_new hp _))
    rw [e2]
    exact py.vs.same (same_new hp _)
  -- what comes of a change of one voice
  have done : ∀ (k : Int) (a : Addr) (u' : VB) (H1 : Hp), 0 ≤ k ∧ k < 8 → as[k.toNat]? = some a → Tb.stepOut xs st = (if 0 ≤ k ∧ k < 8 then [0] else [-1]) → Tb.stepOn xs st = xs.set k.toNat u'.voice → u'.Ok → VAt pVoice Av H1 a u' → (∃ H0, Same H H0 ∧ But H0 H1 a) → ∀ p, H1 p = Option.none → Q (.ref p) (upd H1 p (.lst [.int 0])) := fun k a u' H1 c ha e1 e2 ok va ⟨H0, sm, bt⟩ p hp => by
    rw [if_pos c] at e1
    have m : a ∈ as := List.mem_of_getElem? ha
    have bt' : But H H1 a := fun b o e n => bt b o (sm b o e) n
    have vs1 := py.vs.set py.nd ha ok va bt'
    have ou := Out.but m bt'
    refine q p _ (ou.free vs1 hp) (by rw [upd_same, e1]; rfl) ?_ (ou.trans (Out.same (same_new hp _)))
    rw [e2]
    exact vs1.same (same_new hp _)
  cases hst with
  | play k =>
    have a0 : atI (([4, k] : List Int).map V.int) 0 = some (V.int 4) := rfl
    have a1 : atI (([4, k] : List Int).map V.int) 1 = some (V.int k) := rfl
    refine ⟨_, rfl, ps, _, _, _, rfl, rfl, hs, a0, rfl, _, rfl, ?_⟩
    rw [d44]
    refine iteT ⟨_, rfl, _, rfl, ps, _, _, _, rfl, rfl, hs, a1, pl, as, xs, Av, k, rfl, py, fun r H' e1 e2 e3 e4 => ?_⟩
    have op := Tb.out_play xs k
    refine q r H' e1 ?_ ?_ e4
    · rw [e2, op.1]; rfl
    · rw [op.2]; exact e3
  | voice k n hn hb =>
    have op := Tb.out_voice xs k n
    have a0 : atI (((1 :: k :: n) : List Int).map V.int) 0 = some (V.int 1) := at_of (j := 0) (by omega) rfl
    have a1 : atI (((1 :: k :: n) : List Int).map V.int) 1 = some (V.int k) := at_of (j := 1) (by omega) rfl
    refine ⟨_, rfl, ps, _, _, _, rfl, rfl, hs, a0, rfl, _, rfl, ?_⟩
    rw [d41]
    refine iteF ?_
    refine ⟨_, rfl, ps, _, _, _, rfl, rfl, hs, a1, _, _, rfl, rfl, _, rfl, ?_⟩
    refine ite2 (fun c0 => ?_) (fun c0 => ?_)
    rotate_left
    · have c' : ¬ (0 : Int) ≤ k := fun z => c0 (decide_eq_true z)
      exact ⟨_, rfl, iteT ⟨rfl, refused k op.1 ⟨_, op.2⟩ (fun z => c' z.1)⟩⟩
    have k0 : (0 : Int) ≤ k := of_decide_eq_true c0
    refine ⟨_, _, rfl, rfl, _, rfl, ?_⟩
    by_cases c1 : k < 8
    rotate_left
    · rw [show decide (k < 8) = false from decide_eq_false c1]
      exact iteT ⟨rfl, refused k op.1 ⟨_, op.2⟩ (fun z => c1 z.2)⟩
    rw [show decide (k < 8) = true from decide_eq_true c1]
    refine iteF ?_
    obtain ⟨a, u, e1, ha, ok, va, hx⟩ := player k ⟨k0, c1⟩
    obtain ⟨dx, lt, ls, lf, pp, pk, h1, _⟩ := id va.ex
    obtain ⟨u', ok', en, ev⟩ := thirteen hn hb
    refine ⟨_, rfl, _, rfl, ps, _, _, _, rfl, rfl, hs, a1, pl, _, _, _, rfl, rfl, SqL.of py.lst, e1, ?_⟩
    refine ⟨_, rfl, ps, _, _, _, rfl, rfl, hs, a0, rfl, _, rfl, ?_⟩
    rw [d11]
    refine iteT ⟨_, rfl, a, dx, _, rfl, h1, rfl, _, rfl, _, rfl, ps, _, rfl, hs, fun l hl => ?_⟩
    have cv : cutV ((1 :: k :: n).map V.int) (some 2) Option.none = natV u'.nums := by
      rw [← en]
      unfold cutV
      have e2 : HT.sIx ((1 :: k :: n).map V.int).length 0 (some 2) = 2 := by
        show min (2 : Int).toNat ((1 :: k :: n).map V.int).length = 2
        rw [List.length_map, List.length_cons, List.length_cons]
        show min 2 _ = 2
        omega
      rw [e2]
      show (n.map V.int).take (((1 :: k :: n).map V.int).length - 2) = n.map V.int
      rw [List.length_map, List.length_cons, List.length_cons, show n.length + 1 + 1 - 2 = n.length by omega]
      have e3 : n.length = (n.map V.int).length := (List.length_map _).symm
      rw [e3, List.take_length]
    rw [cv]
    refine ⟨a, dx, l, _, u', Av, rfl, keep_new h1 hl, .inr ⟨lt, ls, lf, _, _, pp, _, _, pk, rfl⟩, upd_same, (fun b z => let ⟨o, e⟩ := av b z; ⟨o, keep_new e hl⟩), fun H' va' bt => ?_⟩
    refine ⟨(by show 1 ≤ sizeLine; decide), ?_⟩
    exact done k a (u'.anew 0) H' ⟨k0, c1⟩ ha op.1 (by rw [op.2, if_pos ⟨k0, c1⟩, ev]) ok' va' ⟨_, same_new hl _, bt⟩
  | on k =>
    have op := Tb.out_on xs k
    refine ⟨_, rfl, ps, _, _, _, rfl, rfl, hs, rfl, rfl, _, rfl, ?_⟩
    rw [d42]
    refine iteF ?_
    refine ⟨_, rfl, ps, _, _, _, rfl, rfl, hs, rfl, _, _, rfl, rfl, _, rfl, ?_⟩
    refine ite2 (fun c0 => ?_) (fun c0 => ?_)
    rotate_left
    · have c' : ¬ (0 : Int) ≤ k := fun z => c0 (decide_eq_true z)
      exact ⟨_, rfl, iteT ⟨rfl, refused k op.1 ⟨_, op.2⟩ (fun z => c' z.1)⟩⟩
    have k0 : (0 : Int) ≤ k := of_decide_eq_true c0
    refine ⟨_, _, rfl, rfl, _, rfl, ?_⟩
    by_cases c1 : k < 8
    rotate_left
    · rw [show decide (k < 8) = false from decide_eq_false c1]
      exact iteT ⟨rfl, refused k op.1 ⟨_, op.2⟩ (fun z => c1 z.2)⟩
    rw [show decide (k < 8) = true from decide_eq_true c1]
    refine iteF ?_
    obtain ⟨a, u, e1, ha, ok, va, hx⟩ := player k ⟨k0, c1⟩
    obtain ⟨dx, lt, ls, lf, pp, pk, h1, _⟩ := id va.ex
    have gx : xs.getD k.toNat Sg43.silent = u.voice := by rw [List.getD_eq_getElem?_getD, hx]; rfl
    refine ⟨_, rfl, _, rfl, ps, _, _, _, rfl, rfl, hs, rfl, pl, _, _, _, rfl, rfl, SqL.of py.lst, e1, ?_⟩
    refine ⟨_, rfl, ps, _, _, _, rfl, rfl, hs, rfl, rfl, _, rfl, ?_⟩
    rw [d21]
    refine iteF ⟨_, rfl, ps, _, _, _, rfl, rfl, hs, rfl, rfl, _, rfl, ?_⟩
    rw [d22]
    refine iteT ⟨_, rfl, a, dx, _, rfl, h1, rfl, a, u, Av, rfl, va, fun H' va' bt => ?_⟩
    refine ⟨(by show 1 ≤ sizeLine; decide), ?_⟩
    exact done k a (u.anew 1) H' ⟨k0, c1⟩ ha op.1 (by rw [op.2, if_pos ⟨k0, c1⟩, gx, anew_voice]) (ok.anew (by decide)) va' ⟨H, Same.refl _, bt⟩
  | off k =>
    have op := Tb.out_off xs k
    refine ⟨_, rfl, ps, _, _, _, rfl, rfl, hs, rfl, rfl, _, rfl, ?_⟩
    rw [d43]
    refine iteF ?_
    refine ⟨_, rfl, ps, _, _, _, rfl, rfl, hs, rfl, _, _, rfl, rfl, _, rfl, ?_⟩
    refine ite2 (fun c0 => ?_) (fun c0 => ?_)
    rotate_left
    · have c' : ¬ (0 : Int) ≤ k := fun z => c0 (decide_eq_true z)
      exact ⟨_, rfl, iteT ⟨rfl, refused k op.1 ⟨_, op.2⟩ (fun z => c' z.1)⟩⟩
    have k0 : (0 : Int) ≤ k := of_decide_eq_true c0
    refine ⟨_, _, rfl, rfl, _, rfl, ?_⟩
    by_cases c1 : k < 8
    rotate_left
    · rw [show decide (k < 8) = false from decide_eq_false c1]
      exact iteT ⟨rfl, refused k op.1 ⟨_, op.2⟩ (fun z => c1 z.2)⟩
    rw [show decide (k < 8) = true from decide_eq_true c1]
    refine iteF ?_
    obtain ⟨a, u, e1, ha, ok, va, hx⟩ := player k ⟨k0, c1⟩
    obtain ⟨dx, lt, ls, lf, pp, pk, h1, _⟩ := id va.ex
    have gx : xs.getD k.toNat Sg43.silent = u.voice := by rw [List.getD_eq_getElem?_getD, hx]; rfl
    refine ⟨_, rfl, _, rfl, ps, _, _, _, rfl, rfl, hs, rfl, pl, _, _, _, rfl, rfl, SqL.of py.lst, e1, ?_⟩
    refine ⟨_, rfl, ps, _, _, _, rfl, rfl, hs, rfl, rfl, _, rfl, ?_⟩
    rw [d31]
    refine iteF ⟨_, rfl, ps, _, _, _, rfl, rfl, hs, rfl, rfl, _, rfl, ?_⟩
    rw [d32]
    refine iteF ⟨_, rfl, a, dx, _, rfl, h1, rfl, a, u, Av, rfl, va, fun H' va' bt => ?_⟩
    refine ⟨(by show 1 ≤ sizeLine; decide), ?_⟩
    have oke : u.ended.Ok := ⟨ok.a, ok.b, ok.r0, ok.r1, ok.r2, ok.r3, ok.f0, ok.f1, ok.f2, ok.f3, ok.f4, ok.l, ok.r, ok.c, ok.s, ok.v, ok.z1, ok.z2, by
      show (if u.g = 0 then 0 else 4) ≤ 4
      split <;> decide⟩
    exact done k a u.ended H' ⟨k0, c1⟩ ha op.1 (by rw [op.2, if_pos ⟨k0, c1⟩, gx]; rfl) oke va' ⟨H, Same.refl _, bt⟩
theorem args_at {K : PySem.W.Frag} {H : Hp} : ∀ {as : List Addr} {lss : List (List Int)}, At.Args K H as lss → ∀ {i : Nat} {ns : List Int}, lss[i]? = some ns → ∃ b, as[i]? = some b ∧ SqL K H b (ns.map V.int)
  | _, _, .nil, i, ns, h => by simp at h
  | _, _, .cons h0 R, 0, ns, h => by
    simp at h
    subst h
    exact ⟨_, by simp, h0⟩
  | _, _, .cons h0 R, i + 1, ns, h => by
    simp at h
    obtain ⟨b, e, q⟩ := args_at R h
    exact ⟨b, by simpa using e, q⟩
theorem args_len {K : PySem.W.Frag} {H : Hp} : ∀ {as : List Addr} {lss : List (List Int)}, At.Args K H as lss → as.length = lss.length
  | _, _, .nil => rfl
  | _, _, .cons _ R => congrArg (· + 1) (args_len R)
theorem none_voice : VB.none.voice = Sg43.silent := by
  unfold VB.none VB.voice Sg43.silent Tb.slopesOf Tb.factorsOf
  simp only
  rw [one_is, zero_is]
theorem none_ok : VB.none.Ok := ⟨one_lt, zero_lt, zero_lt, zero_lt, zero_lt, zero_lt, zero_lt, zero_lt, zero_lt, zero_lt, zero_lt, zero_lt, zero_lt, one_lt, zero_lt, zero_lt, zero_lt, zero_lt, by decide⟩
theorem nd_add {α : Type} {l : List α} {x : α} (h : l.Nodup) (n : x ∉ l) : (l ++ [x]).Nodup :=
  List.nodup_append.2 ⟨h, List.nodup_cons.2 ⟨by simp, List.nodup_nil⟩, fun a ha b hb e => n (by rw [List.mem_singleton] at hb; rw [← hb, ← e]; exact ha)⟩
def sp_voices (K : PySem.W.Frag) : Sp := fun vs H Q _ => ∃ (a : Addr) (bs : List Addr) (lss : List (List Int)), vs = [.ref a] ∧ SqL K H a (bs.map V.ref) ∧ At.Args K H bs lss ∧ lss.length ≤ 300 ∧ (∀ s ∈ lss, Tb.Step s) ∧
  ∀ (r : Addr) (H' : Hp), H' r = some (.lst ((Tb.joined (Tb.outs Sg43Neutral.fresh lss)).map V.int)) → Q (.ref r) H'
theorem ok_voices (T : Txt K mg pSINGLE pVoice) (C_Voice___init__ : Mkr P w K mg base "Voice" pVoice 3 ["self"] (sp_Voice___init__ pVoice)) (C_taken : Cal P w K mg base "taken" 11 ["players", "step"] (sp_taken K pVoice)) {f : Addr} {fd : FuncData} (F : Fun K "voices" "voices" s_voices f fd) : FnOk P w K mg base CX0 12 f fd ["steps"] (sp_voices K) := by
  refine F.ok sc_voices (fun vs H Q E h => ?_) (fun cdv A outer s H vs Q E hr h => ?_)
  · obtain ⟨a, bs, lss, rfl, _⟩ := h
    rfl
  obtain ⟨a, bs, lss, rfl, hq, hA, hl, hst, q⟩ := h
  have bl := args_len hA
  refine ⟨_, (pss_cons (ps_setLc (i := 1) rfl sc_voices.nd rfl rfl (sw_true rfl rfl rfl rfl) (pi_range1 rfl T.zrange (pa_cons (pe_cst T.cVOICES) pa_nil)) (blkOk_by (own := [("k", 2)]) rfl) (fun _ _ _ _ _ => pg_name (i := 2) sc_voices.nd rfl (by first | exact Or.inl rfl | exact Or.inr rfl)) (fun _ _ _ _ _ => pts_nil) (fun _ _ _ _ _ => (pe_new C_Voice___init__ (hr.mono (by decide)))))
      (pss_cons (ps_set (i := 3) sc_voices.nd rfl (by first | exact Or.inl rfl | exact Or.inr rfl) (pe_lst pa_nil))
      (pss_cons (ps_for PassesOwn.never rfl (pi_range1 rfl T.zrange (pa_cons (pe_callB call_len_seq rfl T.zlen PySem.boot_len (pa_cons (pv 0) pa_nil)) pa_nil)) (pg_name (i := 2) sc_voices.nd rfl (Or.inl rfl)) (pss_cons (ps_set (i := 4) sc_voices.nd rfl (by first | exact Or.inl rfl | exact Or.inr rfl) (pe_cal C_taken (hr.mono (by decide)) (pa_cons (pv 1) (pa_cons (pe_ix ix_list (pv 0) (pv 2) (fun _ _ => rfl)) pa_nil))))
      (pss_cons (ps_if (pt_cmpR op_gt (pv 2) pe_int (nomark _)) (pss_one (ps_expr (pe_bm PySem.F.plainAttrs_list PySem.F.slot_list_append PySem.F.type_list_append mt_append (pv 3) (pa_cons (pe_callB call_len_seq rfl T.zlen PySem.boot_len (pa_cons (pv 4) pa_nil)) pa_nil)))) pss_nil)
      (pss_one (ps_expr (pe_bm PySem.F.plainAttrs_list PySem.F.slot_list_extend PySem.F.type_list_extend mt_extend (pv 3) (pa_cons (pv 4) pa_nil)))))))
      (pss_one (ps_ret (pv 3)))))), ?_⟩
  refine ⟨_, rfl, by decide, by decide, fun Dl hD => ?_⟩
  refine lc_range (n := 8) (fun i H2 => ∃ as : List Addr, as.length = i ∧ as.Nodup ∧ (∀ b ∈ as, H b = Option.none) ∧ H2 Dl = some (.lst (as.map V.ref)) ∧ VsAt pVoice (fun b => b = Dl) H2 as (List.replicate i Sg43.silent) ∧ Same H H2)
    ⟨[], rfl, List.nodup_nil, by simp, upd_same, ⟨rfl, fun j b e => by simp at e⟩, same_new hD _⟩ ?_ ?_
  · rintro i H2 hi ⟨as, al, nd, fr, hL, vs2, sm⟩
    refine ⟨rfl, ?_⟩
    unfold tYes
    refine iteT fun x dx hx hdx ndx => ?_
    have eD : upd (upd H2 dx (.own x)) x (.ins pVoice dx []) Dl = some (.lst (as.map V.ref)) := keep_new (keep_new hL hdx) (by rw [upd_ne ndx.symm]; exact hx)
    refine ⟨x, dx, (fun b => b = Dl), rfl, upd_same, (fun b z => ⟨_, z ▸ eD⟩), fun H' va bt => ⟨rfl, ?_⟩⟩
    have ox : ∀ b o, H2 b = some o → H' b = some o := fun b o e => bt b o (keep_new (keep_new e hdx) (by rw [upd_ne ndx.symm]; exact hx)) (ne_of_none e hx)
    have nx : ¬ x ∈ as := fun m => by
      obtain ⟨dy, fs, z⟩ := vs2.mem m
      rw [hx] at z
      cases z
    have lD := ox _ _ hL
    refine ⟨_, lD, small1000 (by rw [List.length_map]; omega), as ++ [x], by rw [List.length_append, al]; rfl, nd_add nd nx, fun b hb => ?_, by rw [upd_same, List.map_append]; rfl, ?_, fun b o e => ?_⟩
    · rcases List.mem_append.mp hb with z | z
      · exact fr b z
      · rw [List.mem_singleton.mp z]
        exact sm.free hx
    · have v1 : VsAt pVoice (fun b => b = Dl) H' as (List.replicate i Sg43.silent) := vs2.same ox
      refine VsAt.list (ys := as.map V.ref) ⟨by rw [List.length_append, al, List.length_replicate]; rfl, fun j b e => ?_⟩ lD rfl
      by_cases c : j < as.length
      · rw [List.getElem?_append_left c] at e
        obtain ⟨u, ok, v, hv⟩ := v1.at_ j b e
        refine ⟨u, ok, v, ?_⟩
        rw [List.getElem?_replicate] at hv ⊢
        rw [if_pos (by omega)] at hv
        rw [if_pos (by omega)]
        exact hv
      · rw [List.getElem?_append_right (by omega)] at e
        have j0 : j - as.length = 0 := by
          have := (List.getElem?_eq_some_iff.mp e).1
          simp at this
          omega
        rw [j0] at e
        have eb : x = b := Option.some.inj e
        subst eb
        refine ⟨VB.none, none_ok, va, ?_⟩
        rw [none_voice, List.getElem?_replicate, if_pos (by omega)]
    · exact keep_put (ox _ _ (sm _ _ e)) (ne_of_none e hD)
  · rintro H1 ⟨as, al, nd, fr, hL, vs1, sm1⟩
    -- numbers = []
    refine ⟨(by show 0 ≤ sizeLine; decide), fun pn hpn => ?_⟩
    have sB : Same H1 (upd H1 pn (.lst [])) := same_new hpn _
    have outS : ∀ {H2 : Hp}, Out H1 H2 as → Same H H2 := fun {H2} o b x e => o b x (sm1 b x e) fun m => by
      rw [fr b m] at e
      cases e
    have npl : ¬ Dl ∈ as := fun m => by
      obtain ⟨dy, fs, z⟩ := vs1.mem m
      rw [hL] at z
      cases z
    refine ⟨_, rfl, a, _, rfl, .inl ((sm1.trans sB).seq hq), _, rfl, by rw [List.length_map, bl]; omega, by rw [List.length_map, bl]; omega, ?_⟩
    rw [List.length_map, bl, Int.toNat_natCast]
    refine for_range (n := lss.length) (fun i σ H2 => ∃ (o o' : Option V), σ = [some (.ref a), some (.ref Dl), o, some (.ref pn), o'] ∧ H2 pn = some (.lst ((Tb.joined (Tb.outs Sg43Neutral.fresh (lss.take i))).map V.int)) ∧ VsAt pVoice (fun b => b = pn) H2 as (Tb.after Sg43Neutral.fresh (lss.take i)) ∧ Out H1 H2 as)
      ⟨Option.none, Option.none, rfl, upd_same, ((vs1.more hpn).less fun b z => .inr z).same sB, Out.same sB⟩ ?_ ?_
    · rintro i σ H2 hi ⟨o, o', rfl, hN, vs2, out2⟩
      have sH := outS out2
      have e1 : lss[i]? = some lss[i] := List.getElem?_eq_getElem hi
      have hsi := hst lss[i] (List.getElem_mem hi)
      obtain ⟨b, eb, hb⟩ := args_at hA e1
      have ln := vs2.len
      have tkst : ∀ s ∈ lss.take i, Tb.Step s := fun s m => hst s (List.mem_of_mem_take m)
      have tk : lss.take (i + 1) = lss.take i ++ [lss[i]] := by rw [List.take_add_one, e1]; rfl
      have jn := Tb.joined_next lss[i] (lss.take i) Sg43Neutral.fresh
      rw [← tk] at jn
      have an := Tb.after_snoc lss[i] (lss.take i) Sg43Neutral.fresh
      rw [← tk] at an
      have jl := Tb.joined_len (lss.take i) Sg43Neutral.fresh tkst
      have sl := Tb.stepOut_len hsi (Tb.after Sg43Neutral.fresh (lss.take i))
      have tl : (lss.take i).length = i := by rw [List.length_take]; omega
      rw [tl] at jl
      have x8 : (Tb.after Sg43Neutral.fresh (lss.take i)).length = 8 := by rw [← ln, al]
      refine ⟨_, rfl, _, rfl, _, rfl, a, _, _, _, rfl, rfl, sH.seq hq, at_of (j := i) (v := V.ref b) (by omega) (by rw [List.getElem?_map, eb]; rfl), Dl, b, as, _, (fun b => b = pn), lss[i], rfl, ⟨out2 _ _ hL npl, nd, vs2⟩, x8, sH.seq hb, hsi, (fun c z => ⟨_, z ▸ hN⟩), fun r H3 hr0 hr1 vs3 out3 => ?_⟩
      have nn : ¬ pn ∈ as := fun m => by
        obtain ⟨dy, fs, z⟩ := vs2.mem m
        rw [hN] at z
        cases z
      have hN3 := out3 _ _ hN nn
      have npr : r ≠ pn := (ne_of_none hN hr0).symm
      have outP : ∀ {o : HO}, Out H1 (upd H3 pn o) as := fun {o} c x e n => keep_put (out3 _ _ (out2 _ _ e n) n) (ne_of_none e hpn)
      refine ⟨_, rfl, _, _, rfl, rfl, _, rfl, ?_⟩
      by_cases c : i = 0
      · rw [show decide ((0 : Int) < 0 + (i : Int)) = false from decide_eq_false (by omega)]
        refine iteF ?_
        have t0 : lss.take i = [] := by rw [c]; rfl
        rw [if_pos t0] at jn
        refine ⟨_, rfl, .inl ⟨rfl, _, SqL.of hN3⟩, _, rfl, pn, r, _, _, rfl, rfl, hN3, hr1, ?_, ?_⟩
        · rw [List.length_map, List.length_map, PySem.sizeLine_eq]
          omega
        refine ⟨_, _, rfl, ?_, ?_, outP⟩
        · rw [upd_same, jn, t0]
          rfl
        · rw [an]
          exact vs3.list hN3 rfl
      · rw [show decide ((0 : Int) < 0 + (i : Int)) = true from decide_eq_true (by omega)]
        refine iteT ?_
        have t0 : ¬ lss.take i = [] := fun z => by
          rw [z] at tl
          exact c tl.symm
        rw [if_neg t0] at jn
        refine ⟨_, rfl, .inl ⟨rfl, _, SqL.of hN3⟩, _, rfl, r, _, rfl, .inl (SqL.of hr1), pn, _, _, rfl, rfl, hN3, ?_, ?_⟩
        · rw [List.length_map, PySem.sizeLine_eq]
          omega
        refine ⟨_, rfl, .inl ⟨rfl, _, SqL.of upd_same⟩, _, rfl, pn, r, _, _, rfl, rfl, upd_same, keep_put hr1 npr, ?_, ?_⟩
        · rw [List.length_append, List.length_map, List.length_map, PySem.sizeLine_eq, List.length_singleton]
          omega
        refine ⟨_, _, rfl, ?_, ?_, fun d x e n => ?_⟩
        · rw [upd_same, jn]
          unfold Tb.told1
          simp
        · rw [an]
          exact (vs3.list hN3 rfl).list upd_same rfl
        · exact keep_put (outP d x e n) (ne_of_none e hpn)
    · rintro σ H2 ⟨o, o', rfl, hN, vs2, out2⟩
      rw [List.take_length] at hN
      exact ⟨_, rfl, q pn H2 hN⟩
end
set_option maxHeartbeats 0 in
theorem all_mk {P : Program} {w : World} {K : PySem.W.Frag} {h : Heap} {mg : Str → Option Value} {fa : Addr} (X : K.In h) (G : h.Ns mainGlobals mg) (hfa : mg "voices" = some (.ref fa))
    {pVoice : Addr}
    {f1 : Addr} {od1 an1 : Option Addr} {sl1 : Array (Option Value)} {oc1 kV1 dc1 pm1 cd1 ct1 : Value}
    {f2 : Addr} {od2 an2 : Option Addr} {sl2 : Array (Option Value)} {oc2 kV2 dc2 pm2 cd2 ct2 : Value}
    {f3 : Addr} {od3 an3 : Option Addr} {sl3 : Array (Option Value)} {oc3 kV3 dc3 pm3 cd3 ct3 : Value}
    {f4 : Addr} {od4 an4 : Option Addr} {sl4 : Array (Option Value)} {oc4 kV4 dc4 pm4 cd4 ct4 : Value}
    {f5 : Addr} {od5 an5 : Option Addr} {sl5 : Array (Option Value)} {oc5 kV5 dc5 pm5 cd5 ct5 : Value}
    {f6 : Addr} {od6 an6 : Option Addr} {sl6 : Array (Option Value)} {oc6 kV6 dc6 pm6 cd6 ct6 : Value}
    {f7 : Addr} {od7 an7 : Option Addr} {sl7 : Array (Option Value)} {oc7 kV7 dc7 pm7 cd7 ct7 : Value}
    {f8 : Addr} {od8 an8 : Option Addr} {sl8 : Array (Option Value)} {oc8 kV8 dc8 pm8 cd8 ct8 : Value}
    {f9 : Addr} {od9 an9 : Option Addr} {sl9 : Array (Option Value)} {oc9 kV9 dc9 pm9 cd9 ct9 : Value}
    {f10 : Addr} {od10 an10 : Option Addr} {sl10 : Array (Option Value)} {oc10 kV10 dc10 pm10 cd10 ct10 : Value}
    {f11 : Addr} {od11 an11 : Option Addr} {sl11 : Array (Option Value)} {oc11 kV11 dc11 pm11 cd11 ct11 : Value}
    {f12 : Addr} {od12 an12 : Option Addr} {sl12 : Array (Option Value)} {oc12 kV12 dc12 pm12 cd12 ct12 : Value}
    {f13 : Addr} {od13 an13 : Option Addr} {sl13 : Array (Option Value)} {oc13 kV13 dc13 pm13 cd13 ct13 : Value}
    {f14 : Addr} {od14 an14 : Option Addr} {sl14 : Array (Option Value)} {oc14 kV14 dc14 pm14 cd14 ct14 : Value}
    {f15 : Addr} {od15 an15 : Option Addr} {sl15 : Array (Option Value)} {oc15 kV15 dc15 pm15 cd15 ct15 : Value}
    {f16 : Addr} {od16 an16 : Option Addr} {sl16 : Array (Option Value)} {oc16 kV16 dc16 pm16 cd16 ct16 : Value}
    {f17 : Addr} {od17 an17 : Option Addr} {sl17 : Array (Option Value)} {oc17 kV17 dc17 pm17 cd17 ct17 : Value}
    {f18 : Addr} {od18 an18 : Option Addr} {sl18 : Array (Option Value)} {oc18 kV18 dc18 pm18 cd18 ct18 : Value}
    {f19 : Addr} {od19 an19 : Option Addr} {sl19 : Array (Option Value)} {oc19 kV19 dc19 pm19 cd19 ct19 : Value}
    {f20 : Addr} {od20 an20 : Option Addr} {sl20 : Array (Option Value)} {oc20 kV20 dc20 pm20 cd20 ct20 : Value}
    {f21 : Addr} {od21 an21 : Option Addr} {sl21 : Array (Option Value)} {oc21 kV21 dc21 pm21 cd21 ct21 : Value}
    {f22 : Addr} {od22 an22 : Option Addr} {sl22 : Array (Option Value)} {oc22 kV22 dc22 pm22 cd22 ct22 : Value}
    {f23 : Addr} {od23 an23 : Option Addr} {sl23 : Array (Option Value)} {oc23 kV23 dc23 pm23 cd23 ct23 : Value}
    {f24 : Addr} {od24 an24 : Option Addr} {sl24 : Array (Option Value)} {oc24 kV24 dc24 pm24 cd24 ct24 : Value}
    {f25 : Addr} {od25 an25 : Option Addr} {sl25 : Array (Option Value)} {oc25 kV25 dc25 pm25 cd25 ct25 : Value}
    {f26 : Addr} {od26 an26 : Option Addr} {sl26 : Array (Option Value)} {oc26 kV26 dc26 pm26 cd26 ct26 : Value}
    {f27 : Addr} {od27 an27 : Option Addr} {sl27 : Array (Option Value)} {oc27 kV27 dc27 pm27 cd27 ct27 : Value}
    {f28 : Addr} {od28 an28 : Option Addr} {sl28 : Array (Option Value)} {oc28 kV28 dc28 pm28 cd28 ct28 : Value}
    {f29 : Addr} {od29 an29 : Option Addr} {sl29 : Array (Option Value)} {oc29 kV29 dc29 pm29 cd29 ct29 : Value}
    {f30 : Addr} {od30 an30 : Option Addr} {sl30 : Array (Option Value)} {oc30 kV30 dc30 pm30 cd30 ct30 : Value}
    {f31 : Addr} {od31 an31 : Option Addr} {sl31 : Array (Option Value)} {oc31 kV31 dc31 pm31 cd31 ct31 : Value}
    {f32 : Addr} {od32 an32 : Option Addr} {sl32 : Array (Option Value)} {oc32 kV32 dc32 pm32 cd32 ct32 : Value}
    {f33 : Addr} {od33 an33 : Option Addr} {sl33 : Array (Option Value)} {oc33 kV33 dc33 pm33 cd33 ct33 : Value}
    {f34 : Addr} {od34 an34 : Option Addr} {sl34 : Array (Option Value)} {oc34 kV34 dc34 pm34 cd34 ct34 : Value}
    {f35 : Addr} {od35 an35 : Option Addr} {sl35 : Array (Option Value)} {oc35 kV35 dc35 pm35 cd35 ct35 : Value}
    {f36 : Addr} {od36 an36 : Option Addr} {sl36 : Array (Option Value)} {oc36 kV36 dc36 pm36 cd36 ct36 : Value}
    {f37 : Addr} {od37 an37 : Option Addr} {sl37 : Array (Option Value)} {oc37 kV37 dc37 pm37 cd37 ct37 : Value}
    {tWIDTH : Tok}
    {tINFINITY : Tok}
    {tMINUS : Tok}
    {tONE : Tok}
    {tDEPTH : Tok}
    {tMOST_PLAYED : Tok}
    {tVOICES : Tok}
    {pSINGLE : Addr} {dSINGLE : Option Addr} {nSINGLE : Nat} {slSINGLE : Array (Option Value)} {tSINGLE0 tSINGLE1 tSINGLE2 tSINGLE3 tSINGLE4 : Tok}
    (aVoice : PySem.W.nsIn K mainGlobals "Voice" = some (some (.ref pVoice)))
    (a1 : PySem.W.nsIn K mainGlobals "magnitude" = some (some (.ref f1))) (l1 : K.lookup f1 = some ⟨oc1, od1, .func (PySem.W.fnOf "magnitude" "magnitude" (defArgs s_magnitude) (defBody s_magnitude) (defScope s_magnitude) .none kV1 dc1 pm1 an1 cd1 ct1), sl1⟩) (c1 : PySem.W.codeIn K cd1 "magnitude" = true) (k1 : PySem.W.keepIn K (.ref f1) = true)
    (a2 : PySem.W.nsIn K mainGlobals "negated" = some (some (.ref f2))) (l2 : K.lookup f2 = some ⟨oc2, od2, .func (PySem.W.fnOf "negated" "negated" (defArgs s_negated) (defBody s_negated) (defScope s_negated) .none kV2 dc2 pm2 an2 cd2 ct2), sl2⟩) (c2 : PySem.W.codeIn K cd2 "negated" = true) (k2 : PySem.W.keepIn K (.ref f2) = true)
    (a3 : PySem.W.nsIn K mainGlobals "is_no_number" = some (some (.ref f3))) (l3 : K.lookup f3 = some ⟨oc3, od3, .func (PySem.W.fnOf "is_no_number" "is_no_number" (defArgs s_is_no_number) (defBody s_is_no_number) (defScope s_is_no_number) .none kV3 dc3 pm3 an3 cd3 ct3), sl3⟩) (c3 : PySem.W.codeIn K cd3 "is_no_number" = true) (k3 : PySem.W.keepIn K (.ref f3) = true)
    (a4 : PySem.W.nsIn K mainGlobals "is_infinite" = some (some (.ref f4))) (l4 : K.lookup f4 = some ⟨oc4, od4, .func (PySem.W.fnOf "is_infinite" "is_infinite" (defArgs s_is_infinite) (defBody s_is_infinite) (defScope s_is_infinite) .none kV4 dc4 pm4 an4 cd4 ct4), sl4⟩) (c4 : PySem.W.codeIn K cd4 "is_infinite" = true) (k4 : PySem.W.keepIn K (.ref f4) = true)
    (a5 : PySem.W.nsIn K mainGlobals "is_finite" = some (some (.ref f5))) (l5 : K.lookup f5 = some ⟨oc5, od5, .func (PySem.W.fnOf "is_finite" "is_finite" (defArgs s_is_finite) (defBody s_is_finite) (defScope s_is_finite) .none kV5 dc5 pm5 an5 cd5 ct5), sl5⟩) (c5 : PySem.W.codeIn K cd5 "is_finite" = true) (k5 : PySem.W.keepIn K (.ref f5) = true)
    (a6 : PySem.W.nsIn K mainGlobals "no_number" = some (some (.ref f6))) (l6 : K.lookup f6 = some ⟨oc6, od6, .func (PySem.W.fnOf "no_number" "no_number" (defArgs s_no_number) (defBody s_no_number) (defScope s_no_number) .none kV6 dc6 pm6 an6 cd6 ct6), sl6⟩) (c6 : PySem.W.codeIn K cd6 "no_number" = true) (k6 : PySem.W.keepIn K (.ref f6) = true)
    (a7 : PySem.W.nsIn K mainGlobals "told" = some (some (.ref f7))) (l7 : K.lookup f7 = some ⟨oc7, od7, .func (PySem.W.fnOf "told" "told" (defArgs s_told) (defBody s_told) (defScope s_told) .none kV7 dc7 pm7 an7 cd7 ct7), sl7⟩) (c7 : PySem.W.codeIn K cd7 "told" = true) (k7 : PySem.W.keepIn K (.ref f7) = true)
    (a8 : PySem.W.nsIn K mainGlobals "digits" = some (some (.ref f8))) (l8 : K.lookup f8 = some ⟨oc8, od8, .func (PySem.W.fnOf "digits" "digits" (defArgs s_digits) (defBody s_digits) (defScope s_digits) .none kV8 dc8 pm8 an8 cd8 ct8), sl8⟩) (c8 : PySem.W.codeIn K cd8 "digits" = true) (k8 : PySem.W.keepIn K (.ref f8) = true)
    (a9 : PySem.W.nsIn K mainGlobals "exponent" = some (some (.ref f9))) (l9 : K.lookup f9 = some ⟨oc9, od9, .func (PySem.W.fnOf "exponent" "exponent" (defArgs s_exponent) (defBody s_exponent) (defScope s_exponent) .none kV9 dc9 pm9 an9 cd9 ct9), sl9⟩) (c9 : PySem.W.codeIn K cd9 "exponent" = true) (k9 : PySem.W.keepIn K (.ref f9) = true)
    (a10 : PySem.W.nsIn K mainGlobals "shifted" = some (some (.ref f10))) (l10 : K.lookup f10 = some ⟨oc10, od10, .func (PySem.W.fnOf "shifted" "shifted" (defArgs s_shifted) (defBody s_shifted) (defScope s_shifted) .none kV10 dc10 pm10 an10 cd10 ct10), sl10⟩) (c10 : PySem.W.codeIn K cd10 "shifted" = true) (k10 : PySem.W.keepIn K (.ref f10) = true)
    (a11 : PySem.W.nsIn K mainGlobals "rounded" = some (some (.ref f11))) (l11 : K.lookup f11 = some ⟨oc11, od11, .func (PySem.W.fnOf "rounded" "rounded" (defArgs s_rounded) (defBody s_rounded) (defScope s_rounded) .none kV11 dc11 pm11 an11 cd11 ct11), sl11⟩) (c11 : PySem.W.codeIn K cd11 "rounded" = true) (k11 : PySem.W.keepIn K (.ref f11) = true)
    (a12 : PySem.W.nsIn K mainGlobals "finite_fma" = some (some (.ref f12))) (l12 : K.lookup f12 = some ⟨oc12, od12, .func (PySem.W.fnOf "finite_fma" "finite_fma" (defArgs s_finite_fma) (defBody s_finite_fma) (defScope s_finite_fma) .none kV12 dc12 pm12 an12 cd12 ct12), sl12⟩) (c12 : PySem.W.codeIn K cd12 "finite_fma" = true) (k12 : PySem.W.keepIn K (.ref f12) = true)
    (a13 : PySem.W.nsIn K mainGlobals "infinite_fma" = some (some (.ref f13))) (l13 : K.lookup f13 = some ⟨oc13, od13, .func (PySem.W.fnOf "infinite_fma" "infinite_fma" (defArgs s_infinite_fma) (defBody s_infinite_fma) (defScope s_infinite_fma) .none kV13 dc13 pm13 an13 cd13 ct13), sl13⟩) (c13 : PySem.W.codeIn K cd13 "infinite_fma" = true) (k13 : PySem.W.keepIn K (.ref f13) = true)
    (a14 : PySem.W.nsIn K mainGlobals "fma" = some (some (.ref f14))) (l14 : K.lookup f14 = some ⟨oc14, od14, .func (PySem.W.fnOf "fma" "fma" (defArgs s_fma) (defBody s_fma) (defScope s_fma) .none kV14 dc14 pm14 an14 cd14 ct14), sl14⟩) (c14 : PySem.W.codeIn K cd14 "fma" = true) (k14 : PySem.W.keepIn K (.ref f14) = true)
    (a15 : PySem.W.nsIn K mainGlobals "fms" = some (some (.ref f15))) (l15 : K.lookup f15 = some ⟨oc15, od15, .func (PySem.W.fnOf "fms" "fms" (defArgs s_fms) (defBody s_fms) (defScope s_fms) .none kV15 dc15 pm15 an15 cd15 ct15), sl15⟩) (c15 : PySem.W.codeIn K cd15 "fms" = true) (k15 : PySem.W.keepIn K (.ref f15) = true)
    (a16 : PySem.W.nsIn K mainGlobals "fnma" = some (some (.ref f16))) (l16 : K.lookup f16 = some ⟨oc16, od16, .func (PySem.W.fnOf "fnma" "fnma" (defArgs s_fnma) (defBody s_fnma) (defScope s_fnma) .none kV16 dc16 pm16 an16 cd16 ct16), sl16⟩) (c16 : PySem.W.codeIn K cd16 "fnma" = true) (k16 : PySem.W.keepIn K (.ref f16) = true)
    (a17 : PySem.W.nsIn K mainGlobals "multiply" = some (some (.ref f17))) (l17 : K.lookup f17 = some ⟨oc17, od17, .func (PySem.W.fnOf "multiply" "multiply" (defArgs s_multiply) (defBody s_multiply) (defScope s_multiply) .none kV17 dc17 pm17 an17 cd17 ct17), sl17⟩) (c17 : PySem.W.codeIn K cd17 "multiply" = true) (k17 : PySem.W.keepIn K (.ref f17) = true)
    (a18 : PySem.W.nsIn K mainGlobals "add" = some (some (.ref f18))) (l18 : K.lookup f18 = some ⟨oc18, od18, .func (PySem.W.fnOf "add" "add" (defArgs s_add) (defBody s_add) (defScope s_add) .none kV18 dc18 pm18 an18 cd18 ct18), sl18⟩) (c18 : PySem.W.codeIn K cd18 "add" = true) (k18 : PySem.W.keepIn K (.ref f18) = true)
    (a19 : PySem.W.nsIn K mainGlobals "subtract" = some (some (.ref f19))) (l19 : K.lookup f19 = some ⟨oc19, od19, .func (PySem.W.fnOf "subtract" "subtract" (defArgs s_subtract) (defBody s_subtract) (defScope s_subtract) .none kV19 dc19 pm19 an19 cd19 ct19), sl19⟩) (c19 : PySem.W.codeIn K cd19 "subtract" = true) (k19 : PySem.W.keepIn K (.ref f19) = true)
    (a20 : PySem.W.nsIn K mainGlobals "order" = some (some (.ref f20))) (l20 : K.lookup f20 = some ⟨oc20, od20, .func (PySem.W.fnOf "order" "order" (defArgs s_order) (defBody s_order) (defScope s_order) .none kV20 dc20 pm20 an20 cd20 ct20), sl20⟩) (c20 : PySem.W.codeIn K cd20 "order" = true) (k20 : PySem.W.keepIn K (.ref f20) = true)
    (a21 : PySem.W.nsIn K mainGlobals "are_numbers" = some (some (.ref f21))) (l21 : K.lookup f21 = some ⟨oc21, od21, .func (PySem.W.fnOf "are_numbers" "are_numbers" (defArgs s_are_numbers) (defBody s_are_numbers) (defScope s_are_numbers) .none kV21 dc21 pm21 an21 cd21 ct21), sl21⟩) (c21 : PySem.W.codeIn K cd21 "are_numbers" = true) (k21 : PySem.W.keepIn K (.ref f21) = true)
    (a22 : PySem.W.nsIn K mainGlobals "not_less" = some (some (.ref f22))) (l22 : K.lookup f22 = some ⟨oc22, od22, .func (PySem.W.fnOf "not_less" "not_less" (defArgs s_not_less) (defBody s_not_less) (defScope s_not_less) .none kV22 dc22 pm22 an22 cd22 ct22), sl22⟩) (c22 : PySem.W.codeIn K cd22 "not_less" = true) (k22 : PySem.W.keepIn K (.ref f22) = true)
    (a23 : PySem.W.nsIn K mainGlobals "turned" = some (some (.ref f23))) (l23 : K.lookup f23 = some ⟨oc23, od23, .func (PySem.W.fnOf "turned" "turned" (defArgs s_turned) (defBody s_turned) (defScope s_turned) .none kV23 dc23 pm23 an23 cd23 ct23), sl23⟩) (c23 : PySem.W.codeIn K cd23 "turned" = true) (k23 : PySem.W.keepIn K (.ref f23) = true)
    (a24 : PySem.W.nsIn K mainGlobals "next_height" = some (some (.ref f24))) (l24 : K.lookup f24 = some ⟨oc24, od24, .func (PySem.W.fnOf "next_height" "next_height" (defArgs s_next_height) (defBody s_next_height) (defScope s_next_height) .none kV24 dc24 pm24 an24 cd24 ct24), sl24⟩) (c24 : PySem.W.codeIn K cd24 "next_height" = true) (k24 : PySem.W.keepIn K (.ref f24) = true)
    (a25 : PySem.W.nsIn K mainGlobals "through_filter" = some (some (.ref f25))) (l25 : K.lookup f25 = some ⟨oc25, od25, .func (PySem.W.fnOf "through_filter" "through_filter" (defArgs s_through_filter) (defBody s_through_filter) (defScope s_through_filter) .none kV25 dc25 pm25 an25 cd25 ct25), sl25⟩) (c25 : PySem.W.codeIn K cd25 "through_filter" = true) (k25 : PySem.W.keepIn K (.ref f25) = true)
    (a26 : PySem.W.findIn K (.ref pVoice) "__init__" = some (some (.ref f26))) (q26 : PySem.W.isFn K (.ref f26) = true) (l26 : K.lookup f26 = some ⟨oc26, od26, .func (PySem.W.fnOf "__init__" "Voice.__init__" (defArgs s_Voice___init__) (defBody s_Voice___init__) (defScope s_Voice___init__) .none kV26 dc26 pm26 an26 cd26 ct26), sl26⟩) (c26 : PySem.W.codeIn K cd26 "Voice.__init__" = true) (k26 : PySem.W.keepIn K (.ref f26) = true)
    (a27 : PySem.W.findIn K (.ref pVoice) "set_up" = some (some (.ref f27))) (q27 : PySem.W.isFn K (.ref f27) = true) (l27 : K.lookup f27 = some ⟨oc27, od27, .func (PySem.W.fnOf "set_up" "Voice.set_up" (defArgs s_Voice_set_up) (defBody s_Voice_set_up) (defScope s_Voice_set_up) .none kV27 dc27 pm27 an27 cd27 ct27), sl27⟩) (c27 : PySem.W.codeIn K cd27 "Voice.set_up" = true) (k27 : PySem.W.keepIn K (.ref f27) = true)
    (a28 : PySem.W.findIn K (.ref pVoice) "rest" = some (some (.ref f28))) (q28 : PySem.W.isFn K (.ref f28) = true) (l28 : K.lookup f28 = some ⟨oc28, od28, .func (PySem.W.fnOf "rest" "Voice.rest" (defArgs s_Voice_rest) (defBody s_Voice_rest) (defScope s_Voice_rest) .none kV28 dc28 pm28 an28 cd28 ct28), sl28⟩) (c28 : PySem.W.codeIn K cd28 "Voice.rest" = true) (k28 : PySem.W.keepIn K (.ref f28) = true)
    (a29 : PySem.W.findIn K (.ref pVoice) "begin" = some (some (.ref f29))) (q29 : PySem.W.isFn K (.ref f29) = true) (l29 : K.lookup f29 = some ⟨oc29, od29, .func (PySem.W.fnOf "begin" "Voice.begin" (defArgs s_Voice_begin) (defBody s_Voice_begin) (defScope s_Voice_begin) .none kV29 dc29 pm29 an29 cd29 ct29), sl29⟩) (c29 : PySem.W.codeIn K cd29 "Voice.begin" = true) (k29 : PySem.W.keepIn K (.ref f29) = true)
    (a30 : PySem.W.findIn K (.ref pVoice) "finish" = some (some (.ref f30))) (q30 : PySem.W.isFn K (.ref f30) = true) (l30 : K.lookup f30 = some ⟨oc30, od30, .func (PySem.W.fnOf "finish" "Voice.finish" (defArgs s_Voice_finish) (defBody s_Voice_finish) (defScope s_Voice_finish) .none kV30 dc30 pm30 an30 cd30 ct30), sl30⟩) (c30 : PySem.W.codeIn K cd30 "Voice.finish" = true) (k30 : PySem.W.keepIn K (.ref f30) = true)
    (a31 : PySem.W.findIn K (.ref pVoice) "sound" = some (some (.ref f31))) (q31 : PySem.W.isFn K (.ref f31) = true) (l31 : K.lookup f31 = some ⟨oc31, od31, .func (PySem.W.fnOf "sound" "Voice.sound" (defArgs s_Voice_sound) (defBody s_Voice_sound) (defScope s_Voice_sound) .none kV31 dc31 pm31 an31 cd31 ct31), sl31⟩) (c31 : PySem.W.codeIn K cd31 "Voice.sound" = true) (k31 : PySem.W.keepIn K (.ref f31) = true)
    (a32 : PySem.W.nsIn K mainGlobals "both_sides" = some (some (.ref f32))) (l32 : K.lookup f32 = some ⟨oc32, od32, .func (PySem.W.fnOf "both_sides" "both_sides" (defArgs s_both_sides) (defBody s_both_sides) (defScope s_both_sides) .none kV32 dc32 pm32 an32 cd32 ct32), sl32⟩) (c32 : PySem.W.codeIn K cd32 "both_sides" = true) (k32 : PySem.W.keepIn K (.ref f32) = true)
    (a33 : PySem.W.nsIn K mainGlobals "refusal" = some (some (.ref f33))) (l33 : K.lookup f33 = some ⟨oc33, od33, .func (PySem.W.fnOf "refusal" "refusal" (defArgs s_refusal) (defBody s_refusal) (defScope s_refusal) .none kV33 dc33 pm33 an33 cd33 ct33), sl33⟩) (c33 : PySem.W.codeIn K cd33 "refusal" = true) (k33 : PySem.W.keepIn K (.ref f33) = true)
    (a34 : PySem.W.nsIn K mainGlobals "told_singles" = some (some (.ref f34))) (l34 : K.lookup f34 = some ⟨oc34, od34, .func (PySem.W.fnOf "told_singles" "told_singles" (defArgs s_told_singles) (defBody s_told_singles) (defScope s_told_singles) .none kV34 dc34 pm34 an34 cd34 ct34), sl34⟩) (c34 : PySem.W.codeIn K cd34 "told_singles" = true) (k34 : PySem.W.keepIn K (.ref f34) = true)
    (a35 : PySem.W.nsIn K mainGlobals "played" = some (some (.ref f35))) (l35 : K.lookup f35 = some ⟨oc35, od35, .func (PySem.W.fnOf "played" "played" (defArgs s_played) (defBody s_played) (defScope s_played) .none kV35 dc35 pm35 an35 cd35 ct35), sl35⟩) (c35 : PySem.W.codeIn K cd35 "played" = true) (k35 : PySem.W.keepIn K (.ref f35) = true)
    (a36 : PySem.W.nsIn K mainGlobals "taken" = some (some (.ref f36))) (l36 : K.lookup f36 = some ⟨oc36, od36, .func (PySem.W.fnOf "taken" "taken" (defArgs s_taken) (defBody s_taken) (defScope s_taken) .none kV36 dc36 pm36 an36 cd36 ct36), sl36⟩) (c36 : PySem.W.codeIn K cd36 "taken" = true) (k36 : PySem.W.keepIn K (.ref f36) = true)
    (a37 : PySem.W.nsIn K mainGlobals "voices" = some (some (.ref f37))) (l37 : K.lookup f37 = some ⟨oc37, od37, .func (PySem.W.fnOf "voices" "voices" (defArgs s_voices) (defBody s_voices) (defScope s_voices) .none kV37 dc37 pm37 an37 cd37 ct37), sl37⟩) (c37 : PySem.W.codeIn K cd37 "voices" = true) (k37 : PySem.W.keepIn K (.ref f37) = true)
    (pgVoice : PySem.W.plainGet K pVoice Str.empty = true) (hdVoice : PySem.W.hasDictIn K pVoice = true) (poVoice : PySem.W.plainOver K pVoice = true) (saVoice : PySem.W.findIn K (.ref pVoice) "__setattr__" = some (some (.builtin "object.__setattr__"))) (mkVoice : PySem.W.makesIn K pVoice = true) (kcVoice : PySem.W.keepIn K (.ref pVoice) = true)
    (n_factors : PySem.W.findIn K (.ref pVoice) "factors" = some none)
    (n_kept : PySem.W.findIn K (.ref pVoice) "kept" = some none)
    (n_left : PySem.W.findIn K (.ref pVoice) "left" = some none)
    (n_point : PySem.W.findIn K (.ref pVoice) "point" = some none)
    (n_right : PySem.W.findIn K (.ref pVoice) "right" = some none)
    (n_slopes : PySem.W.findIn K (.ref pVoice) "slopes" = some none)
    (n_stage : PySem.W.findIn K (.ref pVoice) "stage" = some none)
    (n_turning : PySem.W.findIn K (.ref pVoice) "turning" = some none)
    (n_v : PySem.W.findIn K (.ref pVoice) "v" = some none)
    (iWIDTH : PySem.W.nsIn K mainGlobals "WIDTH" = some (some (Value.int 0 tWIDTH)))
    (iINFINITY : PySem.W.nsIn K mainGlobals "INFINITY" = some (some (Value.int 1 tINFINITY)))
    (iMINUS : PySem.W.nsIn K mainGlobals "MINUS" = some (some (Value.int 2 tMINUS)))
    (iONE : PySem.W.nsIn K mainGlobals "ONE" = some (some (Value.int 3 tONE)))
    (iDEPTH : PySem.W.nsIn K mainGlobals "DEPTH" = some (some (Value.int 4 tDEPTH)))
    (iMOST_PLAYED : PySem.W.nsIn K mainGlobals "MOST_PLAYED" = some (some (Value.int 2048 tMOST_PLAYED)))
    (iVOICES : PySem.W.nsIn K mainGlobals "VOICES" = some (some (Value.int 8 tVOICES)))
    (iSINGLE : PySem.W.nsIn K mainGlobals "SINGLE" = some (some (.ref pSINGLE))) (jSINGLE : K.lookup pSINGLE = some ⟨.type "tuple", dSINGLE, .seq #[Value.int 23 tSINGLE0, Value.int 2139095040 tSINGLE1, Value.int 2147483648 tSINGLE2, Value.int 1065353216 tSINGLE3, Value.int 149 tSINGLE4] nSINGLE, slSINGLE⟩)
    (zabs : PySem.W.nsIn K mainGlobals "abs" = some none)
    (zlen : PySem.W.nsIn K mainGlobals "len" = some none)
    (zmax : PySem.W.nsIn K mainGlobals "max" = some none)
    (zmin : PySem.W.nsIn K mainGlobals "min" = some none)
    (zrange : PySem.W.nsIn K mainGlobals "range" = some none)
    : ∃ fd : FuncData, (∀ (s : Shared) (us : List Value), us.length = 1 → BindsTo s fd ⟨us, []⟩ ((["steps"] : List Str).zip us)) ∧ ∀ base : Heap, K.In base → base.Ns mainGlobals mg → FnOk P w K mg base CX0 12 fa fd ["steps"] (sp_voices K) := by
  have e := hfa.symm.trans (PySem.W.mg_of X G a37)
  cases e
  have T : Txt K mg pSINGLE pVoice := ⟨⟨_, PySem.W.mg_of X G iWIDTH⟩,
    ⟨_, PySem.W.mg_of X G iINFINITY⟩,
    ⟨_, PySem.W.mg_of X G iMINUS⟩,
    ⟨_, PySem.W.mg_of X G iONE⟩,
    ⟨_, PySem.W.mg_of X G iDEPTH⟩,
    ⟨_, PySem.W.mg_of X G iMOST_PLAYED⟩,
    ⟨_, PySem.W.mg_of X G iVOICES⟩,
    PySem.W.mg_of X G iSINGLE,
    ⟨.inl rfl, fun H => .inr ⟨_, _, _, jSINGLE, rfl, rfl, (by show 5 ≤ sizeLine; decide), .cons ⟨_, rfl⟩ (.cons ⟨_, rfl⟩ (.cons ⟨_, rfl⟩ (.cons ⟨_, rfl⟩ (.cons ⟨_, rfl⟩ (.nil)))))⟩⟩,
    PySem.W.mg_none_of X G zabs,
    PySem.W.mg_none_of X G zlen,
    PySem.W.mg_none_of X G zmax,
    PySem.W.mg_none_of X G zmin,
    PySem.W.mg_none_of X G zrange,
    ⟨pgVoice, hdVoice, poVoice, saVoice⟩,
    PySem.W.mg_of X G aVoice,
    n_factors,
    n_kept,
    n_left,
    n_point,
    n_right,
    n_slopes,
    n_stage,
    n_turning,
    n_v⟩
  have D1 : Def K mg "magnitude" s_magnitude ["form", "x"] := ⟨f1, _, fun_mk (st := s_magnitude) l1 c1 k1, PySem.W.mg_of X G a1, (fun_mk (st := s_magnitude) l1 c1 k1).binds (ps := ["form", "x"]) fun _ _ _ _ _ _ us hl => match us, hl with | [_, _], _ => rfl⟩
  have D2 : Def K mg "negated" s_negated ["form", "x"] := ⟨f2, _, fun_mk (st := s_negated) l2 c2 k2, PySem.W.mg_of X G a2, (fun_mk (st := s_negated) l2 c2 k2).binds (ps := ["form", "x"]) fun _ _ _ _ _ _ us hl => match us, hl with | [_, _], _ => rfl⟩
  have D3 : Def K mg "is_no_number" s_is_no_number ["form", "x"] := ⟨f3, _, fun_mk (st := s_is_no_number) l3 c3 k3, PySem.W.mg_of X G a3, (fun_mk (st := s_is_no_number) l3 c3 k3).binds (ps := ["form", "x"]) fun _ _ _ _ _ _ us hl => match us, hl with | [_, _], _ => rfl⟩
  have D4 : Def K mg "is_infinite" s_is_infinite ["form", "x"] := ⟨f4, _, fun_mk (st := s_is_infinite) l4 c4 k4, PySem.W.mg_of X G a4, (fun_mk (st := s_is_infinite) l4 c4 k4).binds (ps := ["form", "x"]) fun _ _ _ _ _ _ us hl => match us, hl with | [_, _], _ => rfl⟩
  have D5 : Def K mg "is_finite" s_is_finite ["form", "x"] := ⟨f5, _, fun_mk (st := s_is_finite) l5 c5 k5, PySem.W.mg_of X G a5, (fun_mk (st := s_is_finite) l5 c5 k5).binds (ps := ["form", "x"]) fun _ _ _ _ _ _ us hl => match us, hl with | [_, _], _ => rfl⟩
  have D6 : Def K mg "no_number" s_no_number ["form"] := ⟨f6, _, fun_mk (st := s_no_number) l6 c6 k6, PySem.W.mg_of X G a6, (fun_mk (st := s_no_number) l6 c6 k6).binds (ps := ["form"]) fun _ _ _ _ _ _ us hl => match us, hl with | [_], _ => rfl⟩
  have D7 : Def K mg "told" s_told ["form", "x"] := ⟨f7, _, fun_mk (st := s_told) l7 c7 k7, PySem.W.mg_of X G a7, (fun_mk (st := s_told) l7 c7 k7).binds (ps := ["form", "x"]) fun _ _ _ _ _ _ us hl => match us, hl with | [_, _], _ => rfl⟩
  have D8 : Def K mg "digits" s_digits ["form", "x"] := ⟨f8, _, fun_mk (st := s_digits) l8 c8 k8, PySem.W.mg_of X G a8, (fun_mk (st := s_digits) l8 c8 k8).binds (ps := ["form", "x"]) fun _ _ _ _ _ _ us hl => match us, hl with | [_, _], _ => rfl⟩
  have D9 : Def K mg "exponent" s_exponent ["form", "x"] := ⟨f9, _, fun_mk (st := s_exponent) l9 c9 k9, PySem.W.mg_of X G a9, (fun_mk (st := s_exponent) l9 c9 k9).binds (ps := ["form", "x"]) fun _ _ _ _ _ _ us hl => match us, hl with | [_, _], _ => rfl⟩
  have D10 : Def K mg "shifted" s_shifted ["m", "k"] := ⟨f10, _, fun_mk (st := s_shifted) l10 c10 k10, PySem.W.mg_of X G a10, (fun_mk (st := s_shifted) l10 c10 k10).binds (ps := ["m", "k"]) fun _ _ _ _ _ _ us hl => match us, hl with | [_, _], _ => rfl⟩
  have D11 : Def K mg "rounded" s_rounded ["form", "m", "e", "zero"] := ⟨f11, _, fun_mk (st := s_rounded) l11 c11 k11, PySem.W.mg_of X G a11, (fun_mk (st := s_rounded) l11 c11 k11).binds (ps := ["form", "m", "e", "zero"]) fun _ _ _ _ _ _ us hl => match us, hl with | [_, _, _, _], _ => rfl⟩
  have D12 : Def K mg "finite_fma" s_finite_fma ["form", "x", "y", "z"] := ⟨f12, _, fun_mk (st := s_finite_fma) l12 c12 k12, PySem.W.mg_of X G a12, (fun_mk (st := s_finite_fma) l12 c12 k12).binds (ps := ["form", "x", "y", "z"]) fun _ _ _ _ _ _ us hl => match us, hl with | [_, _, _, _], _ => rfl⟩
  have D13 : Def K mg "infinite_fma" s_infinite_fma ["form", "x", "y", "z"] := ⟨f13, _, fun_mk (st := s_infinite_fma) l13 c13 k13, PySem.W.mg_of X G a13, (fun_mk (st := s_infinite_fma) l13 c13 k13).binds (ps := ["form", "x", "y", "z"]) fun _ _ _ _ _ _ us hl => match us, hl with | [_, _, _, _], _ => rfl⟩
  have D14 : Def K mg "fma" s_fma ["form", "x", "y", "z"] := ⟨f14, _, fun_mk (st := s_fma) l14 c14 k14, PySem.W.mg_of X G a14, (fun_mk (st := s_fma) l14 c14 k14).binds (ps := ["form", "x", "y", "z"]) fun _ _ _ _ _ _ us hl => match us, hl with | [_, _, _, _], _ => rfl⟩
  have D15 : Def K mg "fms" s_fms ["form", "x", "y", "z"] := ⟨f15, _, fun_mk (st := s_fms) l15 c15 k15, PySem.W.mg_of X G a15, (fun_mk (st := s_fms) l15 c15 k15).binds (ps := ["form", "x", "y", "z"]) fun _ _ _ _ _ _ us hl => match us, hl with | [_, _, _, _], _ => rfl⟩
  have D16 : Def K mg "fnma" s_fnma ["form", "x", "y", "z"] := ⟨f16, _, fun_mk (st := s_fnma) l16 c16 k16, PySem.W.mg_of X G a16, (fun_mk (st := s_fnma) l16 c16 k16).binds (ps := ["form", "x", "y", "z"]) fun _ _ _ _ _ _ us hl => match us, hl with | [_, _, _, _], _ => rfl⟩
  have D17 : Def K mg "multiply" s_multiply ["form", "x", "y"] := ⟨f17, _, fun_mk (st := s_multiply) l17 c17 k17, PySem.W.mg_of X G a17, (fun_mk (st := s_multiply) l17 c17 k17).binds (ps := ["form", "x", "y"]) fun _ _ _ _ _ _ us hl => match us, hl with | [_, _, _], _ => rfl⟩
  have D18 : Def K mg "add" s_add ["form", "x", "y"] := ⟨f18, _, fun_mk (st := s_add) l18 c18 k18, PySem.W.mg_of X G a18, (fun_mk (st := s_add) l18 c18 k18).binds (ps := ["form", "x", "y"]) fun _ _ _ _ _ _ us hl => match us, hl with | [_, _, _], _ => rfl⟩
  have D19 : Def K mg "subtract" s_subtract ["form", "x", "y"] := ⟨f19, _, fun_mk (st := s_subtract) l19 c19 k19, PySem.W.mg_of X G a19, (fun_mk (st := s_subtract) l19 c19 k19).binds (ps := ["form", "x", "y"]) fun _ _ _ _ _ _ us hl => match us, hl with | [_, _, _], _ => rfl⟩
  have D20 : Def K mg "order" s_order ["form", "x"] := ⟨f20, _, fun_mk (st := s_order) l20 c20 k20, PySem.W.mg_of X G a20, (fun_mk (st := s_order) l20 c20 k20).binds (ps := ["form", "x"]) fun _ _ _ _ _ _ us hl => match us, hl with | [_, _], _ => rfl⟩
  have D21 : Def K mg "are_numbers" s_are_numbers ["form", "x", "y"] := ⟨f21, _, fun_mk (st := s_are_numbers) l21 c21 k21, PySem.W.mg_of X G a21, (fun_mk (st := s_are_numbers) l21 c21 k21).binds (ps := ["form", "x", "y"]) fun _ _ _ _ _ _ us hl => match us, hl with | [_, _, _], _ => rfl⟩
  have D22 : Def K mg "not_less" s_not_less ["form", "x", "y"] := ⟨f22, _, fun_mk (st := s_not_less) l22 c22 k22, PySem.W.mg_of X G a22, (fun_mk (st := s_not_less) l22 c22 k22).binds (ps := ["form", "x", "y"]) fun _ _ _ _ _ _ us hl => match us, hl with | [_, _, _], _ => rfl⟩
  have D23 : Def K mg "turned" s_turned ["turning", "c", "s"] := ⟨f23, _, fun_mk (st := s_turned) l23 c23 k23, PySem.W.mg_of X G a23, (fun_mk (st := s_turned) l23 c23 k23).binds (ps := ["turning", "c", "s"]) fun _ _ _ _ _ _ us hl => match us, hl with | [_, _, _], _ => rfl⟩
  have D24 : Def K mg "next_height" s_next_height ["slopes", "stage", "v"] := ⟨f24, _, fun_mk (st := s_next_height) l24 c24 k24, PySem.W.mg_of X G a24, (fun_mk (st := s_next_height) l24 c24 k24).binds (ps := ["slopes", "stage", "v"]) fun _ _ _ _ _ _ us hl => match us, hl with | [_, _, _], _ => rfl⟩
  have D25 : Def K mg "through_filter" s_through_filter ["factors", "z1", "z2", "x"] := ⟨f25, _, fun_mk (st := s_through_filter) l25 c25 k25, PySem.W.mg_of X G a25, (fun_mk (st := s_through_filter) l25 c25 k25).binds (ps := ["factors", "z1", "z2", "x"]) fun _ _ _ _ _ _ us hl => match us, hl with | [_, _, _, _], _ => rfl⟩
  have D26 : Dfi K mg "Voice" pVoice "__init__" "Voice.__init__" s_Voice___init__ ["self"] := ⟨f26, _, fun_mk (st := s_Voice___init__) l26 c26 k26, ⟨mkVoice, a26, q26, kcVoice⟩, (fun_mk (st := s_Voice___init__) l26 c26 k26).binds (ps := ["self"]) fun _ _ _ _ _ _ us hl => match us, hl with | [_], _ => rfl, PySem.W.mg_of X G aVoice⟩
  have D27 : Dfm K pVoice "set_up" "Voice.set_up" s_Voice_set_up ["self", "numbers"] := ⟨f27, _, fun_mk (st := s_Voice_set_up) l27 c27 k27, ⟨a27, q27, k27⟩, (fun_mk (st := s_Voice_set_up) l27 c27 k27).binds (ps := ["self", "numbers"]) fun _ _ _ _ _ _ us hl => match us, hl with | [_, _], _ => rfl, T.clVoice⟩
  have D28 : Dfm K pVoice "rest" "Voice.rest" s_Voice_rest ["self", "stage"] := ⟨f28, _, fun_mk (st := s_Voice_rest) l28 c28 k28, ⟨a28, q28, k28⟩, (fun_mk (st := s_Voice_rest) l28 c28 k28).binds (ps := ["self", "stage"]) fun _ _ _ _ _ _ us hl => match us, hl with | [_, _], _ => rfl, T.clVoice⟩
  have D29 : Dfm K pVoice "begin" "Voice.begin" s_Voice_begin ["self"] := ⟨f29, _, fun_mk (st := s_Voice_begin) l29 c29 k29, ⟨a29, q29, k29⟩, (fun_mk (st := s_Voice_begin) l29 c29 k29).binds (ps := ["self"]) fun _ _ _ _ _ _ us hl => match us, hl with | [_], _ => rfl, T.clVoice⟩
  have D30 : Dfm K pVoice "finish" "Voice.finish" s_Voice_finish ["self"] := ⟨f30, _, fun_mk (st := s_Voice_finish) l30 c30 k30, ⟨a30, q30, k30⟩, (fun_mk (st := s_Voice_finish) l30 c30 k30).binds (ps := ["self"]) fun _ _ _ _ _ _ us hl => match us, hl with | [_], _ => rfl, T.clVoice⟩
  have D31 : Dfm K pVoice "sound" "Voice.sound" s_Voice_sound ["self"] := ⟨f31, _, fun_mk (st := s_Voice_sound) l31 c31 k31, ⟨a31, q31, k31⟩, (fun_mk (st := s_Voice_sound) l31 c31 k31).binds (ps := ["self"]) fun _ _ _ _ _ _ us hl => match us, hl with | [_], _ => rfl, T.clVoice⟩
  have D32 : Def K mg "both_sides" s_both_sides ["voices"] := ⟨f32, _, fun_mk (st := s_both_sides) l32 c32 k32, PySem.W.mg_of X G a32, (fun_mk (st := s_both_sides) l32 c32 k32).binds (ps := ["voices"]) fun _ _ _ _ _ _ us hl => match us, hl with | [_], _ => rfl⟩
  have D33 : Def K mg "refusal" s_refusal [] := ⟨f33, _, fun_mk (st := s_refusal) l33 c33 k33, PySem.W.mg_of X G a33, (fun_mk (st := s_refusal) l33 c33 k33).binds (ps := []) fun _ _ _ _ _ _ us hl => match us, hl with | [], _ => rfl⟩
  have D34 : Def K mg "told_singles" s_told_singles ["row"] := ⟨f34, _, fun_mk (st := s_told_singles) l34 c34 k34, PySem.W.mg_of X G a34, (fun_mk (st := s_told_singles) l34 c34 k34).binds (ps := ["row"]) fun _ _ _ _ _ _ us hl => match us, hl with | [_], _ => rfl⟩
  have D35 : Def K mg "played" s_played ["players", "n"] := ⟨f35, _, fun_mk (st := s_played) l35 c35 k35, PySem.W.mg_of X G a35, (fun_mk (st := s_played) l35 c35 k35).binds (ps := ["players", "n"]) fun _ _ _ _ _ _ us hl => match us, hl with | [_, _], _ => rfl⟩
  have D36 : Def K mg "taken" s_taken ["players", "step"] := ⟨f36, _, fun_mk (st := s_taken) l36 c36 k36, PySem.W.mg_of X G a36, (fun_mk (st := s_taken) l36 c36 k36).binds (ps := ["players", "step"]) fun _ _ _ _ _ _ us hl => match us, hl with | [_, _], _ => rfl⟩
  refine ⟨PySem.W.fnOf "voices" "voices" (defArgs s_voices) (defBody s_voices) (defScope s_voices) .none kV37 dc37 pm37 an37 cd37 ct37, fun s us hl => ?_, fun base _ _ => ?_⟩
  · match us, hl with
    | [_], _ => exact .of_eq rfl
  have C_magnitude := ok_magnitude (P := P) (w := w) (base := base) T D1
  have C_negated := ok_negated (P := P) (w := w) (base := base) T D2
  have C_is_no_number := ok_is_no_number (P := P) (w := w) (base := base) T C_magnitude D3
  have C_is_infinite := ok_is_infinite (P := P) (w := w) (base := base) T C_magnitude D4
  have C_is_finite := ok_is_finite (P := P) (w := w) (base := base) T D5
  have C_no_number := ok_no_number (P := P) (w := w) (base := base) T D6
  have C_told := ok_told (P := P) (w := w) (base := base) T C_is_no_number D7
  have C_digits := ok_digits (P := P) (w := w) (base := base) T C_magnitude D8
  have C_exponent := ok_exponent (P := P) (w := w) (base := base) T C_magnitude D9
  have C_shifted := ok_shifted (P := P) (w := w) (base := base)  D10
  have C_rounded := ok_rounded (P := P) (w := w) (base := base) T C_shifted D11
  have C_finite_fma := ok_finite_fma (P := P) (w := w) (base := base) T C_digits C_exponent C_rounded D12
  have C_infinite_fma := ok_infinite_fma (P := P) (w := w) (base := base) T C_magnitude C_negated C_no_number D13
  have C_fma := ok_fma (P := P) (w := w) (base := base) T C_is_finite C_no_number C_is_no_number C_is_infinite C_infinite_fma C_finite_fma D14
  have C_fms := ok_fms (P := P) (w := w) (base := base) C_fma C_negated D15
  have C_fnma := ok_fnma (P := P) (w := w) (base := base) C_fma C_negated D16
  have C_multiply := ok_multiply (P := P) (w := w) (base := base) T C_fma D17
  have C_add := ok_add (P := P) (w := w) (base := base) T C_fma D18
  have C_subtract := ok_subtract (P := P) (w := w) (base := base) T C_fms D19
  have C_order := ok_order (P := P) (w := w) (base := base) T C_magnitude D20
  have C_are_numbers := ok_are_numbers (P := P) (w := w) (base := base) C_is_no_number D21
  have C_not_less := ok_not_less (P := P) (w := w) (base := base) C_are_numbers C_order D22
  have C_refusal := ok_refusal (P := P) (w := w) (base := base)  D33
  have C_told_singles := ok_told_singles (P := P) (w := w) (base := base) T C_told D34
  have C_next_height := ok_next_height (P := P) (w := w) (base := base) T C_add C_subtract C_not_less D24
  have C_turned := ok_turned (P := P) (w := w) (base := base) T C_fma C_fms C_multiply D23
  have C_through_filter := ok_through_filter (P := P) (w := w) (base := base) T C_fma C_fnma C_multiply D25
  have C_Voice_rest := ok_Voice_rest (P := P) (w := w) (base := base) T D28
  have C_Voice_set_up := ok_Voice_set_up (P := P) (w := w) (base := base) T C_Voice_rest D27
  have C_Voice___init__ := ok_Voice___init__ (P := P) (w := w) (base := base) T C_Voice_set_up D26
  have C_Voice_begin := ok_Voice_begin (P := P) (w := w) (base := base) T C_Voice_rest D29
  have C_Voice_finish := ok_Voice_finish (P := P) (w := w) (base := base) T D30
  have C_Voice_sound := ok_Voice_sound (P := P) (w := w) (base := base) T C_next_height C_multiply C_through_filter C_turned D31
  have C_both_sides := ok_both_sides (P := P) (w := w) (base := base) T C_fma C_Voice_sound D32
  have C_played := ok_played (P := P) (w := w) (base := base) T C_refusal C_told_singles C_both_sides D35
  have C_taken := ok_taken (P := P) (w := w) (base := base) T C_refusal C_played C_Voice_set_up C_Voice_begin C_Voice_finish D36
  exact ok_voices T C_Voice___init__ C_taken (fun_mk (st := s_voices) l37 c37 k37)
end Fn
namespace Fn
open PySem PySem.W L2
theorem args_of (args : List WData) (hpre : PySem.Challenge.rw_tonebench_s15_voices.pre args = true) : ∃ lss : List (List Int), args = [WData.list (lss.map At.enc1)] ∧ lss.length ≤ sizeLine ∧ (∀ ns ∈ lss, ns.length ≤ sizeLine) ∧
      ∀ (K : PySem.W.Frag) (H : Hp) (a : Addr) (as : List Addr), SqL K H a (as.map V.ref) → At.Args K H as lss → sp_voices K [V.ref a] H (fun v H' => ∃ (p : Addr) (ans : List Int), v = .ref p ∧ H' p = some (.lst (ans.map V.int)) ∧ PySem.Challenge.rw_tonebench_s15_voices.post args (At.enc1 ans) = true) E0 := by
  obtain ⟨x, hd, hasked⟩ := os_pre_some hpre
  obtain ⟨henc, hwi⟩ := Codec.encAll_of_decAll _ _ _ hd
  obtain ⟨lss, un⟩ := x
  have w1 := Codec.and_of (show (Codec.inList 0 300 (Codec.inList 2 15 (Codec.inInt (-2147483648) 4294967295)) lss && true) = true from hwi)
  have k := Codec.and_of (show (Codec.inLen 0 300 lss && lss.all (Codec.inList 2 15 (Codec.inInt (-2147483648) 4294967295))) = true from w1.1)
  have k1 := (Codec.inNat_iff.mp k.1).2
  have k2 : ∀ ns ∈ lss, ns.length ≤ 15 := fun ns hn => (in_list (List.all_eq_true.mp k.2 ns hn)).2.1
  refine ⟨lss, henc, Nat.le_trans k1 (by decide), fun ns hn => Nat.le_trans (k2 ns hn) (by decide), ?_⟩
  intro K H a as hq hA
  refine ⟨a, as, lss, rfl, hq, hA, k1, Tb.steps_asked hasked, fun r H' hr => ⟨r, _, rfl, hr, ?_⟩⟩
  refine os_post hd ?_
  have e := Tb.voices_ans lss
  show same (At.enc1 _) (At.enc1 (PySg43.voices lss)) = true
  rw [e]
  exact same_self _
end Fn
open PySem PySem.W PyProof.Rows
set_option maxRecDepth 100000 in
set_option maxHeartbeats 0 in
theorem PySem.Challenge.cw_tonebench_s15_voices_holds : PySem.Challenge.rw_tonebench_s15_voices.Holds := by
  w_on; k_headS; (case hw => exact ⟨[.list []], by decide +kernel, by decide +kernel⟩)
  k_fillS
  refine At.walk_nest (r := PySem.Challenge.rw_tonebench_s15_voices) (k := 12) (x := "steps") (sp := fun K => Fn.sp_voices K) rfl ⟨rfl, by decide, by decide⟩ (fun w h Y => PySem.W.kIn_of Y) ?F Fn.args_of
  case F =>
    intro w mg fa h KX G hmg
    refine' Fn.all_mk KX G hmg ?aVoice ?a1 ?l1 ?c1 ?k1 ?a2 ?l2 ?c2 ?k2 ?a3 ?l3 ?c3 ?k3 ?a4 ?l4 ?c4 ?k4 ?a5 ?l5 ?c5 ?k5 ?a6 ?l6 ?c6 ?k6 ?a7 ?l7 ?c7 ?k7 ?a8 ?l8 ?c8 ?k8 ?a9 ?l9 ?c9 ?k9 ?a10 ?l10 ?c10 ?k10 ?a11 ?l11 ?c11 ?k11 ?a12 ?l12 ?c12 ?k12 ?a13 ?l13 ?c13 ?k13 ?a14 ?l14 ?c14 ?k14 ?a15 ?l15 ?c15 ?k15 ?a16 ?l16 ?c16 ?k16 ?a17 ?l17 ?c17 ?k17 ?a18 ?l18 ?c18 ?k18 ?a19 ?l19 ?c19 ?k19 ?a20 ?l20 ?c20 ?k20 ?a21 ?l21 ?c21 ?k21 ?a22 ?l22 ?c22 ?k22 ?a23 ?l23 ?c23 ?k23 ?a24 ?l24 ?c24 ?k24 ?a25 ?l25 ?c25 ?k25 ?a26 ?q26 ?l26 ?c26 ?k26 ?a27 ?q27 ?l27 ?c27 ?k27 ?a28 ?q28 ?l28 ?c28 ?k28 ?a29 ?q29 ?l29 ?c29 ?k29 ?a30 ?q30 ?l30 ?c30 ?k30 ?a31 ?q31 ?l31 ?c31 ?k31 ?a32 ?l32 ?c32 ?k32 ?a33 ?l33 ?c33 ?k33 ?a34 ?l34 ?c34 ?k34 ?a35 ?l35 ?c35 ?k35 ?a36 ?l36 ?c36 ?k36 ?a37 ?l37 ?c37 ?k37 ?pgVoice ?hdVoice ?poVoice ?saVoice ?mkVoice ?kcVoice ?n_factors ?n_kept ?n_left ?n_point ?n_right ?n_slopes ?n_stage ?n_turning ?n_v ?iWIDTH ?iINFINITY ?iMINUS ?iONE ?iDEPTH ?iMOST_PLAYED ?iVOICES ?iSINGLE ?jSINGLE ?zabs ?zlen ?zmax ?zmin ?zrange
    (case aVoice => k_is)
    (case a1 => k_is)
    (case l1 => k_is)
    (case c1 => k_is)
    (case k1 => k_is)
    (case a2 => k_is)
    (case l2 => k_is)
    (case c2 => k_is)
    (case k2 => k_is)
    (case a3 => k_is)
    (case l3 => k_is)
    (case c3 => k_is)
    (case k3 => k_is)
    (case a4 => k_is)
    (case l4 => k_is)
    (case c4 => k_is)
    (case k4 => k_is)
    (case a5 => k_is)
    (case l5 => k_is)
    (case c5 => k_is)
    (case k5 => k_is)
    (case a6 => k_is)
    (case l6 => k_is)
    (case c6 => k_is)
    (case k6 => k_is)
    (case a7 => k_is)
    (case l7 => k_is)
    (case c7 => k_is)
    (case k7 => k_is)
    (case a8 => k_is)
    (case l8 => k_is)
    (case c8 => k_is)
    (case k8 => k_is)
    (case a9 => k_is)
    (case l9 => k_is)
    (case c9 => k_is)
    (case k9 => k_is)
    (case a10 => k_is)
    (case l10 => k_is)
    (case c10 => k_is)
    (case k10 => k_is)
    (case a11 => k_is)
    (case l11 => k_is)
    (case c11 => k_is)
    (case k11 => k_is)
    (case a12 => k_is)
    (case l12 => k_is)
    (case c12 => k_is)
    (case k12 => k_is)
    (case a13 => k_is)
    (case l13 => k_is)
    (case c13 => k_is)
    (case k13 => k_is)
    (case a14 => k_is)
    (case l14 => k_is)
    (case c14 => k_is)
    (case k14 => k_is)
    (case a15 => k_is)
    (case l15 => k_is)
    (case c15 => k_is)
    (case k15 => k_is)
    (case a16 => k_is)
    (case l16 => k_is)
    (case c16 => k_is)
    (case k16 => k_is)
    (case a17 => k_is)
    (case l17 => k_is)
    (case c17 => k_is)
    (case k17 => k_is)
    (case a18 => k_is)
    (case l18 => k_is)
    (case c18 => k_is)
    (case k18 => k_is)
    (case a19 => k_is)
    (case l19 => k_is)
    (case c19 => k_is)
    (case k19 => k_is)
    (case a20 => k_is)
    (case l20 => k_is)
    (case c20 => k_is)
    (case k20 => k_is)
    (case a21 => k_is)
    (case l21 => k_is)
    (case c21 => k_is)
    (case k21 => k_is)
    (case a22 => k_is)
    (case l22 => k_is)
    (case c22 => k_is)
    (case k22 => k_is)
    (case a23 => k_is)
    (case l23 => k_is)
    (case c23 => k_is)
    (case k23 => k_is)
    (case a24 => k_is)
    (case l24 => k_is)
    (case c24 => k_is)
    (case k24 => k_is)
    (case a25 => k_is)
    (case l25 => k_is)
    (case c25 => k_is)
    (case k25 => k_is)
    (case a26 => k_is)
    (case q26 => k_is)
    (case l26 => k_is)
    (case c26 => k_is)
    (case k26 => k_is)
    (case a27 => k_is)
    (case q27 => k_is)
    (case l27 => k_is)
    (case c27 => k_is)
    (case k27 => k_is)
    (case a28 => k_is)
    (case q28 => k_is)
    (case l28 => k_is)
    (case c28 => k_is)
    (case k28 => k_is)
    (case a29 => k_is)
    (case q29 => k_is)
    (case l29 => k_is)
    (case c29 => k_is)
    (case k29 => k_is)
    (case a30 => k_is)
    (case q30 => k_is)
    (case l30 => k_is)
    (case c30 => k_is)
    (case k30 => k_is)
    (case a31 => k_is)
    (case q31 => k_is)
    (case l31 => k_is)
    (case c31 => k_is)
    (case k31 => k_is)
    (case a32 => k_is)
    (case l32 => k_is)
    (case c32 => k_is)
    (case k32 => k_is)
    (case a33 => k_is)
    (case l33 => k_is)
    (case c33 => k_is)
    (case k33 => k_is)
    (case a34 => k_is)
    (case l34 => k_is)
    (case c34 => k_is)
    (case k34 => k_is)
    (case a35 => k_is)
    (case l35 => k_is)
    (case c35 => k_is)
    (case k35 => k_is)
    (case a36 => k_is)
    (case l36 => k_is)
    (case c36 => k_is)
    (case k36 => k_is)
    (case a37 => k_is)
    (case l37 => k_is)
    (case c37 => k_is)
    (case k37 => k_is)
    (case pgVoice => k_is)
    (case hdVoice => k_is)
    (case poVoice => k_is)
    (case saVoice => k_is)
    (case mkVoice => k_is)
    (case kcVoice => k_is)
    (case n_factors => k_is)
    (case n_kept => k_is)
    (case n_left => k_is)
    (case n_point => k_is)
    (case n_right => k_is)
    (case n_slopes => k_is)
    (case n_stage => k_is)
    (case n_turning => k_is)
    (case n_v => k_is)
    (case iWIDTH => k_is)
    (case iINFINITY => k_is)
    (case iMINUS => k_is)
    (case iONE => k_is)
    (case iDEPTH => k_is)
    (case iMOST_PLAYED => k_is)
    (case iVOICES => k_is)
    (case iSINGLE => k_is)
    (case jSINGLE => k_is)
    (case zabs => k_is)
    (case zlen => k_is)
    (case zmax => k_is)
    (case zmin => k_is)
    (case zrange => k_is)
#print axioms PySem.Challenge.cw_tonebench_s15_voices_holds

