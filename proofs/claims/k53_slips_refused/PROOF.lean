import PyProof.Rows.All
import Wide.All
import OpenK.AllK
import Wide.FinOn
import PyProof.EqAt
import PyProof.EqKinds
import PyProof.TupleCall
import KE.BitLaws
import KE.KSortTupG
import KE.KDictSum
import PyProof.Rows.TupDisplay
import PyProof.Rows.SetFrom
import KE.KSortRegAny
import PyProof.ListMulRoad
import PyProof.FactsAll.tuple_2
import PyProof.StrLawsIn
import PyProof.ListNew
import PySem.Challenge.RW_strikewheel_k53_slips_refused
set_option Elab.async false
set_option linter.all false
set_option maxRecDepth 100000
/-! THE HAND LAYER, for ints, bools, texts, own classes, lists, tuples, dicts, comprehensions, walks over dicts, enumerate, zip, reversed, texts, calls, loops. Paste it whole ahead of your own text; what your proof does not reach may be deleted. -/
namespace L2
open PySem PySem.Spec PyProof.Rows

/-- a key: an int or a str -/
abbrev Key := Sum Int Str
def keyIs : Key → Value → Bool
  | .inl k, v => Value.isInt k v
  | .inr x, v => Value.isStrOf x v
def keyH (w : World) : Key → Int
  | .inl k => hashInt k
  | .inr x => hashStr w x
theorem keyIs_shape : ∀ {k : Key} {v : Value}, keyIs k v = true → (∃ i t, k = Sum.inl i ∧ v = Value.int i t) ∨ (∃ x t, k = Sum.inr x ∧ v = Value.str x t)
  | .inl i, v, h => by
    obtain ⟨t, e⟩ := Value.isInt_shape (k := i) (v := v) h
    exact .inl ⟨i, t, rfl, e⟩
  | .inr x, v, h => by
    obtain ⟨t, e⟩ := Value.isStrOf_shape (x := x) (v := v) h
    exact .inr ⟨x, t, rfl, e⟩
theorem key_ll (a b : Int) : decide ((Sum.inl a : Key) = Sum.inl b) = (a == b) := by
  by_cases e : a = b
  · subst e; simp
  · have h : ¬ (Sum.inl a : Key) = Sum.inl b := fun q => e (Sum.inl.inj q)
    rw [decide_eq_false h]
    exact (beq_eq_false_iff_ne.mpr e).symm
theorem key_rr (a b : Str) : decide ((Sum.inr a : Key) = Sum.inr b) = decide (a = b) := by
  by_cases e : a = b
  · subst e; simp
  · have h : ¬ (Sum.inr a : Key) = Sum.inr b := fun q => e (Sum.inr.inj q)
    rw [decide_eq_false h, decide_eq_false e]
theorem key_lr (a : Int) (b : Str) : decide ((Sum.inl a : Key) = Sum.inr b) = false := decide_eq_false (fun q => nomatch q)
theorem key_rl (a : Str) (b : Int) : decide ((Sum.inr a : Key) = Sum.inl b) = false := decide_eq_false (fun q => nomatch q)

def mixKind (prog : Program) (w : World) : PySem.KeyKind prog w Key where
  is := keyIs
  hash := keyH w
  inj := fun v a b ha hb => by
    rcases keyIs_shape ha with ⟨i, t, rfl, rfl⟩ | ⟨x, t, rfl, rfl⟩
    · rcases keyIs_shape hb with ⟨j, u, rfl, e⟩ | ⟨y, u, rfl, e⟩
      · injection e with e1 _; rw [e1]
      · exact nomatch e
    · rcases keyIs_shape hb with ⟨j, u, rfl, e⟩ | ⟨y, u, rfl, e⟩
      · exact nomatch e
      · injection e with e1 _; rw [e1]
  byValue := fun k v h => by
    rcases keyIs_shape h with ⟨i, t, rfl, rfl⟩ | ⟨x, t, rfl, rfl⟩ <;> rfl
  pyHash := fun hv h => by
    rcases keyIs_shape hv with ⟨i, t, rfl, rfl⟩ | ⟨x, t, rfl, rfl⟩
    · exact wpAny_pyHash_int h
    · exact wpAny_pyHash_str h
  eqBool := fun hu hv h => by
    rcases keyIs_shape hu with ⟨i, t, rfl, rfl⟩ | ⟨x, t, rfl, rfl⟩
    · rcases keyIs_shape hv with ⟨j, u, rfl, rfl⟩ | ⟨y, u, rfl, rfl⟩
      · rw [key_ll] at h; exact wpAny_eqBool_int h
      · rw [key_lr] at h; exact SeqAt.EqAt.int_str i t y u _ _ _ _ h
    · rcases keyIs_shape hv with ⟨j, u, rfl, rfl⟩ | ⟨y, u, rfl, rfl⟩
      · rw [key_rl] at h; exact SeqAt.EqAt.str_int x t j u _ _ _ _ h
      · rw [key_rr] at h; exact wpAny_eqBool_str h
  «strs» := fun k x t v h => by
    rcases keyIs_shape h with ⟨i, u, rfl, e⟩ | ⟨y, u, rfl, e⟩
    · exact nomatch e
    · injection e with e1 _
      subst e1
      cases v <;> rfl

end L2

namespace L2
open PySem PySem.Spec PyProof.Rows

/-- a value, without the heap -/
inductive V where
  | non | bl (b : Bool) | int (i : Int) | str (x : Str) | byt (b : Array UInt8) | flt (b : UInt64) | ref (a : Addr) | ty (n : String)
  deriving DecidableEq

def RelV : V → Value → Prop
  | .non, u => u = Value.none
  | .bl b, u => u = Value.bool b
  | .int i, u => ∃ t, u = Value.int i t
  | .str x, u => ∃ t, u = Value.str x t
  | .byt b, u => ∃ t, u = Value.bytes b t
  | .flt b, u => ∃ t, u = Value.float b t
  | .ref a, u => u = Value.ref a
  | .ty n, u => u = Value.type n

abbrev Vals : List V → List Value → Prop := Paired RelV
theorem Vals.length {xs : List V} {us : List Value} (r : Vals xs us) : xs.length = us.length := Paired.length r
theorem Vals.get : ∀ {xs : List V} {us : List Value} {i : Nat} {x : V}, Vals xs us → xs[i]? = some x → ∃ u, us[i]? = some u ∧ RelV x u
  | _, _, _, _, .nil, e => by simp at e
  | _, _, 0, _, .cons r _, e => by simp at e; subst e; exact ⟨_, rfl, r⟩
  | _, _, i + 1, x, .cons _ t, e => by
    obtain ⟨u, h1, h2⟩ := Vals.get (i := i) (x := x) t (by simpa using e)
    exact ⟨u, by simpa using h1, h2⟩
theorem Vals.set {x : V} {u : Value} (r : RelV x u) : ∀ {xs : List V} {us : List Value} (i : Nat), Vals xs us → Vals (xs.set i x) (us.set i u)
  | _, _, _, .nil => .nil
  | _, _, 0, .cons _ t => .cons r t
  | _, _, i + 1, .cons q t => .cons q (Vals.set r i t)
theorem Vals.append : ∀ {xs ys : List V} {us ws : List Value}, Vals xs us → Vals ys ws → Vals (xs ++ ys) (us ++ ws)
  | _, _, _, _, .nil, s => s
  | _, _, _, _, .cons r t, s => .cons r (Vals.append t s)
theorem Vals.take : ∀ {xs : List V} {us : List Value} (n : Nat), Vals xs us → Vals (xs.take n) (us.take n)
  | _, _, 0, _ => .nil
  | _, _, _ + 1, .nil => .nil
  | _, _, n + 1, .cons r t => .cons r (Vals.take n t)
theorem Vals.drop : ∀ {xs : List V} {us : List Value} (n : Nat), Vals xs us → Vals (xs.drop n) (us.drop n)
  | _, _, 0, r => r
  | _, _, _ + 1, .nil => .nil
  | _, _, n + 1, .cons _ t => Vals.drop n t
def RelO : Option V → Option Value → Prop
  | some v, some u => RelV v u
  | none, none => True
  | _, _ => False
def KV {κ : Type} : List (κ × V) → List (κ × Value) → Prop := Paired fun (p : κ × V) (q : κ × Value) => p.1 = q.1 ∧ RelV p.2 q.2

/-- a key of a dict (00_mix): an int or a text -/
def kV : Key → V
  | .inl i => .int i
  | .inr x => .str x

/-- what stands at a tracked address -/
inductive HO where
  /-- a list -/
  | lst (xs : List V)
  /-- a tuple (never changes) -/
  | tup (xs : List V)
  /-- a dict whose keys are ints and texts; one whose keys are tuples of ints and texts (the empty one is both) -/
  | dK (kvs : List (Key × V)) | dT (kvs : List (List Key × V))
  /-- a set of ints: its members, its size -/
  | set (S : Int → Bool) (n : Nat)
  /-- an instance of the class at C, its dict at dx, its attributes -/
  | ins (C dx : Addr) (fs : List (Str × V))
  /-- the dict of the instance at x -/
  | own (x : Addr)
  /-- the dict of an exception -/
  | xd (fs : List (Str × V))
  /-- a bound method, f of x -/
  | met (f x : Addr)
  /-- a range object lo, lo + 1, .. below hi -/
  | rng (lo hi : Int)
  /-- a thing that is known to the object (the script; a dict while a loop walks it): read, never written while it is so -/
  | frz (o : Obj) (u : HO)
  /-- a code object's table -/
  | tbl (ps : Array Value)
  /-- any other thing, by what is true of its one object (a def of one's own: SetO a S n := HO.ext fun h => ..) -/
  | ext (φ : Heap → Prop)

abbrev Hp := Addr → Option HO
def upd (H : Hp) (a : Addr) (o : HO) : Hp := fun b => if b = a then some o else H b
theorem upd_same {H : Hp} {a : Addr} {o : HO} : upd H a o a = some o := by unfold upd; rw [if_pos rfl]
theorem upd_ne {H : Hp} {a b : Addr} {o : HO} (h : b ≠ a) : upd H a o b = H b := by unfold upd; rw [if_neg h]
/-- two objects of different content stand apart -/
theorem ne_of {H : Hp} {a b : Addr} {o u : HO} (h : H a = some o) (h' : H b = some u) (d : o ≠ u) : a ≠ b := by
  intro e; subst e; rw [h] at h'; exact d (Option.some.inj h')
theorem ne_of_none {H : Hp} {a b : Addr} {o : HO} (h : H a = some o) (h' : H b = none) : a ≠ b := by
  intro e; subst e; rw [h] at h'; cases h'

section
variable (P : Program) (w : World)
def ObjOk (H : Hp) (h : Heap) (a : Addr) : HO → Prop
  | .lst xs => xs.length ≤ sizeLine ∧ ∃ (its : List Value) (n : Nat), Vals xs its ∧ h.get? a = some { cls := .type "list", data := .seq its.toArray n }
  | .tup xs => xs.length ≤ sizeLine ∧ ∃ its : List Value, Vals xs its ∧ IsTup h a its.toArray
  | .dK kvs => kvs.length ≤ sizeLine ∧ (a == sysModules) = false ∧ ∃ vs, KV kvs vs ∧ h.DictOf (mixKind P w) a vs
  | .dT kvs => kvs.length ≤ sizeLine ∧ (a == sysModules) = false ∧ ∃ xs : List (List Key × Addr × Value),
      Paired (fun (p : List Key × V) (q : List Key × Addr × Value) => p.1 = q.1 ∧ H q.2.1 = some (.tup (p.1.map kV)) ∧ RelV p.2 q.2.2) kvs xs ∧
      ∃ o es ep, h.get? a = some o ∧ o.ExactDict ∧ o.data = .dict es ep ∧ es.toList = xs.map (entryOfKey (tupleKind (mixKind P w))) ∧ (xs.map (·.1)).Nodup
  | .set S n => h.SetOf (intKind P w) a S n
  | .ins C dx fs => H dx = some (.own a) ∧ fs.length ≤ 1000 ∧ dx ≠ a ∧ h.get? a = some (PySem.W.instObj C dx) ∧
      ∃ mA, h.Ns1 dx mA ∧ (∀ f, RelO (fs.lookup f) (mA f)) ∧ PySem.Within mA (fs.map (·.1))
  | .own _ => ∃ o, h.get? a = some o
  | .xd fs => ∃ mA, h.Ns1 a mA ∧ ∀ f, RelO (fs.lookup f) (mA f)
  | .rng lo hi => ∃ t u v, h.get? a = some { cls := .type "range", data := .fields #[.int lo t, .int hi u, .int 1 v] }
  | .frz o u => h.get? a = some o ∧ ObjOk H h a u
  | .tbl ps => h.get? a = some { cls := .none, data := .fields ps }
  | .met f x => h.get? a = some (PySem.W.methodObj (.ref f) (.ref x))
  | .ext φ => φ h ∧ (∃ o, h.get? a = some o) ∧ ∀ h1 h2 : Heap, φ h1 → (∀ o, h1.get? a = some o → h2.get? a = some o) → φ h2
/-- the abstract heap is held -/
def HOk (H : Hp) (h : Heap) : Prop := ∀ a o, H a = some o → ObjOk P w H h a o
end

section
variable {P : Program} {w : World} {H H' : Hp} {h h' : Heap} {a : Addr} {o : HO}
theorem ObjOk.lt (x : ObjOk P w H h a o) : a < h.objs.size := by
  cases o with
  | lst xs => obtain ⟨_, _, _, _, e⟩ := x; exact Heap.lt_size e
  | tup xs => obtain ⟨_, _, _, p⟩ := x; exact p.lt
  | dK kvs => obtain ⟨_, _, _, _, o, _, _, e, _⟩ := x; exact Heap.lt_size e
  | dT kvs => obtain ⟨_, _, _, _, o, _, _, e, _⟩ := x; exact Heap.lt_size e
  | set S n => obtain ⟨o, _, _, _, e, _⟩ := x; exact Heap.lt_size e
  | ins C dx fs => obtain ⟨_, _, _, e, _⟩ := x; exact Heap.lt_size e
  | own y => obtain ⟨_, e⟩ := x; exact Heap.lt_size e
  | xd fs => obtain ⟨_, ⟨_, _, _, e, _⟩, _⟩ := x; exact Heap.lt_size e
  | rng lo hi => obtain ⟨_, _, _, e⟩ := x; exact Heap.lt_size e
  | frz ob u => obtain ⟨e, _⟩ := x; exact Heap.lt_size e
  | tbl ps => exact Heap.lt_size (show h.get? a = some _ from x)
  | met f y => exact Heap.lt_size (show h.get? a = some _ from x)
  | ext φ => obtain ⟨_, ⟨_, e⟩, _⟩ := x; exact Heap.lt_size e
theorem Paired.mapP {α β : Type} {F G : α → β → Prop} : ∀ {l₁ : List α} {l₂ : List β}, Paired F l₁ l₂ → (∀ a b, F a b → G a b) → Paired G l₁ l₂
  | _, _, .nil, _ => .nil
  | _, _, .cons r t, f => .cons (f _ _ r) (Paired.mapP t f)
/-- what an object's description leans on: its own object, its own dict, the tuples -/
theorem ObjOk.stay (x : ObjOk P w H h a o) (k : ∀ b u, (b = a ∨ H b = some (.own a)) → h.get? b = some u → h'.get? b = some u)
    (ho : ∀ b, H b = some (.own a) → H' b = some (.own a)) (ht : ∀ b xs, H b = some (.tup xs) → H' b = some (.tup xs)) : ObjOk P w H' h' a o := by
  induction o with
  | lst xs => obtain ⟨z, its, n, r, e⟩ := x; exact ⟨z, its, n, r, k _ _ (.inl rfl) e⟩
  | tup xs => obtain ⟨z, its, r, ob, e, c⟩ := x; exact ⟨z, its, r, ob, k _ _ (.inl rfl) e, c⟩
  | dK kvs => obtain ⟨z, y, vs, r, ob, es, ep, e, c⟩ := x; exact ⟨z, y, vs, r, ob, es, ep, k _ _ (.inl rfl) e, c⟩
  | dT kvs =>
    obtain ⟨z, y, xs, r, ob, es, ep, e, c⟩ := x
    exact ⟨z, y, xs, Paired.mapP r fun p q z => ⟨z.1, ht _ _ z.2.1, z.2.2⟩, ob, es, ep, k _ _ (.inl rfl) e, c⟩
  | set S n => obtain ⟨ob, es, ep, t, e, c⟩ := x; exact ⟨ob, es, ep, t, k _ _ (.inl rfl) e, c⟩
  | ins C dx fs =>
    obtain ⟨d, z, ne, e, mA, ⟨od, es, ep, e2, c⟩, r⟩ := x
    exact ⟨ho _ d, z, ne, k _ _ (.inl rfl) e, mA, ⟨od, es, ep, k _ _ (.inr d) e2, c⟩, r⟩
  | own y => obtain ⟨ob, e⟩ := x; exact ⟨ob, k _ _ (.inl rfl) e⟩
  | xd fs => obtain ⟨mA, ⟨od, es, ep, e, c⟩, r⟩ := x; exact ⟨mA, ⟨od, es, ep, k _ _ (.inl rfl) e, c⟩, r⟩
  | rng lo hi => obtain ⟨t, u, v, e⟩ := x; exact ⟨t, u, v, k _ _ (.inl rfl) e⟩
  | frz ob u ih => obtain ⟨e, q⟩ := x; exact ⟨k _ _ (.inl rfl) e, ih q⟩
  | tbl ps =>
    have e : h.get? a = some { cls := .none, data := .fields ps } := x
    show h'.get? a = some { cls := .none, data := .fields ps }
    exact k a _ (.inl rfl) e
  | met f y =>
    have e : h.get? a = some (PySem.W.methodObj (.ref f) (.ref y)) := x
    show h'.get? a = some (PySem.W.methodObj (.ref f) (.ref y))
    exact k a _ (.inl rfl) e
  | ext φ => obtain ⟨p, ⟨o, e⟩, st⟩ := x; exact ⟨st _ _ p fun o q => k _ _ (.inl rfl) q, ⟨o, k _ _ (.inl rfl) e⟩, st⟩
theorem HOk.lt (x : HOk P w H h) (e : H a = some o) : a < h.objs.size := (x a o e).lt
theorem HOk.fresh (x : HOk P w H h) (e : h.objs.size ≤ a) : H a = none := by
  cases q : H a with
  | none => rfl
  | some u => exact absurd (Nat.lt_of_lt_of_le (x.lt q) e) (Nat.lt_irrefl _)
/-- every object of the heap is kept -/
theorem HOk.kept (x : HOk P w H h) (k : ∀ b u, h.get? b = some u → h'.get? b = some u) : HOk P w H h' := fun a o e =>
  (x a o e).stay (fun b u _ q => k b u q) (fun _ q => q) fun _ _ q => q
/-- a new object is laid and tracked -/
theorem HOk.laid (x : HOk P w H h) (k : ∀ b u, h.get? b = some u → h'.get? b = some u) (hp : h.objs.size ≤ a) (new : ObjOk P w (upd H a o) h' a o) : HOk P w (upd H a o) h' := fun b u e => by
  have hn := x.fresh hp
  by_cases hb : b = a
  · subst hb; rw [upd_same] at e; cases e; exact new
  · rw [upd_ne hb] at e
    exact (x b u e).stay (fun c v _ q => k c v q) (fun c q => by rw [upd_ne (ne_of_none q hn)]; exact q) fun c xs q => by rw [upd_ne (ne_of_none q hn)]; exact q
end

/-- what may be read as u: it is u, or a known u -/
def Rd (H : Hp) (a : Addr) (u : HO) : Prop := H a = some u ∨ ∃ o, H a = some (.frz o u)
theorem Rd.ok {P : Program} {w : World} {H : Hp} {h : Heap} {a : Addr} {u : HO} (r : Rd H a u) (x : HOk P w H h) : ObjOk P w H h a u := by
  rcases r with r | ⟨o, r⟩
  · exact x a u r
  · obtain ⟨_, q⟩ := x a _ r
    exact q
/-- what may be written -/
def Mut : Option HO → Prop
  | some (.lst _) => True
  | some (.dK _) => True
  | some (.dT _) => True
  | some (.set _ _) => True
  | some (.ins _ _ _) => True
  | some (.ext _) => True
  | _ => False
section
variable {P : Program} {w : World} {H : Hp} {h h' : Heap} {x e : Addr} {o' : HO}
/-- the object at e is changed: x itself, or the dict of the instance x -/
theorem HOk.write (ok : HOk P w H h) (mu : Mut (H x)) (he : e = x ∨ H e = some (.own x)) (k : ∀ b u, b ≠ e → h.get? b = some u → h'.get? b = some u) (heo : ∃ u, h'.get? e = some u)
    (new : ObjOk P w (upd H x o') h' x o') : HOk P w (upd H x o') h' := fun b u q => by
  have nown : ∀ c y, H c = some (.own y) → c ≠ x := fun c y r z => by subst z; rw [r] at mu; exact mu
  have ntup : ∀ c xs, H c = some (.tup xs) → c ≠ x := fun c xs r z => by subst z; rw [r] at mu; exact mu
  by_cases hb : b = x
  · subst hb; rw [upd_same] at q; cases q; exact new
  · rw [upd_ne hb] at q
    by_cases hbe : b = e
    · have q' : H b = some (.own x) := by
        rcases he with z | z
        · exact absurd (hbe.trans z) hb
        · rw [hbe]; exact z
      rw [q] at q'; cases q'
      obtain ⟨v, hv⟩ := heo
      exact ⟨v, by rw [hbe]; exact hv⟩
    · refine (ok b u q).stay (fun c v hc r => k c v ?_ r) (fun c r => by rw [upd_ne (nown c b r)]; exact r) fun c xs r => by rw [upd_ne (ntup c xs r)]; exact r
      rcases hc with rfl | hc
      · exact hbe
      · rintro rfl
        rcases he with z | z
        · exact nown c b hc z
        · rw [hc] at z; cases z; exact hb rfl
end

/-! ### kept unless tracked; of the frames at fs (the callers') the slots may change (an exception that passes writes there); of the records at ex (iterators) nothing is said -/
structure Un (fs ex : List Addr) (H H' : Hp) (h h' : Heap) : Prop where
  keep : ∀ b o, h.get? b = some o → H b = none → b ∉ fs → b ∉ ex → h'.get? b = some o
  slot : ∀ b o, h.get? b = some o → H b = none → b ∈ fs → b ∉ ex → ∃ sl, h'.get? b = some { o with slots := sl }
  free : ∀ b o, h.get? b = some o → H b = none → b ∉ ex → H' b = none
  there : ∀ b o, h.get? b = some o → b ∉ ex → ∃ o', h'.get? b = some o'
  tups : ∀ b xs, H b = some (.tup xs) → H' b = some (.tup xs)
  frzs : ∀ b o u, H b = some (.frz o u) → H' b = some (.frz o u)
  tbls : ∀ b ps, H b = some (.tbl ps) → ∃ more, H' b = some (.tbl (ps ++ more))
section
variable {fs fs' ex ex' : List Addr} {H H1 H2 : Hp} {h h1 h2 h' : Heap} {a x e : Addr} {o : HO}
theorem Un.any (u : Un fs ex H H1 h h1) {b : Addr} {ob : Obj} (q : h.get? b = some ob) (n : H b = none) (hx : b ∉ ex) : ∃ sl, h1.get? b = some { ob with slots := sl } := by
  by_cases hb : b ∈ fs
  · exact u.slot b ob q n hb hx
  · exact ⟨ob.slots, u.keep b ob q n hb hx⟩
theorem Un.kept (k : ∀ b u, h.get? b = some u → h'.get? b = some u) : Un fs ex H H h h' :=
  ⟨fun b ob q _ _ _ => k b ob q, fun b ob q _ _ _ => ⟨ob.slots, k b ob q⟩, fun _ _ _ n _ => n, fun b ob q _ => ⟨ob, k b ob q⟩, fun _ _ q => q, fun _ _ _ q => q, fun _ ps q => ⟨#[], by rw [q]; simp⟩⟩
theorem Un.refl : Un fs ex H H h h := Un.kept fun _ _ q => q
theorem Un.laid (k : ∀ b u, h.get? b = some u → h'.get? b = some u) (hp : h.objs.size ≤ a) (hn : H a = none) : Un fs ex H (upd H a o) h h' where
  keep := fun b u q _ _ _ => k b u q
  slot := fun b u q _ _ _ => ⟨u.slots, k b u q⟩
  free := fun b u q n _ => by rw [upd_ne (Nat.ne_of_lt (Nat.lt_of_lt_of_le (Heap.lt_size q) hp))]; exact n
  there := fun b u q _ => ⟨u, k b u q⟩
  tups := fun b xs q => by rw [upd_ne (ne_of_none q hn)]; exact q
  frzs := fun b u xs q => by rw [upd_ne (ne_of_none q hn)]; exact q
  tbls := fun b ps q => ⟨#[], by rw [upd_ne (ne_of_none q hn), q]; simp⟩
theorem Un.write (mu : Mut (H x)) (he : e = x ∨ H e = some (.own x)) (k : ∀ b u, b ≠ e → h.get? b = some u → h'.get? b = some u) (heo : ∃ u, h'.get? e = some u) : Un fs ex H (upd H x o) h h' := by
  have hx : ∀ b, H b = none → b ≠ x := fun b n z => by subst z; rw [n] at mu; exact mu
  have hb : ∀ b, H b = none → b ≠ e := fun b n z => by
    subst z
    rcases he with r | r
    · exact hx b n r
    · rw [n] at r; cases r
  have hm : ∀ b u, H b = some u → ¬ Mut (some u) → b ≠ x := fun b u q nm z => by subst z; rw [q] at mu; exact nm mu
  refine ⟨fun b u q n _ _ => k b u (hb b n) q, fun b u q n _ _ => ⟨u.slots, k b u (hb b n) q⟩, fun b u q n _ => by rw [upd_ne (hx b n)]; exact n, fun b u q _ => ?_,
    fun b xs q => by rw [upd_ne (hm b _ q fun z => z)]; exact q, fun b u xs q => by rw [upd_ne (hm b _ q fun z => z)]; exact q, fun b ps q => ⟨#[], by rw [upd_ne (hm b _ q fun z => z), q]; simp⟩⟩
  by_cases hbe : b = e
  · subst hbe; exact heo
  · exact ⟨u, k b u hbe q⟩
end

/-! ### the heap without what is tracked -/
def trk (h : Heap) (H : Hp) : List Addr := (List.range h.objs.size).filter fun a => (H a).isSome
def hidT (h : Heap) (H : Hp) : Heap := PySem.W.hideAll h (trk h H)
theorem hidT_size (h : Heap) (H : Hp) : (hidT h H).objs.size = h.objs.size := PySem.W.hideAll_size _ _
theorem hidT_get {h : Heap} {H : Hp} {b : Addr} {o : Obj} (e : h.get? b = some o) (n : H b = none) : (hidT h H).get? b = some o :=
  PySem.W.hideAll_get _ e fun hm => by
    have q : (H b).isSome = true := (List.mem_filter.mp hm).2
    rw [n] at q; simp at q
theorem of_hidT {h : Heap} {H : Hp} {b : Addr} {o : Obj} (e : (hidT h H).get? b = some o) : h.get? b = some o ∧ H b = none := by
  have e' : h.get? b = some o := PySem.W.of_hideAll (trk h H) e
  refine ⟨e', ?_⟩
  cases q : H b with
  | none => rfl
  | some x =>
    have hm : b ∈ trk h H := List.mem_filter.mpr ⟨List.mem_range.mpr (Heap.lt_size e'), by simp [q]⟩
    have z : (hidT h H).get? b = none := PySem.W.hideAll_none (trk h H) hm
    rw [z] at e; cases e

/-! ### OpenK's ledger, filled with every new object but one -/
def allNews (g h : Heap) (L : Addr) : List (Addr × Obj) := (List.range h.objs.size).filterMap fun a => if a = L ∨ (g.get? a).isSome = true then none else (h.get? a).map fun o => (a, o)
def rest (g h : Heap) (L d : Addr) : List (Addr × Obj) := (allNews g h L).filter fun p => decide (p.1 ≠ d)
end L2

namespace L2
open PySem PySem.Spec PyProof.Rows

/-- the module's facts, over the base: the heap at the law's entry without what is tracked there -/
structure Mod (K : PySem.W.Frag) (mg : Str → Option Value) (base : Heap) : Prop where
  kin : K.In base
  glob : base.Ns mainGlobals mg
  blt : ∃ mb, base.Ns builtinsNs mb ∧ ∀ x : Str, x ≠ "__name__" → mb x = bootBuiltins x
  nolimit : base.NoLimit

/-- the context: a def's body (or a comprehension's block) running. base: fixed through the whole law; s₀, H₀: the entry; outer: the frames whose slots others may change (a def's callers); stack: all frames that run;
   ex: iterators that were made ahead of the entry and are walked here (a comprehension's); fn: the names whose cells were made at the entry (a def: all; a comprehension's block: its own); calm: not within an except suite; pn: pins that every state bears; xe: what is wanted of an exception that leaves the code -/
structure Cx where
  prog : Program
  w : World
  K : PySem.W.Frag
  mg : Str → Option Value
  base : Heap
  A : Around
  N : List Str
  s_0 : Shared
  H_0 : Hp
  env : Env
  outer : List Env
  stack : List Env
  ex : List Addr
  fn : Str → Bool
  calm : Bool
  pn : List (Addr × Obj)
  xe : Value → Shared → Prop
/-- the callers' frames -/
def frs (l : List Env) : List Addr := l.filterMap (·.frame)
abbrev Cx.fs (X : Cx) : List Addr := frs X.outer

def Vis (sc : Scope) (x : Str) : Prop := sc.names.lookup x = some .local ∨ sc.names.lookup x = some .cell ∨ sc.names.lookup x = some .free
def Loc (sc : Scope) (x : Str) : Prop := sc.names.lookup x = some .local ∨ sc.names.lookup x = some .cell
def Look (env : Env) (h : Heap) (m : Str → Option Value) (x : Str) (u : Value) : Prop :=
  (env.kindOf x = some .local ∧ m x = some u) ∨ ((env.kindOf x = some .cell ∨ env.kindOf x = some .free) ∧ ∃ c, env.cells.lookup x = some c ∧ h.IsCell c (some u))

structure Cx.Ok (X : Cx) : Prop where
  mod : Mod X.K X.mg X.base
  kind : X.env.scope.kind = .function
  glob : X.env.globals = mainGlobals
  blt : X.env.builtins = builtinsNs
  above : X.s_0.heap.objs.size ≤ X.env.locals
  inj : ∀ x y c, X.env.cells.lookup x = some c → X.env.cells.lookup y = some c → x = y
  has : ∀ x, (X.env.kindOf x = some .cell ∨ X.env.kindOf x = some .free) → ∃ c, X.env.cells.lookup x = some c
  cab : ∀ x c, X.fn x = true → X.env.cells.lookup x = some c → X.s_0.heap.objs.size ≤ c
  hd : X.calm = true → X.A.handled = none
  frames : X.A.frames = some X.stack
  stk : X.stack = X.outer ∨ (X.stack = X.env :: X.outer ∧ X.env.frame = some X.env.locals)
  exf : ∀ b ∈ X.ex, b ≠ X.env.locals ∧ ∀ x c, X.env.cells.lookup x = some c → c ≠ b
  bs : ∀ b o, X.base.get? b = some o → X.s_0.heap.get? b = some o ∧ X.H_0 b = none
  bsz : X.base.objs.size ≤ X.s_0.heap.objs.size
  noex : ∀ b o, X.base.get? b = some o → b ∉ X.ex
  exfs : ∀ b ∈ X.ex, b ∉ X.fs
  funs : X.s_0.heap.FunFrames X.base X.outer
  frf : ∀ b ∈ X.fs, X.H_0 b = none

structure Inv (X : Cx) (pins : List (Addr × Obj)) (σ : List (Option V)) (H : Hp) (s : Shared) : Prop where
  ok : X.Ok
  os : s.os = X.s_0.os
  bare : AllBare s.gens
  base : Un X.fs X.ex X.H_0 H X.s_0.heap s.heap
  loc : ∃ m, s.heap.Ns X.env.locals m ∧ ∀ (i : Nat) (x : Str) (v : V), X.N[i]? = some x → σ[i]? = some (some v) → Vis X.env.scope x → ∃ u, RelV v u ∧ Look X.env s.heap m x u
  cell : ∀ x c, X.env.cells.lookup x = some c → ∃ v, s.heap.IsCell c v
  free : H X.env.locals = none
  freeC : ∀ x c, X.env.cells.lookup x = some c → H c = none
  pin : ∀ p ∈ X.pn ++ pins, s.heap.get? p.1 = some p.2 ∧ H p.1 = none ∧ p.1 ≠ X.env.locals ∧ p.1 ∉ X.fs ∧ ∀ v, p.2.data ≠ .cell v
  hok : HOk X.prog X.w H s.heap
  len : σ.length = X.N.length

section
variable {X : Cx} {pins : List (Addr × Obj)} {σ : List (Option V)} {H H' : Hp} {s : Shared} {h' : Heap}

theorem Cx.Ok.nofr (ok : X.Ok) {b : Addr} {o : Obj} (e : X.base.get? b = some o) : b ∉ X.fs := fun hb => by
  have := (ok.funs.mem hb).1
  rw [e] at this; cases this
theorem Inv.bs (I : Inv X pins σ H s) : ∀ b o, X.base.get? b = some o → s.heap.get? b = some o ∧ H b = none := fun b o e =>
  ⟨I.base.keep b o (I.ok.bs b o e).1 (I.ok.bs b o e).2 (I.ok.nofr e) (I.ok.noex b o e), I.base.free b o (I.ok.bs b o e).1 (I.ok.bs b o e).2 (I.ok.noex b o e)⟩
theorem Inv.bk (I : Inv X pins σ H s) : ∀ b o, X.base.get? b = some o → s.heap.get? b = some o := fun b o e => (I.bs b o e).1
theorem Inv.mod (I : Inv X pins σ H s) : Mod X.K X.mg X.base := I.ok.mod
theorem Inv.kIn (I : Inv X pins σ H s) : X.K.In s.heap := I.ok.mod.kin.keeps I.bk
/-- the frame over the base: for OpenK's rules (K.In X.base is I.mod.kin) -/
theorem Inv.fr (I : Inv X pins σ H s) : ∃ m, Fr X.base X.env.locals s.heap m :=
  let ⟨m, hn, _⟩ := I.loc
  ⟨m, hn, I.bk, Nat.le_trans I.ok.bsz I.ok.above⟩
theorem Inv.lt (I : Inv X pins σ H s) : X.env.locals < s.heap.objs.size := let ⟨_, hn, _⟩ := I.loc; hn.lt
theorem Inv.sz (I : Inv X pins σ H s) : X.s_0.heap.objs.size ≤ s.heap.objs.size := Nat.le_trans I.ok.above (Nat.le_of_lt I.lt)
theorem Inv.nofs (I : Inv X pins σ H s) {a : Addr} (h : s.heap.objs.size ≤ a) : a ∉ X.fs := fun hb => by
  obtain ⟨_, o, ho, _⟩ := I.ok.funs.mem hb
  exact absurd (Nat.lt_of_lt_of_le (Heap.lt_size ho) (Nat.le_trans I.sz h)) (Nat.lt_irrefl _)
theorem Inv.cne (I : Inv X pins σ H s) : ∀ x c, X.env.cells.lookup x = some c → c ≠ X.env.locals := fun x c e z => by
  obtain ⟨v, o, ho, hd⟩ := I.cell x c e
  obtain ⟨m, ⟨o', es, ep, ho', hd', _⟩, _⟩ := I.loc
  rw [z, ho'] at ho; cases ho; rw [hd'] at hd; cases hd
theorem Inv.funs (I : Inv X pins σ H s) : s.heap.FunFrames X.base X.outer := by
  have all : ∀ (l : List Env), (∀ b ∈ frs l, b ∈ X.fs) → X.s_0.heap.FunFrames X.base l → s.heap.FunFrames X.base l := by
    intro l
    induction l with
    | nil => intro _ _; trivial
    | cons env r ih =>
      intro hs hl
      obtain ⟨hk, ⟨L, o, hf, hn, ho, hd⟩, hr⟩ := hl
      have hL : L ∈ X.fs := hs L (by unfold frs; rw [List.filterMap_cons, hf]; exact List.mem_cons_self)
      obtain ⟨sl, e⟩ := I.base.slot L o ho (I.ok.frf L hL) hL fun z => I.ok.exfs L z hL
      exact ⟨hk, ⟨L, _, hf, hn, e, hd⟩, ih (fun b hb => hs b (by unfold frs; rw [List.filterMap_cons, hf]; exact List.mem_cons_of_mem _ hb)) hr⟩
  exact all X.outer (fun _ hb => hb) I.ok.funs

/-- the frames that run, for a call -/
theorem Inv.stack (I : Inv X pins σ H s) : s.heap.FunFrames X.base X.stack := by
  rcases I.ok.stk with e | ⟨e, hf⟩
  · rw [e]; exact I.funs
  · rw [e]
    obtain ⟨m, hn, _⟩ := I.loc
    refine .cons (by rw [I.ok.kind]; decide) hf hn ?_ I.funs
    exact Heap.get?_none_of_le (Nat.le_trans I.ok.bsz I.ok.above)
theorem Inv.stkSub (I : Inv X pins σ H s) : ∀ b ∈ frs X.stack, b ∈ X.env.locals :: X.fs := fun b hb => by
  rcases I.ok.stk with e | ⟨e, hf⟩
  · rw [e] at hb; exact List.mem_cons_of_mem _ hb
  · rw [e] at hb
    unfold frs at hb
    rw [List.filterMap_cons, hf] at hb
    exact hb
theorem Inv.stkFree (I : Inv X pins σ H s) : ∀ b ∈ frs X.stack, H b = none := fun b hb => by
  rcases List.mem_cons.mp (I.stkSub b hb) with e | hb
  · rw [e]; exact I.free
  · obtain ⟨_, o, ho, _⟩ := I.ok.funs.mem hb
    exact I.base.free b o ho (I.ok.frf b hb) fun z => I.ok.exfs b z hb

/-- THE STEP: the untracked objects but the frame and the records at ch are kept (the callers' frames up to slots), the frame's map is kept, the new abstract heap is held -/
theorem Inv.step {g' : Array GenState} {t' : Nat} {d' : Drawn} {ch : List Addr} (I : Inv X pins σ H s)
    (hch : ∀ b ∈ ch, (b ∈ X.ex ∨ X.s_0.heap.objs.size ≤ b) ∧ b ≠ X.env.locals ∧ (∀ x c, X.env.cells.lookup x = some c → c ≠ b) ∧ ∀ p ∈ X.pn ++ pins, p.1 ≠ b)
    (keep : ∀ b o, b ≠ X.env.locals → b ∉ X.fs → b ∉ ch → s.heap.get? b = some o → H b = none → h'.get? b = some o)
    (slot : ∀ b o, b ≠ X.env.locals → b ∈ X.fs → b ∉ ch → s.heap.get? b = some o → H b = none → ∃ sl, h'.get? b = some { o with slots := sl }) (free : ∀ b o, b ∉ ch → s.heap.get? b = some o → H b = none → H' b = none)
    (there : ∀ b o, b ∉ ch → s.heap.get? b = some o → ∃ o', h'.get? b = some o')
    (tups : ∀ b xs, H b = some (.tup xs) → H' b = some (.tup xs)) (frzs : ∀ b o u, H b = some (.frz o u) → H' b = some (.frz o u)) (tbls : ∀ b ps, H b = some (.tbl ps) → ∃ more, H' b = some (.tbl (ps ++ more)))
    (ns : ∀ m, s.heap.Ns X.env.locals m → h'.Ns X.env.locals m) (hok : HOk X.prog X.w H' h') (hg : AllBare g') :
    Inv X pins σ H' { s with heap := h', gens := g', drawn := d', toks := t' } := by
  have neL : ∀ b o, X.s_0.heap.get? b = some o → b ≠ X.env.locals := fun b o e => Nat.ne_of_lt (Nat.lt_of_lt_of_le (Heap.lt_size e) I.ok.above)
  have neC : ∀ b o, X.s_0.heap.get? b = some o → b ∉ X.ex → b ∉ ch := fun b o e hx hb => by
    rcases (hch b hb).1 with z | z
    · exact hx z
    · exact absurd (Nat.lt_of_lt_of_le (Heap.lt_size e) z) (Nat.lt_irrefl _)
  have cellK : ∀ x c, X.env.cells.lookup x = some c → ∀ v, s.heap.IsCell c v → h'.IsCell c v := fun x c e v ⟨o, ho, hd⟩ => by
    have nch : c ∉ ch := fun z => (hch c z).2.2.1 x c e rfl
    by_cases hc : c ∈ X.fs
    · obtain ⟨sl, q⟩ := slot c o (I.cne x c e) hc nch ho (I.freeC x c e)
      exact ⟨_, q, hd⟩
    · exact ⟨o, keep c o (I.cne x c e) hc nch ho (I.freeC x c e), hd⟩
  refine ⟨I.ok, I.os, hg, ⟨fun b o e n hb hx => ?_, fun b o e n hb hx => ?_, fun b o e n hx => ?_, fun b o e hx => ?_, fun b xs e => tups b xs (I.base.tups b xs e), fun b o xs e => frzs b o xs (I.base.frzs b o xs e), fun b ps e => ?_⟩, ?_, fun x c e => ?_, ?_, fun x c e => ?_, fun p hp => ?_, hok, I.len⟩
  · exact keep b o (neL b o e) hb (neC b o e hx) (I.base.keep b o e n hb hx) (I.base.free b o e n hx)
  · obtain ⟨sl, e1⟩ := I.base.slot b o e n hb hx
    obtain ⟨sl', e2⟩ := slot b _ (neL b o e) hb (neC b o e hx) e1 (I.base.free b o e n hx)
    exact ⟨sl', e2⟩
  · obtain ⟨o', e1⟩ := I.base.there b o e hx
    exact free b o' (neC b o e hx) e1 (I.base.free b o e n hx)
  · obtain ⟨o', e1⟩ := I.base.there b o e hx
    exact there b o' (neC b o e hx) e1
  · obtain ⟨m1, e1⟩ := I.base.tbls b ps e
    obtain ⟨m2, e2⟩ := tbls b _ e1
    exact ⟨m1 ++ m2, by rw [e2, Array.append_assoc]⟩
  · obtain ⟨m, hn, hl⟩ := I.loc
    refine ⟨m, ns m hn, fun i x v e1 e2 e3 => ?_⟩
    obtain ⟨u, r, l⟩ := hl i x v e1 e2 e3
    refine ⟨u, r, ?_⟩
    rcases l with l | ⟨k, c, e, z⟩
    · exact .inl l
    · exact .inr ⟨k, c, e, cellK x c e _ z⟩
  · obtain ⟨v, z⟩ := I.cell x c e
    exact ⟨v, cellK x c e v z⟩
  · obtain ⟨m, ⟨o, _, _, ho, _⟩, _⟩ := I.loc
    exact free _ o (fun z => (hch _ z).2.1 rfl) ho I.free
  · obtain ⟨v, o, ho, hd⟩ := I.cell x c e
    exact free c o (fun z => (hch c z).2.2.1 x c e rfl) ho (I.freeC x c e)
  · obtain ⟨e, n, ne, nf, d⟩ := I.pin p hp
    have nch : p.1 ∉ ch := fun z => (hch p.1 z).2.2.2 p hp rfl
    exact ⟨keep p.1 p.2 ne nf nch e n, free p.1 p.2 nch e n, ne, nf, d⟩
/-- .. where the frame's own object is kept too -/
theorem Inv.un {t' : Nat} (I : Inv X pins σ H s) (u : Un X.fs [] H H' s.heap h') (hok : HOk X.prog X.w H' h') : Inv X pins σ H' { s with heap := h', toks := t' } := by
  obtain ⟨m, ⟨o, es, ep, ho, r⟩, _⟩ := id I.loc
  obtain ⟨sl, hL⟩ := u.any ho I.free (by simp)
  exact I.step (g' := s.gens) (d' := s.drawn) (ch := []) (fun _ z => nomatch z) (fun b o _ hb _ e n => u.keep b o e n hb (by simp)) (fun b o _ hb _ e n => u.slot b o e n hb (by simp)) (fun b o _ e n => u.free b o e n (by simp)) (fun b o _ e => u.there b o e (by simp)) u.tups u.frzs u.tbls (fun m' hm => by
    obtain ⟨o', es', ep', ho', r'⟩ := hm
    rw [ho] at ho'; cases ho'
    exact ⟨_, es', ep', hL, r'⟩) hok I.bare
/-- behind a call (or a comprehension's block): the slots of this frame may have changed too, the records at ch may have turned -/
theorem Inv.call {g' : Array GenState} {t' : Nat} {d' : Drawn} {ch : List Addr} (I : Inv X pins σ H s) (u : Un (frs X.stack) ch H H' s.heap h') (hok : HOk X.prog X.w H' h') (hg : AllBare g')
    (hch : ∀ b ∈ ch, (b ∈ X.ex ∨ X.s_0.heap.objs.size ≤ b) ∧ b ≠ X.env.locals ∧ (∀ x c, X.env.cells.lookup x = some c → c ≠ b) ∧ ∀ p ∈ X.pn ++ pins, p.1 ≠ b) :
    Inv X pins σ H' { s with heap := h', gens := g', drawn := d', toks := t' } := by
  obtain ⟨m, ⟨o, es, ep, ho, r⟩, _⟩ := id I.loc
  obtain ⟨sl, hL⟩ := u.any ho I.free fun z => (hch _ z).2.1 rfl
  exact I.step (ch := ch) hch (fun b o hL hb hc e n => u.keep b o e n (fun z => (List.mem_cons.mp (I.stkSub b z)).elim hL hb) hc) (fun b o _ _ hc e n => u.any e n hc) (fun b o hc e n => u.free b o e n hc) (fun b o hc e => u.there b o e hc) u.tups u.frzs u.tbls (fun m' hm => by
    obtain ⟨o', es', ep', ho', r'⟩ := hm
    rw [ho] at ho'; cases ho'
    exact ⟨_, es', ep', hL, r'⟩) hok hg
/-- an untracked record of ours (an iterator) has turned -/
theorem Inv.turned {t' : Nat} {it : Addr} (I : Inv X pins σ H s) (k : ∀ b o, b ≠ it → s.heap.get? b = some o → h'.get? b = some o) (hn : H it = none) (hL : it ≠ X.env.locals)
    (h1 : it ∈ X.ex ∨ X.s_0.heap.objs.size ≤ it) (h2 : ∀ x c, X.env.cells.lookup x = some c → c ≠ it) (h3 : ∀ p ∈ X.pn ++ pins, p.1 ≠ it) : Inv X pins σ H { s with heap := h', toks := t' } := by
  have nit : ∀ b u, H b = some u → b ≠ it := fun b u e z => by rw [z, hn] at e; cases e
  refine I.step (g' := s.gens) (d' := s.drawn) (ch := [it]) (fun b hb => ?_) (fun b o _ _ hc e _ => k b o (fun z => hc (by simp [z])) e) (fun b o _ _ hc e _ => ⟨o.slots, k b o (fun z => hc (by simp [z])) e⟩) (fun _ _ _ _ n => n)
    (fun b o hc e => ⟨o, k b o (fun z => hc (by simp [z])) e⟩) (fun _ _ e => e) (fun _ _ _ e => e) (fun b ps e => ⟨#[], by rw [e]; simp⟩) (fun m hm => ?_) (fun b u e => ?_) I.bare
  · have e : b = it := by simpa using hb
    subst e
    exact ⟨h1, hL, h2, h3⟩
  · obtain ⟨o, es, ep, ho, r⟩ := hm
    exact ⟨o, es, ep, k _ o (Ne.symm hL) ho, r⟩
  · refine (I.hok b u e).stay (fun c v hc q => k c v ?_ q) (fun _ q => q) fun _ _ q => q
    rcases hc with z | z
    · rw [z]; exact nit b u e
    · exact nit c _ z
theorem Inv.tok (I : Inv X pins σ H s) (t : Nat) : Inv X pins σ H { s with toks := t } := I.un (h' := s.heap) (t' := t) Un.refl I.hok
/-- all objects kept -/
theorem Inv.kept {t' : Nat} (I : Inv X pins σ H s) (k : ∀ b u, s.heap.get? b = some u → h'.get? b = some u) : Inv X pins σ H { s with heap := h', toks := t' } := I.un (Un.kept k) (I.hok.kept k)
/-- a new object laid and tracked -/
theorem Inv.laid {a : Addr} {o : HO} {t' : Nat} (I : Inv X pins σ H s) (k : ∀ b u, s.heap.get? b = some u → h'.get? b = some u) (hp : s.heap.objs.size ≤ a) (new : ObjOk X.prog X.w (upd H a o) h' a o) :
    Inv X pins σ (upd H a o) { s with heap := h', toks := t' } := I.un (Un.laid k hp (I.hok.fresh hp)) (I.hok.laid k hp new)
/-- an object written -/
theorem Inv.write {x e : Addr} {o : HO} {t' : Nat} (I : Inv X pins σ H s) (mu : Mut (H x)) (he : e = x ∨ H e = some (.own x)) (k : ∀ b u, b ≠ e → s.heap.get? b = some u → h'.get? b = some u) (heo : ∃ u, h'.get? e = some u)
    (new : ObjOk X.prog X.w (upd H x o) h' x o) : Inv X pins σ (upd H x o) { s with heap := h', toks := t' } := I.un (Un.write mu he k heo) (I.hok.write mu he k heo new)
/-- forgetting slots, pins -/
theorem Inv.weak {σ' : List (Option V)} (I : Inv X pins σ H s) (hl : σ'.length = σ.length) (w : ∀ (i : Nat) v, σ'[i]? = some (some v) → σ[i]? = some (some v)) : Inv X pins σ' H s :=
  ⟨I.ok, I.os, I.bare, I.base, let ⟨m, hn, hl'⟩ := I.loc; ⟨m, hn, fun i x v e1 e2 e3 => hl' i x v e1 (w i v e2) e3⟩, I.cell, I.free, I.freeC, I.pin, I.hok, hl.trans I.len⟩
theorem Inv.pins_of {pins' : List (Addr × Obj)} (I : Inv X pins σ H s) (h : ∀ p ∈ pins', s.heap.get? p.1 = some p.2 ∧ H p.1 = none ∧ p.1 ≠ X.env.locals ∧ p.1 ∉ X.fs ∧ ∀ v, p.2.data ≠ .cell v) : Inv X pins' σ H s :=
  ⟨I.ok, I.os, I.bare, I.base, I.loc, I.cell, I.free, I.freeC, fun p hp => (List.mem_append.mp hp).elim (fun z => I.pin p (List.mem_append_left _ z)) (h p), I.hok, I.len⟩

theorem nodup_ix {N : List Str} (hN : N.Nodup) {i j : Nat} {x : Str} (a : N[i]? = some x) (b : N[j]? = some x) : i = j := by
  obtain ⟨h1, e1⟩ := List.getElem?_eq_some_iff.mp a
  obtain ⟨h2, e2⟩ := List.getElem?_eq_some_iff.mp b
  exact (List.getElem_inj hN).mp (e1.trans e2.symm)

/-- a name is stored; what changed -/
theorem store_ok2 {M : Model} {A : Around} {E : Value → Shared → Prop} {i : Nat} {x : Str} {v : V} {u : Value} {Q : Unit → Shared → Prop} (I : Inv X pins σ H s) (hN : X.N.Nodup) (hi : X.N[i]? = some x) (hx : Loc X.env.scope x) (r : RelV v u)
    (h : ∀ s', Inv X pins (σ.set i (some v)) H s' → (∃ a, Heap.SameBut a s.heap s'.heap ∧ (a = X.env.locals ∨ X.env.cells.lookup x = some a)) → Q () s') (hf : X.fn x = true ∨ X.env.scope.names.lookup x = some .local := by first | exact .inl rfl | exact .inr rfl | assumption) : wpAny M A (storeName X.env x u) Q E s := by
  obtain ⟨m, hn, hl⟩ := id I.loc
  have hcls : (X.env.scope.kind == .class || (X.env.scope.kind == .module && X.env.locals != X.env.globals)) = false := by rw [I.ok.kind]; rfl
  have hiσ : i < σ.length := by rw [I.len]; exact (List.getElem?_eq_some_iff.mp hi).1
  have cne := I.cne
  have tracked : ∀ {a : Addr} {h' : Heap}, (∃ o, s.heap.get? a = some o ∧ H a = none) → Heap.SameBut a s.heap h' → HOk X.prog X.w H h' := fun {a h'} ha hs b ob e => by
    obtain ⟨_, _, hfree⟩ := ha
    refine (I.hok b ob e).stay (fun c w' hc q => (hs.2 c ?_).trans q) (fun _ q => q) fun _ _ q => q
    rintro rfl
    rcases hc with rfl | hc
    · rw [hfree] at e; cases e
    · rw [hfree] at hc; cases hc
  rcases hx with hk | hk
  · refine wpAny_storeName_local hk hn (fun h' hn' hs => ?_) hcls
    obtain ⟨oL, _, _, hoL, _⟩ := id hn
    refine h _ ⟨I.ok, I.os, I.bare, ⟨fun b o e n hb hx => ?_, fun b o e n hb hx => ?_, I.base.free, fun b o e hx => ?_, I.base.tups, I.base.frzs, I.base.tbls⟩, ⟨_, hn', fun j y v' e1 e2 e3 => ?_⟩, fun y c e => ?_, I.free, I.freeC, fun p hp => ?_, tracked ⟨oL, hoL, I.free⟩ hs, by simpa using I.len⟩ ⟨_, hs, .inl rfl⟩
    · exact (hs.2 b (Nat.ne_of_lt (Nat.lt_of_lt_of_le (Heap.lt_size e) I.ok.above))).trans (I.base.keep b o e n hb hx)
    · obtain ⟨sl, e1⟩ := I.base.slot b o e n hb hx
      exact ⟨sl, (hs.2 b (Nat.ne_of_lt (Nat.lt_of_lt_of_le (Heap.lt_size e) I.ok.above))).trans e1⟩
    · obtain ⟨o', e1⟩ := I.base.there b o e hx
      exact ⟨o', (hs.2 b (Nat.ne_of_lt (Nat.lt_of_lt_of_le (Heap.lt_size e) I.ok.above))).trans e1⟩
    · by_cases hj : j = i
      · subst hj
        rw [hi] at e1; cases e1
        rw [List.getElem?_set_self hiσ] at e2
        cases e2
        exact ⟨u, r, .inl ⟨hk, by simp⟩⟩
      · rw [List.getElem?_set_ne (Ne.symm hj)] at e2
        obtain ⟨u', r', q⟩ := hl j y v' e1 e2 e3
        refine ⟨u', r', ?_⟩
        rcases q with ⟨k, e⟩ | ⟨k, c, e, z⟩
        · refine .inl ⟨k, ?_⟩
          have : y ≠ x := fun e => hj (nodup_ix hN e1 (e ▸ hi))
          simp [this, e]
        · exact .inr ⟨k, c, e, z.sameBut hs (cne y c e)⟩
    · obtain ⟨w', z⟩ := I.cell y c e
      exact ⟨w', z.sameBut hs (cne y c e)⟩
    · obtain ⟨e, n, ne, nf, d⟩ := I.pin p hp
      exact ⟨(hs.2 p.1 ne).trans e, n, ne, nf, d⟩
  · have hfn : X.fn x = true := by
      rcases hf with z | z
      · exact z
      · rw [z] at hk; cases hk
    obtain ⟨c, hc⟩ := I.ok.has x (.inl hk)
    obtain ⟨w', z⟩ := I.cell x c hc
    refine wpAny_storeName_cell I.ok.kind hk hc z (fun h' hc' hs => ?_)
    obtain ⟨oc, hoc, hocd⟩ := id z
    refine h { s with heap := h' } ⟨I.ok, I.os, I.bare, ⟨fun b o e n hb hx => ?_, fun b o e n hb hx => ?_, I.base.free, fun b o e hx => ?_, I.base.tups, I.base.frzs, I.base.tbls⟩, ⟨m, hn.sameBut hs (Ne.symm (cne x c hc)), fun j y v' e1 e2 e3 => ?_⟩, fun y c' e => ?_, I.free, I.freeC, fun p hp => ?_, tracked ⟨oc, hoc, I.freeC x c hc⟩ hs, by simpa using I.len⟩ ⟨c, hs, .inr hc⟩
    · exact (hs.2 b (Nat.ne_of_lt (Nat.lt_of_lt_of_le (Heap.lt_size e) (I.ok.cab x c hfn hc)))).trans (I.base.keep b o e n hb hx)
    · obtain ⟨sl, e1⟩ := I.base.slot b o e n hb hx
      exact ⟨sl, (hs.2 b (Nat.ne_of_lt (Nat.lt_of_lt_of_le (Heap.lt_size e) (I.ok.cab x c hfn hc)))).trans e1⟩
    · obtain ⟨o', e1⟩ := I.base.there b o e hx
      exact ⟨o', (hs.2 b (Nat.ne_of_lt (Nat.lt_of_lt_of_le (Heap.lt_size e) (I.ok.cab x c hfn hc)))).trans e1⟩
    · by_cases hj : j = i
      · subst hj
        rw [hi] at e1; cases e1
        rw [List.getElem?_set_self hiσ] at e2
        cases e2
        exact ⟨u, r, .inr ⟨.inl hk, c, hc, hc'⟩⟩
      · rw [List.getElem?_set_ne (Ne.symm hj)] at e2
        obtain ⟨u', r', q⟩ := hl j y v' e1 e2 e3
        refine ⟨u', r', ?_⟩
        rcases q with q | ⟨k, c', e, z'⟩
        · exact .inl q
        · refine .inr ⟨k, c', e, z'.sameBut hs ?_⟩
          rintro rfl
          exact hj (nodup_ix hN e1 (I.ok.inj _ _ _ e hc ▸ hi))
    · by_cases hcc : c' = c
      · subst hcc; exact ⟨_, hc'⟩
      · obtain ⟨w2, z2⟩ := I.cell y c' e
        exact ⟨w2, z2.sameBut hs hcc⟩
    · obtain ⟨e, n, ne, nf, d⟩ := I.pin p hp
      refine ⟨(hs.2 p.1 ?_).trans e, n, ne, nf, d⟩
      intro q
      rw [q, hoc] at e
      have q' : oc = p.2 := Option.some.inj e
      exact d w' (by rw [← q']; exact hocd)
theorem store_ok {M : Model} {A : Around} {E : Value → Shared → Prop} {i : Nat} {x : Str} {v : V} {u : Value} {Q : Unit → Shared → Prop} (I : Inv X pins σ H s) (hN : X.N.Nodup) (hi : X.N[i]? = some x) (hx : Loc X.env.scope x) (r : RelV v u)
    (h : ∀ s', Inv X pins (σ.set i (some v)) H s' → Q () s') (hf : X.fn x = true ∨ X.env.scope.names.lookup x = some .local := by first | exact .inl rfl | exact .inr rfl | assumption) : wpAny M A (storeName X.env x u) Q E s :=
  store_ok2 I hN hi hx r (fun s' I' _ => h s' I') hf
/-- behind a call or a block, the state as it is -/
theorem Inv.call' {s' : Shared} {ch : List Addr} (I : Inv X pins σ H s) (ho : s'.os = s.os) (u : Un (frs X.stack) ch H H' s.heap s'.heap) (hok : HOk X.prog X.w H' s'.heap) (hg : AllBare s'.gens)
    (hch : ∀ b ∈ ch, (b ∈ X.ex ∨ X.s_0.heap.objs.size ≤ b) ∧ b ≠ X.env.locals ∧ (∀ x c, X.env.cells.lookup x = some c → c ≠ b) ∧ ∀ p ∈ X.pn ++ pins, p.1 ≠ b) : Inv X pins σ H' s' := by
  obtain ⟨h', g', d', t', o'⟩ := s'
  have e : o' = s.os := ho
  subst e
  exact I.call (g' := g') (t' := t') (d' := d') u hok hg hch
end

/-! ### the judgements -/
/-- an exception: its class, its own dict's address (where it has one), the abstract heap behind it -/
abbrev XK := Value → Option Addr → Hp → Prop
abbrev St := List (Option V)
abbrev VK := V → Hp → Prop
/-- an expression's reading; a test's; an argument list's -/
abbrev TE := St → Hp → VK → Prop
abbrev TT := St → Hp → (Bool → Hp → Prop) → Prop
abbrev TA := St → Hp → (List V → Hp → Prop) → Prop
/-- what is wanted behind a statement -/
structure Ends where
  nx : St → Hp → Prop
  rt : VK
  bk : St → Hp → Prop := fun _ _ => False
  ct : St → Hp → Prop := fun _ _ => False
abbrev TS := Ends → St → Hp → Prop

def EP (X : Cx) (pins : List (Addr × Obj)) (σ : St) (Q : VK) (u : Value) (s' : Shared) : Prop := ∃ v H', Inv X pins σ H' s' ∧ RelV v u ∧ Q v H'
def TP (X : Cx) (pins : List (Addr × Obj)) (σ : St) (Q : Bool → Hp → Prop) (b : Bool) (s' : Shared) : Prop := ∃ H', Inv X pins σ H' s' ∧ Q b H'
def AP (X : Cx) (pins : List (Addr × Obj)) (σ : St) (Q : List V → Hp → Prop) (us : List Value) (s' : Shared) : Prop := ∃ vs H', Inv X pins σ H' s' ∧ Vals vs us ∧ Q vs H'
def SP (X : Cx) (pins : List (Addr × Obj)) (D : Ends) (f : Flow) (s' : Shared) : Prop :=
  match f with
  | .next => ∃ σ' H', Inv X pins σ' H' s' ∧ D.nx σ' H'
  | .brk => ∃ σ' H', Inv X pins σ' H' s' ∧ D.bk σ' H'
  | .cont => ∃ σ' H', Inv X pins σ' H' s' ∧ D.ct σ' H'
  | .ret u => ∃ v σ' H', Inv X pins σ' H' s' ∧ RelV v u ∧ D.rt v H'

def PE (X : Cx) (e : Expr) (t : TE) : Prop :=
  ∀ (pins : List (Addr × Obj)) (s : Shared) (σ : St) (H : Hp) (Q : VK), Inv X pins σ H s → t σ H Q → wpAny (model X.prog X.w) X.A (eval e X.env) (EP X pins σ Q) X.xe s
def PT (X : Cx) (e : Expr) (t : TT) : Prop :=
  ∀ (pins : List (Addr × Obj)) (s : Shared) (σ : St) (H : Hp) (Q : Bool → Hp → Prop), Inv X pins σ H s → t σ H Q → wpAny (model X.prog X.w) X.A (isTrue e X.env (eval e X.env)) (TP X pins σ Q) X.xe s
/-- a test whatever its 'whole' is (and, or) -/
def PW (X : Cx) (e : Expr) (t : TT) : Prop :=
  ∀ (whole : Sem Value) (pins : List (Addr × Obj)) (s : Shared) (σ : St) (H : Hp) (Q : Bool → Hp → Prop), Inv X pins σ H s → t σ H Q → wpAny (model X.prog X.w) X.A (isTrue e X.env whole) (TP X pins σ Q) X.xe s
theorem PW.pt {X : Cx} {e : Expr} {t : TT} (h : PW X e t) : PT X e t := h _
/-- an argument list (no star), from the left -/
def PA (X : Cx) (es : List Expr) (t : TA) : Prop :=
  ∀ (pos : Pos) (pins : List (Addr × Obj)) (s : Shared) (σ : St) (H : Hp) (Q : List V → Hp → Prop), Inv X pins σ H s → t σ H Q → wpAny (model X.prog X.w) X.A (spliced (backTo pos (starEach es X.env))) (AP X pins σ Q) X.xe s
def PS (X : Cx) (st : Stmt) (t : TS) : Prop :=
  ∀ (pins : List (Addr × Obj)) (s : Shared) (σ : St) (H : Hp) (D : Ends), Inv X pins σ H s → t D σ H → wpAny (model X.prog X.w) X.A (exec st X.env) (SP X pins D) X.xe s
def PSs (X : Cx) (st : List Stmt) (t : TS) : Prop :=
  ∀ (pins : List (Addr × Obj)) (s : Shared) (σ : St) (H : Hp) (D : Ends), Inv X pins σ H s → t D σ H → wpAny (model X.prog X.w) X.A (execs st X.env) (SP X pins D) X.xe s
/-- weaken the end -/
theorem thn {α : Type} {t : Sem α} {Q Q' : α → Shared → Prop} {M : Model} {A : Around} {E : Value → Shared → Prop} {s : Shared} (h : wpAny M A t Q E s) (hQ : ∀ a s, Q a s → Q' a s) : wpAny M A t Q' E s := wpAny_mono h hQ fun _ _ x => x
end L2

namespace L2
open PySem PySem.Spec PyProof.Rows
section
variable {X : Cx}

/-- two expressions in a row -/
theorem bin {a b : Expr} {ta tb : TE} (ha : PE X a ta) (hb : PE X b tb) {pins : List (Addr × Obj)} {s : Shared} {σ : St} {H : Hp} {R : V → V → Hp → Prop} (I : Inv X pins σ H s) (h : ta σ H fun x H1 => tb σ H1 fun y H2 => R x y H2)
    {α : Type} {Q : α → Shared → Prop} {f : Value → Value → Sem α}
    (hf : ∀ v u s2 x y H2, Inv X pins σ H2 s2 → RelV x v → RelV y u → R x y H2 → wpAny (model X.prog X.w) X.A (f v u) Q X.xe s2) :
    wpAny (model X.prog X.w) X.A (eval a X.env) (fun v s₁ => wpAny (model X.prog X.w) X.A (eval b X.env) (fun u s₂ => wpAny (model X.prog X.w) X.A (f v u) Q X.xe s₂) X.xe s₁) X.xe s := by
  refine thn (ha pins s σ H _ I h) fun v s1 ⟨x, H1, I1, r1, q1⟩ => ?_
  refine thn (hb pins s1 σ H1 _ I1 q1) fun u s2 ⟨y, H2, I2, r2, q2⟩ => ?_
  exact hf v u s2 x y H2 I2 r1 r2 q2

/-! ### names and constants -/
def tVar (i : Nat) : TE := fun σ H Q => ∃ v, σ[i]? = some (some v) ∧ Q v H
def tC (v : V) : TE := fun _ H Q => Q v H
theorem pe_var {i : Nat} {x : Str} {pos : Pos} (hN : X.N[i]? = some x) (hv : Vis X.env.scope x) (hd : (x == ("__debug__" : Str)) = false := by decide) (hcd : (x == ("__classdict__" : Str)) = false := by decide) : PE X (.Name x pos) (tVar i) := by
  intro pins s σ H Q I h
  obtain ⟨v, e, h⟩ := h
  obtain ⟨m, hn, hl⟩ := I.loc
  obtain ⟨u, r, l⟩ := hl i x v hN e hv
  have fin : EP X pins σ Q u s := ⟨v, H, I, r, h⟩
  rcases l with ⟨hk, hm⟩ | ⟨hk, c, hc, hcell⟩
  · exact wpAny_Name (wpAny_loadName_local I.ok.kind hk hn hm fin) hd
  · rcases hk with hk | hk
    · exact wpAny_Name (wpAny_loadName_cell I.ok.kind hk hc hcell fin) hd
    · exact wpAny_Name (wpAny_loadName_free I.ok.kind hk hc hcell fin hcd) hd
theorem pe_int {i j pos} : PE X (.Constant (.int i) j pos) (tC (.int i)) := fun _ _ _ H _ I h => wpAny_Constant_int ⟨.int i, H, I.tok _, ⟨_, rfl⟩, h⟩
theorem pe_bl {b j pos} : PE X (.Constant (.bool b) j pos) (tC (.bl b)) := fun _ _ _ H _ I h => Constant_bool ⟨.bl b, H, I, rfl, h⟩
theorem pe_str {x j pos} : PE X (.Constant (.str x) j pos) (tC (.str x)) := fun _ _ _ H _ I h => Calls.Constant_str ⟨.str x, H, I.tok _, ⟨_, rfl⟩, h⟩

/-- a global name of the def -/
def Gl (X : Cx) (x : Str) : Prop := X.env.kindOf x = some .globalImplicit
theorem ld_glob {E : Value → Shared → Prop} {pins : List (Addr × Obj)} {s : Shared} {σ : St} {H : Hp} {x : Str} {u : Value} {pos : Pos} {Q : Value → Shared → Prop} (I : Inv X pins σ H s) (hg : Gl X x) (hm : X.mg x = some u) (h : Q u s)
    (hd : (x == ("__debug__" : Str)) = false := by decide) : wpAny (model X.prog X.w) X.A (eval (.Name x pos) X.env) Q E s :=
  Calls.Name_function_global I.ok.kind hg (Calls.loadGlobal_global (by rw [I.ok.glob]; exact I.mod.glob.keeps I.bk) hm h) hd
theorem ld_blt {E : Value → Shared → Prop} {pins : List (Addr × Obj)} {s : Shared} {σ : St} {H : Hp} {x : Str} {u : Value} {pos : Pos} {Q : Value → Shared → Prop} (I : Inv X pins σ H s) (hg : Gl X x) (hm : X.mg x = none) (hv : bootBuiltins x = some u) (h : Q u s)
    (hn : x ≠ "__name__" := by decide) (hd : (x == ("__debug__" : Str)) = false := by decide) : wpAny (model X.prog X.w) X.A (eval (.Name x pos) X.env) Q E s := by
  obtain ⟨mb, h1, h2⟩ := I.mod.blt
  exact Calls.Name_function_global I.ok.kind hg (Calls.loadGlobal_builtin (by rw [I.ok.glob]; exact I.mod.glob.keeps I.bk) hm (by rw [I.ok.blt]; exact h1.keeps I.bk) ((h2 x hn).trans hv) h) hd
/-- a module's constant, a class, a function, as a value -/
theorem pe_glob {x : Str} {v : V} {u : Value} {pos : Pos} (hg : Gl X x) (hm : X.mg x = some u) (r : RelV v u) (hd : (x == ("__debug__" : Str)) = false := by decide) : PE X (.Name x pos) (tC v) :=
  fun _ _ _ H _ I h => ld_glob I hg hm ⟨v, H, I, r, h⟩ hd
theorem pe_bltn {x : Str} {v : V} {u : Value} {pos : Pos} (hg : Gl X x) (hm : X.mg x = none) (hv : bootBuiltins x = some u) (r : RelV v u) (hn : x ≠ "__name__" := by decide) (hd : (x == ("__debug__" : Str)) = false := by decide) : PE X (.Name x pos) (tC v) :=
  fun _ _ _ H _ I h => ld_blt I hg hm hv ⟨v, H, I, r, h⟩ hn hd

/-! ### arithmetic -/
/-- two ints -/
def t2I (ta tb : TE) (k : Int → Int → Hp → Prop) : St → Hp → Prop := fun σ H => ta σ H fun x H1 => tb σ H1 fun y H2 => ∃ i j, x = .int i ∧ y = .int j ∧ k i j H2
def tAdd (ta tb : TE) : TE := fun σ H Q => t2I ta tb (fun i j H2 => Q (.int (i + j)) H2) σ H
def tSub (ta tb : TE) : TE := fun σ H Q => t2I ta tb (fun i j H2 => Q (.int (i - j)) H2) σ H
/-- the left factor below 2^64 -/
def tMul (ta tb : TE) : TE := fun σ H Q => t2I ta tb (fun i j H2 => (-(2 ^ 64) < i ∧ i < 2 ^ 64) ∧ Q (.int (i * j)) H2) σ H
variable {a b : Expr} {ta tb : TE} {pos : Pos}
/-! ### comparisons -/
def PC (X : Cx) (op : CmpOp) (a b : Expr) (t : TE) : Prop :=
  ∀ (pins : List (Addr × Obj)) (s : Shared) (σ : St) (H : Hp) (Q : VK), Inv X pins σ H s → t σ H Q →
    wpAny (model X.prog X.w) X.A (eval a X.env) (fun v s₁ => wpAny (model X.prog X.w) X.A (eval b X.env) (fun u s₂ => wpAny (model X.prog X.w) X.A (compareOp op v u) (EP X pins σ Q) X.xe s₂) X.xe s₁) X.xe s
def tCmp (p : Int → Int → Bool) (ta tb : TE) : TE := fun σ H Q => t2I ta tb (fun i j H2 => Q (.bl (p i j)) H2) σ H
abbrev tLt : TE → TE → TE := tCmp fun i j => decide (i < j)
abbrev tLe : TE → TE → TE := tCmp fun i j => decide (i ≤ j)
abbrev tGt : TE → TE → TE := tCmp fun i j => decide (j < i)
abbrev tGe : TE → TE → TE := tCmp fun i j => decide (j ≤ i)
abbrev tEqI : TE → TE → TE := tCmp fun i j => decide (i = j)
abbrev tNeI : TE → TE → TE := tCmp fun i j => !decide (i = j)
/-- is None -/
def tIsN (ta : TE) : TE := fun σ H Q => ta σ H fun x H1 => Q (.bl (decide (x = .non))) H1
def tNotN (ta : TE) : TE := fun σ H Q => ta σ H fun x H1 => Q (.bl (!decide (x = .non))) H1
/-- a comparison as a value, as a test -/
def tB (t : TE) : TT := fun σ H Q => t σ H fun x H1 => ∃ c, x = .bl c ∧ Q c H1
theorem pt_cmp {op : CmpOp} {t : TE} (h : PC X op a b t) (h1 : behindInMarks op b = false := by first | exact nobehind _ (by decide) (by decide) | rfl) : PT X (.Compare a [op] [b] pos) (tB t) := by
  intro pins s σ H Q I hw
  refine wpAny_isTrue_Compare1 (thn (h pins s σ H _ I hw) fun v s1 h1 => thn h1 fun u s2 h2 => thn h2 fun c s3 ⟨x, H1, I1, r1, q1⟩ => ?_) h1
  obtain ⟨d, rfl, q⟩ := q1
  cases r1
  exact wpAny_truthy_bool ⟨H1, I1, q⟩
/-- an expression whose value is a bool, as a test -/
theorem pt_val {e : Expr} {t : TE} (h : PE X e t) (he : ∀ whole, isTrue e X.env whole = (do let v ← whole; standAt e.pos; holding [v] (truthy v)) := by intro _; rfl) : PT X e (tB t) := by
  intro pins s σ H Q I hw
  refine isTrue_plain (thn (h pins s σ H _ I hw) fun v s1 ⟨x, H1, I1, r1, q1⟩ => ?_) (he _)
  obtain ⟨d, rfl, q⟩ := q1
  cases r1
  exact wpAny_truthy_bool ⟨H1, I1, q⟩

/-! ### and, or, not -/
variable {tA tB' : TT} {rest : List Expr}
def tAnd (t u : TT) : TT := fun σ H Q => t σ H fun c H1 => if c = true then u σ H1 Q else Q false H1
def tOr (t u : TT) : TT := fun σ H Q => t σ H fun c H1 => if c = true then Q true H1 else u σ H1 Q
def tNot (t : TT) : TT := fun σ H Q => t σ H fun c H1 => Q (!c) H1
theorem pw_and1 (ha : PT X a tA) : PW X (.BoolOp .And [a] pos) tA := by
  intro wh pins s σ H Q I h
  refine isTrue_and (thn (ha pins s σ H Q I h) fun c s1 e => ?_)
  cases c with
  | true => exact isTrue_and_nil e
  | false => exact e
theorem pw_or1 (ha : PT X a tA) : PW X (.BoolOp .Or [a] pos) tA := by
  intro wh pins s σ H Q I h
  refine isTrue_or (thn (ha pins s σ H Q I h) fun c s1 e => ?_)
  cases c with
  | false => exact isTrue_or_nil e
  | true => exact e
theorem pw_and (ha : PT X a tA) (hb : PW X (.BoolOp .And (b :: rest) pos) tB') : PW X (.BoolOp .And (a :: b :: rest) pos) (tAnd tA tB') := by
  intro wh pins s σ H Q I h
  refine isTrue_and (thn (ha pins s σ H _ I h) fun c s1 ⟨H1, I1, q1⟩ => ?_)
  cases c with
  | true => exact hb wh pins s1 σ H1 Q I1 q1
  | false => exact ⟨H1, I1, q1⟩
theorem pw_or (ha : PT X a tA) (hb : PW X (.BoolOp .Or (b :: rest) pos) tB') : PW X (.BoolOp .Or (a :: b :: rest) pos) (tOr tA tB') := by
  intro wh pins s σ H Q I h
  refine isTrue_or (thn (ha pins s σ H _ I h) fun c s1 ⟨H1, I1, q1⟩ => ?_)
  cases c with
  | true => exact ⟨H1, I1, q1⟩
  | false => exact hb wh pins s1 σ H1 Q I1 q1
theorem pt_not (ha : PT X a tA) : PT X (.UnaryOp .Not a pos) (tNot tA) := by
  intro pins s σ H Q I h
  exact isTrue_not (ha pins s σ H (fun c H1 => Q (!c) H1) I h)
/-- .. as values (bools) -/
def tAndV (ta tb : TE) : TE := fun σ H Q => ta σ H fun x H1 => ∃ c, x = .bl c ∧ if c = true then tb σ H1 Q else Q (.bl false) H1
def tOrV (ta tb : TE) : TE := fun σ H Q => ta σ H fun x H1 => ∃ c, x = .bl c ∧ if c = true then Q (.bl true) H1 else tb σ H1 Q
def tNotV (ta : TE) : TE := fun σ H Q => ta σ H fun x H1 => ∃ c, x = .bl c ∧ Q (.bl (!c)) H1
theorem pe_one {op} {t : TE} (h : PE X a t) : PE X (.BoolOp op [a] pos) t := fun pins s σ H Q I hw => BoolOp_one (h pins s σ H Q I hw)
theorem pe_and (ha : PE X a ta) (hb : PE X (.BoolOp .And (b :: rest) pos) tb) : PE X (.BoolOp .And (a :: b :: rest) pos) (tAndV ta tb) := by
  intro pins s σ H Q I h
  refine BoolOp_and (thn (ha pins s σ H _ I h) fun v s1 ⟨x, H1, I1, r1, q1⟩ => ?_)
  obtain ⟨c, rfl, q1⟩ := q1
  cases r1
  refine wpAny_truthy_bool ?_
  cases c with
  | true => exact hb pins s1 σ H1 Q I1 q1
  | false => exact ⟨.bl false, H1, I1, rfl, q1⟩
theorem pe_or (ha : PE X a ta) (hb : PE X (.BoolOp .Or (b :: rest) pos) tb) : PE X (.BoolOp .Or (a :: b :: rest) pos) (tOrV ta tb) := by
  intro pins s σ H Q I h
  refine BoolOp_or (thn (ha pins s σ H _ I h) fun v s1 ⟨x, H1, I1, r1, q1⟩ => ?_)
  obtain ⟨c, rfl, q1⟩ := q1
  cases r1
  refine wpAny_truthy_bool ?_
  cases c with
  | false => exact hb pins s1 σ H1 Q I1 q1
  | true => exact ⟨.bl true, H1, I1, rfl, q1⟩
theorem pe_not (ha : PE X a ta) : PE X (.UnaryOp .Not a pos) (tNotV ta) := by
  intro pins s σ H Q I h
  refine UnaryOp_ (thn (ha pins s σ H _ I h) fun v s1 ⟨x, H1, I1, r1, q1⟩ => ?_)
  obtain ⟨c, rfl, q1⟩ := q1
  cases r1
  exact not_of (wpAny_truthy_bool ⟨.bl (!c), H1, I1, rfl, q1⟩)
/-- a if t else b -/
def tIf (t : TT) (ta tb : TE) : TE := fun σ H Q => t σ H fun c H1 => if c = true then ta σ H1 Q else tb σ H1 Q
theorem pe_ifExp {c : Expr} (hc : PT X c tA) (ha : PE X a ta) (hb : PE X b tb) : PE X (.IfExp c a b pos) (tIf tA ta tb) := by
  intro pins s σ H Q I h
  refine wpAny_IfExp (thn (hc pins s σ H _ I h) fun d s1 ⟨H1, I1, q1⟩ => ?_)
  cases d with
  | true => exact ha pins s1 σ H1 Q I1 q1
  | false => exact hb pins s1 σ H1 Q I1 q1
end
end L2

namespace L2
open PySem PySem.Spec PyProof.Rows

/-! ### a list, a tuple that is read: tracked, frozen, or an object of the module -/
def SqL (K : PySem.W.Frag) (H : Hp) (a : Addr) (xs : List V) : Prop :=
  Rd H a (.lst xs) ∨
    ∃ (o : Obj) (its : Array Value) (n : Nat), K.lookup a = some o ∧ o.cls = .type "list" ∧ o.dict = none ∧ o.data = .seq its n ∧ its.size ≤ sizeLine ∧ Vals xs its.toList
def SqT (K : PySem.W.Frag) (H : Hp) (a : Addr) (xs : List V) : Prop :=
  Rd H a (.tup xs) ∨
    ∃ (o : Obj) (its : Array Value) (n : Nat), K.lookup a = some o ∧ o.cls = .type "tuple" ∧ o.data = .seq its n ∧ its.size ≤ sizeLine ∧ Vals xs its.toList
def absV : Value → Option V
  | .none => some .non
  | .bool b => some (.bl b)
  | .int i _ => some (.int i)
  | .str x _ => some (.str x)
  | .bytes b _ => some (.byt b)
  | .float b _ => some (.flt b)
  | .ref a => some (.ref a)
  | .type n => some (.ty n)
  | _ => none
theorem RelV.abs {x : V} {u : Value} (r : RelV x u) : absV u = some x := by
  cases x with
  | non => cases r; rfl
  | bl _ => cases r; rfl
  | int _ => obtain ⟨t, rfl⟩ := r; rfl
  | str _ => obtain ⟨t, rfl⟩ := r; rfl
  | byt _ => obtain ⟨t, rfl⟩ := r; rfl
  | flt _ => obtain ⟨t, rfl⟩ := r; rfl
  | ref _ => cases r; rfl
  | ty _ => cases r; rfl
theorem RelV.inj {x y : V} {u : Value} (r : RelV x u) (q : RelV y u) : x = y := Option.some.inj (r.abs.symm.trans q.abs)
theorem Vals.inj : ∀ {xs ys : List V} {us : List Value}, Vals xs us → Vals ys us → xs = ys
  | _, _, _, .nil, .nil => rfl
  | _, _, _, .cons r t, .cons r' t' => by rw [r.inj r', Vals.inj t t']
section
variable {X : Cx} {pins : List (Addr × Obj)} {σ : St} {H : Hp} {s : Shared} {a : Addr} {xs ys : List V}
theorem SqL.of {K : PySem.W.Frag} (h : H a = some (.lst xs)) : SqL K H a xs := .inl (.inl h)
theorem SqT.of {K : PySem.W.Frag} (h : H a = some (.tup xs)) : SqT K H a xs := .inl (.inl h)
theorem Inv.list (I : Inv X pins σ H s) (h : SqL X.K H a xs) : ∃ its : List Value, Vals xs its ∧ PlainL s.heap a its.toArray ∧ xs.length ≤ sizeLine := by
  rcases h with h | ⟨o, its, n, hk, hc, hd, hs, hz, r⟩
  · obtain ⟨z, its, n, r, e⟩ := h.ok I.hok
    exact ⟨its, r, ⟨_, n, e, rfl, rfl, rfl⟩, z⟩
  · refine ⟨its.toList, r, ⟨o, n, I.kIn a o hk, hc, hd, by simpa using hs⟩, ?_⟩
    have e := r.length
    simp only [Array.length_toList] at e
    omega
theorem Inv.tuple (I : Inv X pins σ H s) (h : SqT X.K H a xs) : ∃ its : List Value, Vals xs its ∧ IsTup s.heap a its.toArray ∧ xs.length ≤ sizeLine := by
  rcases h with h | ⟨o, its, n, hk, hc, hs, hz, r⟩
  · obtain ⟨z, its, r, p⟩ := h.ok I.hok
    exact ⟨its, r, p, z⟩
  · refine ⟨its.toList, r, ⟨o, I.kIn a o hk, hc, n, by simpa using hs⟩, ?_⟩
    have e := r.length
    simp only [Array.length_toList] at e
    omega
theorem Inv.list_inj (I : Inv X pins σ H s) (h : SqL X.K H a xs) (h' : SqL X.K H a ys) : xs = ys := by
  obtain ⟨its, r, ⟨o, n, e, _, _, d⟩, _⟩ := I.list h
  obtain ⟨its', r', ⟨o', n', e', _, _, d'⟩, _⟩ := I.list h'
  rw [e] at e'; cases e'
  rw [d] at d'
  injection d' with d1 _
  have : its = its' := by simpa using congrArg Array.toList d1
  subst this
  exact r.inj r'
end

/-! ### another wish about exceptions -/
abbrev Cx.wish (X : Cx) (E : Value → Shared → Prop) : Cx := { X with xe := E }
/-- no exception leaves -/
abbrev Cx.nox (X : Cx) : Cx := X.wish fun _ _ => False
theorem Cx.Ok.wish {X : Cx} (ok : X.Ok) (E : Value → Shared → Prop) : (X.wish E).Ok :=
  ⟨ok.mod, ok.kind, ok.glob, ok.blt, ok.above, ok.inj, ok.has, ok.cab, ok.hd, ok.frames, ok.stk, ok.exf, ok.bs, ok.bsz, ok.noex, ok.exfs, ok.funs, ok.frf⟩
theorem Cx.Ok.unwish {X : Cx} {E : Value → Shared → Prop} (ok : (X.wish E).Ok) : X.Ok :=
  ⟨ok.mod, ok.kind, ok.glob, ok.blt, ok.above, ok.inj, ok.has, ok.cab, ok.hd, ok.frames, ok.stk, ok.exf, ok.bs, ok.bsz, ok.noex, ok.exfs, ok.funs, ok.frf⟩
section
variable {X : Cx} {pins : List (Addr × Obj)} {σ : St} {H : Hp} {s : Shared} {E : Value → Shared → Prop}
theorem Inv.wish (I : Inv X pins σ H s) (E : Value → Shared → Prop) : Inv (X.wish E) pins σ H s := ⟨I.ok.wish E, I.os, I.bare, I.base, I.loc, I.cell, I.free, I.freeC, I.pin, I.hok, I.len⟩
theorem Inv.unwish (I : Inv (X.wish E) pins σ H s) : Inv X pins σ H s := ⟨I.ok.unwish, I.os, I.bare, I.base, I.loc, I.cell, I.free, I.freeC, I.pin, I.hok, I.len⟩
theorem SP.unwish {D : Ends} {f : Flow} {s' : Shared} (h : SP (X.wish E) pins D f s') : SP X pins D f s' := by
  cases f with
  | next => obtain ⟨σ', H', I, q⟩ := h; exact ⟨σ', H', I.unwish, q⟩
  | brk => obtain ⟨σ', H', I, q⟩ := h; exact ⟨σ', H', I.unwish, q⟩
  | cont => obtain ⟨σ', H', I, q⟩ := h; exact ⟨σ', H', I.unwish, q⟩
  | ret u => obtain ⟨v, σ', H', I, r, q⟩ := h; exact ⟨v, σ', H', I.unwish, r, q⟩
theorem PSs.nox {st : List Stmt} {t : TS} (h : PSs X.nox st t) : PSs X st t := fun pins s σ H D I hw =>
  wpAny_mono (h pins s σ H D (I.wish _) hw) (fun _ _ q => q.unwish) fun _ _ z => False.elim z
end

/-! ### blocks and small statements -/
section
variable {X : Cx} {st : Stmt} {rest : List Stmt} {t u : TS} {e : Expr} {te : TE} {pos : Pos}
def tNext : TS := fun D σ H => D.nx σ H
def tSeq (t u : TS) : TS := fun D σ H => t { D with nx := u D } σ H
theorem pss_nil : PSs X [] tNext := fun _ _ σ H _ I h => wpAny_execs_nil ⟨σ, H, I, h⟩
theorem pss_cons (h1 : PS X st t) (h2 : PSs X rest u) : PSs X (st :: rest) (tSeq t u) := by
  intro pins s σ H D I h
  refine wpAny_execs_cons (thn (h1 pins s σ H { D with nx := u D } I h) fun f s1 q => ?_)
  cases f with
  | next =>
    obtain ⟨σ', H', I', q⟩ := q
    exact h2 pins s1 σ' H' D I' q
  | ret v => exact q
  | brk => exact q
  | cont => exact q
theorem pss_one (h1 : PS X st t) : PSs X [st] t := by
  intro pins s σ H D I h
  refine wpAny_execs_cons (thn (h1 pins s σ H D I h) fun f s1 q => ?_)
  cases f with
  | next => exact wpAny_execs_nil q
  | ret v => exact q
  | brk => exact q
  | cont => exact q
def tBreak : TS := fun D σ H => D.bk σ H
def tCont : TS := fun D σ H => D.ct σ H
/-- in a def's body nothing is shown -/
theorem Inv.quiet {pins : List (Addr × Obj)} {σ : St} {H : Hp} {s : Shared} (I : Inv X pins σ H s) : interactive X.env = false := by simp [interactive, I.ok.kind]
/-- an expression whose value is dropped -/
def tDrop (te : TE) : TS := fun D σ H => te σ H fun _ H1 => D.nx σ H1
theorem ps_expr (he : PE X e te) (hs : swapsWith e none pos.line X.env = pure false := by rfl) : PS X (.Expr e pos) (tDrop te) := by
  intro pins s σ H D I h
  exact wpAny_Expr_any (thn (he pins s σ H _ I h) fun v s1 ⟨x, H1, I1, r1, q1⟩ => ⟨σ, H1, I1, q1⟩) I.quiet hs
def tRet (te : TE) : TS := fun D σ H => te σ H D.rt
theorem ps_ret (he : PE X e te) : PS X (.Return (some e) pos) (tRet te) := by
  intro pins s σ H D I h
  exact wpAny_Return_some (thn (he pins s σ H _ I h) fun v s1 ⟨x, H1, I1, r1, q1⟩ => ⟨x, σ, H1, I1, r1, q1⟩)
def tRetN : TS := fun D _ H => D.rt .non H
def tIfS (c : TT) (t u : TS) : TS := fun D σ H => c σ H fun b H1 => if b = true then t D σ H1 else u D σ H1
theorem ps_if {c : Expr} {a b : List Stmt} {tc : TT} (hc : PT X c tc) (ha : PSs X a t) (hb : PSs X b u) : PS X (.If c a b pos) (tIfS tc t u) := by
  intro pins s σ H D I h
  refine wpAny_If (thn (hc pins s σ H _ I h) fun d s1 ⟨H1, I1, q1⟩ => ?_)
  cases d with
  | true => exact ha pins s1 σ H1 D I1 q1
  | false => exact hb pins s1 σ H1 D I1 q1
/-- code that the proof never comes to -/
def tNever : TS := fun _ _ _ => False
end

/-! ### targets -/
abbrev TG := V → St → Hp → (St → Hp → Prop) → Prop
abbrev TGs := List V → St → Hp → (St → Hp → Prop) → Prop
def PG (X : Cx) (target : Expr) (t : TG) : Prop :=
  ∀ (pins : List (Addr × Obj)) (s : Shared) (σ : St) (H : Hp) (v : V) (u : Value) (Q : St → Hp → Prop), Inv X pins σ H s → RelV v u → t v σ H Q →
    wpAny (model X.prog X.w) X.A (assign target X.env u) (fun _ s' => ∃ σ' H', Inv X pins σ' H' s' ∧ Q σ' H') X.xe s
/-- several targets, one after another -/
def PGs (X : Cx) (ts : List Expr) (t : TGs) : Prop :=
  ∀ (pins : List (Addr × Obj)) (s : Shared) (σ : St) (H : Hp) (vs : List V) (us : List Value) (Q : St → Hp → Prop), Inv X pins σ H s → Vals vs us → t vs σ H Q →
    wpAny (model X.prog X.w) X.A (assignInOrder ((assignEach ts X.env).map (·.2)) us) (fun _ s' => ∃ σ' H', Inv X pins σ' H' s' ∧ Q σ' H') X.xe s
/-- o[i] = v, by values -/
abbrev TSet := V → V → V → Hp → (Hp → Prop) → Prop
def PSet (X : Cx) (t : TSet) : Prop :=
  ∀ (pins : List (Addr × Obj)) (s : Shared) (σ : St) (H : Hp) (o i v : V) (ov iv u : Value) (Q : Hp → Prop), Inv X pins σ H s → RelV o ov → RelV i iv → RelV v u → t o i v H Q →
    wpAny (model X.prog X.w) X.A (setItem ov iv u) (fun _ s' => ∃ H', Inv X pins σ H' s' ∧ Q H') X.xe s
/-- a op= b, by values -/
abbrev TIp := V → V → Hp → VK → Prop
def PIp (X : Cx) (op : Operator) (t : TIp) : Prop :=
  ∀ (pins : List (Addr × Obj)) (s : Shared) (σ : St) (H : Hp) (x y : V) (v u : Value) (Q : VK), Inv X pins σ H s → RelV x v → RelV y u → t x y H Q →
    wpAny (model X.prog X.w) X.A (inplaceOp op v u) (EP X pins σ Q) X.xe s
section
variable {X : Cx} {pos : Pos}
def gName (i : Nat) : TG := fun v σ H Q => Q (σ.set i (some v)) H
theorem pg_name {i : Nat} {x : Str} (hN : X.N.Nodup) (hi : X.N[i]? = some x) (hx : Loc X.env.scope x) (hf : X.fn x = true ∨ X.env.scope.names.lookup x = some .local := by first | exact .inl rfl | exact .inr rfl | assumption) : PG X (.Name x pos) (gName i) := by
  intro pins s σ H v u Q I r h
  exact wpAny_assign_Name (store_ok I hN hi hx r (fun s' I' => ⟨_, H, I', h⟩) hf)
def gNil : TGs := fun vs σ H Q => vs = [] ∧ Q σ H
def gCons (t : TG) (u : TGs) : TGs := fun vs σ H Q => ∃ v r, vs = v :: r ∧ t v σ H fun σ' H' => u r σ' H' Q
theorem pgs_nil : PGs X [] gNil := by
  intro pins s σ H vs us Q I r h
  obtain ⟨e, h⟩ := h
  subst e
  cases r
  exact assignInOrder_nil ⟨σ, H, I, h⟩
theorem pgs_cons {e : Expr} {es : List Expr} {t : TG} {u : TGs} (h1 : PG X e t) (h2 : PGs X es u)
    (hs : (assignEach (e :: es) X.env).map (·.2) = assign e X.env :: (assignEach es X.env).map (·.2) := by rfl) : PGs X (e :: es) (gCons t u) := by
  intro pins s σ H vs us Q I r h
  obtain ⟨v, vr, e1, h⟩ := h
  subst e1
  cases r with
  | cons r rr =>
    rw [hs]
    refine assignInOrder_cons (thn (h1 pins s σ H _ _ _ I r h) fun _ s1 ⟨σ1, H1, I1, q1⟩ => ?_)
    exact h2 pins s1 σ1 H1 _ _ Q I1 rr q1
/-- (a, b, ..) = a tuple of that length -/
def gTup (K : PySem.W.Frag) (n : Nat) (t : TGs) : TG := fun v σ H Q => ∃ a xs, v = .ref a ∧ SqT K H a xs ∧ xs.length = n ∧ t xs σ H Q
theorem pg_tup {es : List Expr} {k : Nat} {t : TGs} {n : Nat} (hc : X.calm = true) (h : PGs X es t)
    (hn : (assignEach es X.env).length = n := by rfl) (hst : (assignEach es X.env).findIdx? (·.1) = none := by rfl) : PG X (.Tuple es k pos) (gTup X.K n t) := by
  intro pins s σ H v u Q I r hw
  obtain ⟨a, xs, e1, hq, hl, hw⟩ := hw
  subst e1
  cases r
  obtain ⟨its, rv, ht, hz⟩ := I.tuple hq
  refine assign_Tuple_tuple (I.ok.hd hc) ht (by simp [hn, ← hl, rv.length]) hst fun h' hx => ?_
  have I1 : Inv X pins σ H { s with heap := h' } := I.kept (t' := s.toks) fun b o e => hx b o (Nat.ne_of_lt (Heap.lt_size e)) e
  exact h pins _ σ H xs _ Q I1 (by simpa using rv) hw
/-- o[i] = .. -/
def gSub (to ti : TE) (t : TSet) : TG := fun v σ H Q => to σ H fun o H1 => ti σ H1 fun i H2 => t o i v H2 fun H3 => Q σ H3
theorem pg_sub {o i : Expr} {to ti : TE} {t : TSet} (ho : PE X o to) (hi : PE X i ti) (hs : PSet X t)
    (ha : ∀ v, assign (.Subscript o i pos) X.env v = (do
      let ov ← holding [v] (eval o X.env)
      let iv ← holding [v, ov] (eval i X.env)
      standAt pos
      holding [v, ov, iv] (setItem ov iv v)
      release [v, ov, iv] []) := by intro _; rfl) : PG X (.Subscript o i pos) (gSub to ti t) := by
  intro pins s σ H v u Q I r h
  rw [ha]
  refine wpAny_bind (wpAny_holding (thn (ho pins s σ H _ I h) fun ov s1 ⟨x, H1, I1, r1, q1⟩ => ?_))
  refine wpAny_bind (wpAny_holding (thn (hi pins s1 σ H1 _ I1 q1) fun iv s2 ⟨y, H2, I2, r2, q2⟩ => ?_))
  refine wpAny_bind (wpAny_standAt (wpAny_bind (wpAny_holding (thn (hs pins s2 σ H2 x y v ov iv u _ I2 r1 r2 r q2) fun _ s3 ⟨H3, I3, q3⟩ => ?_))))
  exact wpAny_release ⟨σ, H3, I3, q3⟩
/-- target = value -/
def tAsg (te : TE) (g : TG) : TS := fun D σ H => te σ H fun x H1 => g x σ H1 D.nx
theorem ps_asg {tg e : Expr} {te : TE} {g : TG} (he : PE X e te) (hg : PG X tg g) (hs : swapsWithSole [tg] e pos.line X.env = pure false := by rfl) (hw : swappedStores [tg] e X.env = pure none := by rfl)
    (h1 : (assignEach [tg] X.env).map (·.2) = [assign tg X.env] := by rfl) : PS X (.Assign [tg] e pos) (tAsg te g) := by
  intro pins s σ H D I h
  refine wpAny_Assign_stores (thn (he pins s σ H _ I h) fun v s1 ⟨x, H1, I1, r1, q1⟩ => ?_) hs hw
  rw [h1]
  exact thn (hg pins s1 σ H1 x v _ I1 r1 q1) fun _ s2 q => q
/-- name = value -/
theorem ps_set {i : Nat} {x : Str} {e : Expr} {te : TE} {pos' : Pos} (hN : X.N.Nodup) (hi : X.N[i]? = some x) (hx : Loc X.env.scope x) (he : PE X e te) (hs : swapsWith e (some (.Name x pos')) pos.line X.env = pure false := by rfl) (hf : X.fn x = true ∨ X.env.scope.names.lookup x = some .local := by first | exact .inl rfl | exact .inr rfl | assumption) :
    PS X (.Assign [.Name x pos'] e pos) (tAsg te (gName i)) := by
  intro pins s σ H D I h
  refine wpAny_Assign_Name (thn (he pins s σ H _ I h) fun v s1 ⟨y, H1, I1, r1, q1⟩ => ?_) hs
  exact store_ok I1 hN hi hx r1 (fun s2 I2 => ⟨_, H1, I2, q1⟩) hf
/-- a, b = x, y with plain local names: stored from the right; the pair itself is not tracked (the opening rows as in PyProof/Rows/TupAssign.lean:23) -/
def tPar (i j : Nat) (ta : TA) : TS := fun D σ H => ta σ H fun vs H1 => ∃ v w, vs = [v, w] ∧ D.nx ((σ.set i (some v)).set j (some w)) H1
/-- name op= e -/
def tAug (i : Nat) (te : TE) (ti : TIp) : TS := fun D σ H => ∃ x, σ[i]? = some (some x) ∧ te σ H fun y H1 => ti x y H1 fun z H2 => D.nx (σ.set i (some z)) H2
/-- o[i] op= e -/
def tAugS (to ti te : TE) (tget : V → V → Hp → VK → Prop) (tip : TIp) (tset : TSet) : TS := fun D σ H => to σ H fun o H1 => ti σ H1 fun i H2 => tget o i H2 fun x H3 => te σ H3 fun y H4 => tip x y H4 fun z H5 => tset o i z H5 fun H6 => D.nx σ H6
/-- o[i], by values -/
def PGet (X : Cx) (t : V → V → Hp → VK → Prop) : Prop :=
  ∀ (pins : List (Addr × Obj)) (s : Shared) (σ : St) (H : Hp) (o i : V) (ov iv : Value) (Q : VK), Inv X pins σ H s → RelV o ov → RelV i iv → t o i H Q →
    wpAny (model X.prog X.w) X.A (getItem ov iv) (EP X pins σ Q) X.xe s
/-- ints -/
def ipI (f : Int → Int → Int) : TIp := fun x y H Q => ∃ i j, x = .int i ∧ y = .int j ∧ Q (.int (f i j)) H
end

/-! ### while -/
section
variable {X : Cx} {pos : Pos}
/-- the invariant W with its measure -/
def tWhile (c : TT) (tb : TS) : TS := fun D σ H => ∃ W : Nat → St → Hp → Prop, (∃ m, W m σ H) ∧ ∀ m σ H, W m σ H →
  c σ H fun b H1 => if b = true then ∃ N : St → Hp → Prop, (∀ σ' H', N σ' H' → ∃ m', m' < m ∧ W m' σ' H') ∧ tb { D with nx := N, ct := N, bk := D.nx } σ H1 else D.nx σ H1
end

/-! ### what a loop or a comprehension walks -/
/-- at turn i: it yields x (the heap may grow), or it stops -/
structure It where
  go : Nat → Hp → Prop
  yld : Nat → Hp → V → Hp → Prop
  stop : Nat → Hp → Prop
/-- the iterator's own objects may turn: they are not the frame's, not pinned, younger than the entry (or a comprehension's own) -/
def FpOk (X : Cx) (pins : List (Addr × Obj)) (H : Hp) (b : Addr) : Prop :=
  H b = none ∧ b ≠ X.env.locals ∧ b ∉ X.fs ∧ (b ∈ X.ex ∨ X.s_0.heap.objs.size ≤ b) ∧ (∀ x c, X.env.cells.lookup x = some c → c ≠ b) ∧ ∀ p ∈ X.pn ++ pins, p.1 ≠ b
theorem Inv.fpOk {X : Cx} {pins : List (Addr × Obj)} {σ : St} {H H' : Hp} {s : Shared} {b : Addr} (I : Inv X pins σ H s) (hb : s.heap.objs.size ≤ b) (hn : H' b = none) : FpOk X pins H' b := by
  refine ⟨hn, Nat.ne_of_gt (Nat.lt_of_lt_of_le I.lt hb), I.nofs hb, .inr (Nat.le_trans I.sz hb), fun x c e z => ?_, fun p hp z => ?_⟩
  · obtain ⟨v, q⟩ := I.cell x c e
    exact absurd (Nat.lt_of_lt_of_le q.lt (by rw [z]; exact hb)) (Nat.lt_irrefl _)
  · exact absurd (Nat.lt_of_lt_of_le (Heap.lt_size (I.pin p hp).1) (by rw [z]; exact hb)) (Nat.lt_irrefl _)
structure Turn (P : Program) (w : World) (K : PySem.W.Frag) (tg : Expr) (J : It) (fp : List Addr) (it : Addr) (tn : Nat → Heap → Prop) : Prop where
  mem : it ∈ fp
  obj : ∀ i h, tn i h → ∀ b ∈ fp, ∃ o, h.get? b = some o ∧ ∀ v, o.data ≠ .cell v
  keep : ∀ i h h', tn i h → (∀ b ∈ fp, ∀ o, h.get? b = some o → h'.get? b = some o) → tn i h'
  item : ∀ (X : Cx), X.prog = P → X.w = w → X.K = K → X.calm = true → ∀ (i : Nat) (pins : List (Addr × Obj)) (s : Shared) (σ : St) (H : Hp) (E : Value → Shared → Prop), Inv X pins σ H s → (∀ b ∈ fp, FpOk X pins H b) → tn i s.heap → J.go i H →
    wpAny (model P w) X.A (pyNext (.ref it)) (fun r s1 => ∃ u, r = some u ∧
      wpAny (model P w) X.A (letOwnedTupleGo tg (.ref it) u) (fun _ s2 => ∃ x H', Inv X pins σ H' s2 ∧ RelV x u ∧ J.yld i H x H' ∧ tn (i + 1) s2.heap ∧ ∀ b ∈ fp, H' b = none) E s1) E s
  done : ∀ (X : Cx), X.prog = P → X.w = w → X.K = K → X.calm = true → ∀ (i : Nat) (pins : List (Addr × Obj)) (s : Shared) (σ : St) (H : Hp) (E : Value → Shared → Prop), Inv X pins σ H s → (∀ b ∈ fp, FpOk X pins H b) → tn i s.heap → J.stop i H →
    wpAny (model P w) X.A (pyNext (.ref it)) (fun r s1 => r = none ∧ Inv X pins σ H s1) E s
  self : ∀ (A : Around) (i : Nat) (s : Shared) (Q : Value → Shared → Prop) (E : Value → Shared → Prop), tn i s.heap → Q (.ref it) s → wpAny (model P w) A (pyIter (.ref it)) Q E s
abbrev TI := St → Hp → (It → Hp → Prop) → Prop
/-- an iterator has come -/
def PIE (X : Cx) (pins : List (Addr × Obj)) (σ : St) (tg : Expr) (R : It → Hp → Prop) (itv : Value) (s2 : Shared) : Prop :=
  ∃ (it : Addr) (fp : List Addr) (tn : Nat → Heap → Prop) (J : It) (H' : Hp), itv = .ref it ∧ Inv X pins σ H' s2 ∧ Turn X.prog X.w X.K tg J fp it tn ∧ tn 0 s2.heap ∧ (∀ b ∈ fp, FpOk X pins H' b) ∧ R J H'
def PI (X : Cx) (tg iter : Expr) (wi : TI) : Prop :=
  ∀ (pins : List (Addr × Obj)) (s : Shared) (σ : St) (H : Hp) (R : It → Hp → Prop), Inv X pins σ H s → wi σ H R →
    wpAny (model X.prog X.w) X.A (eval iter X.env) (fun v s1 => wpAny (model X.prog X.w) X.A (pyIter v) (PIE X pins σ tg R) X.xe s1) X.xe s

/-- the step ahead of the store is nothing for an iterator that keeps no tuple -/
theorem go_of {M : Model} {A : Around} {E : Value → Shared → Prop} {s : Shared} {tg : Expr} {it : Addr} {u : Value} {o : Obj} {n : String} {vs : Array Value} {Q : Unit → Shared → Prop} (ho : s.heap.get? it = some o) (hc : o.cls = .type n) (hd : o.data = .fields vs)
    (hn : ["enumerate", "zip", "dict_itemiterator", "dict_reverseitemiterator", "odict_iterator", "itertools.zip_longest", "itertools.pairwise"].contains n = false) (hQ : Q () s) : wpAny M A (letOwnedTupleGo tg (.ref it) u) Q E s := by
  unfold letOwnedTupleGo
  cases tg <;> first
    | exact wpAny_pure hQ
    | (cases u <;> first
        | exact wpAny_pure hQ
        | (refine wpAny_bind (wpAny_load ho ?_)
           rw [hc, hd]
           show wpAny M A (if (["enumerate", "zip", "dict_itemiterator", "dict_reverseitemiterator", "odict_iterator", "itertools.zip_longest", "itertools.pairwise"].contains n && vs[0]? == some (rawInt _)) = true then _ else _) Q E s
           rw [if_neg (by intro h; rw [hn, Bool.false_and] at h; cases h)]
           exact wpAny_pure hQ))

/-- the list at a, as it stands at each turn (a loop may append to it) -/
def Itl (K : PySem.W.Frag) (a : Addr) : It :=
  ⟨fun i H => ∃ xs x, SqL K H a xs ∧ xs[i]? = some x, fun i H x H' => H' = H ∧ ∀ xs, SqL K H a xs → xs[i]? = some x, fun i H => ∃ xs, SqL K H a xs ∧ xs.length ≤ i⟩
def Itt (K : PySem.W.Frag) (a : Addr) : It :=
  ⟨fun i H => ∃ xs x, SqT K H a xs ∧ xs[i]? = some x, fun i H x H' => H' = H ∧ ∀ xs, SqT K H a xs → xs[i]? = some x, fun i H => ∃ xs, SqT K H a xs ∧ xs.length ≤ i⟩
/-- lo, lo + 1, .. (n of them) -/
def Itr (lo : Int) (n : Nat) : It := ⟨fun i _ => i < n, fun i H x H' => H' = H ∧ x = .int (lo + i), fun i _ => n ≤ i⟩
theorem turn_list {P : Program} {w : World} {K : PySem.W.Frag} {tg : Expr} (a it : Addr) : Turn P w K tg (Itl K a) [it] it (fun i h => h.IsListIter it a i) where
  mem := by simp
  obj := fun i h st b hb => by
    have e : b = it := by simpa using hb
    subst e
    obtain ⟨o, e, c, d⟩ := st
    exact ⟨o, e, fun v z => by rw [d] at z; cases z⟩
  keep := fun i h h' st k => st.at fun o e => k it (by simp) o e
  item := by
    intro X hP hw hK hc i pins s σ H E I hf st hg
    subst hP hw hK
    obtain ⟨xs, x, hq, hx⟩ := hg
    obtain ⟨its, rv, p, hz⟩ := I.list hq
    obtain ⟨u, hu, ru⟩ := rv.get hx
    obtain ⟨f0, f1, f2, f3, f4, f5⟩ := hf it (by simp)
    refine wpAny_pyNext_list_item st p.isList (x := u) (by simpa using hu) fun h' st' sb => ?_
    have I1 : Inv X pins σ H { s with heap := h' } := I.turned (t' := s.toks) (fun b o hb e => (sb.2 b hb).trans e) f0 f1 f3 f4 f5
    obtain ⟨o, e, c, d⟩ := id st'
    exact ⟨u, rfl, go_of (s := { s with heap := h' }) e c d (by decide) ⟨x, H, I1, ru, ⟨rfl, fun ys hy => by rw [I.list_inj hy hq]; exact hx⟩, st', fun b hb => (hf b hb).1⟩⟩
  done := by
    intro X hP hw hK hc i pins s σ H E I hf st hg
    subst hP hw hK
    obtain ⟨xs, hq, hx⟩ := hg
    obtain ⟨its, rv, p, hz⟩ := I.list hq
    obtain ⟨f0, f1, f2, f3, f4, f5⟩ := hf it (by simp)
    have hl := rv.length
    exact wpAny_pyNext_list_end (I.ok.hd hc) st p.isList (by simp; omega) fun h' eb => ⟨rfl, I.turned (t' := s.toks) (fun b o hb e => eb b o hb e) f0 f1 f3 f4 f5⟩
  self := fun _ _ _ _ _ st h => wpAny_pyIter_listiter st h
theorem turn_range {P : Program} {w : World} {K : PySem.W.Frag} {tg : Expr} (it : Addr) (lo : Int) (n : Nat) : Turn P w K tg (Itr lo n) [it] it (fun i h => IsRangeIter h it (lo + (i : Nat) * 1) ((n : Int) - (i : Nat)) 1) where
  mem := by simp
  obj := fun i h st b hb => by
    have e : b = it := by simpa using hb
    subst e
    exact ⟨_, st, fun v z => by
      have z' : Data.fields _ = Data.cell v := z
      cases z'⟩
  keep := fun i h h' st k => k it (by simp) _ st
  item := by
    intro X hP hw hK hc i pins s σ H E I hf st hg
    subst hP hw hK
    obtain ⟨f0, f1, f2, f3, f4, f5⟩ := hf it (by simp)
    have W := Walks.range (prog := X.prog) (w := X.w) (I.ok.hd hc) it lo 1 n
    refine W.item i s _ _ hg st fun v h' tk hv st' kk => ?_
    obtain ⟨t, rfl⟩ := hv
    have I1 : Inv X pins σ H { s with heap := h', toks := tk } := I.turned (fun b o hb e => kk b o (by simpa using hb) e) f0 f1 f3 f4 f5
    refine ⟨_, rfl, go_of (s := { s with heap := h', toks := tk }) (n := "range_iterator") st' rfl rfl (by decide) ⟨.int (lo + i), H, I1, ⟨t, ?_⟩, ⟨rfl, rfl⟩, st', fun b hb => (hf b hb).1⟩⟩
    rw [Int.mul_one]
  done := by
    intro X hP hw hK hc i pins s σ H E I hf st hg
    subst hP hw hK
    obtain ⟨f0, f1, f2, f3, f4, f5⟩ := hf it (by simp)
    exact wpAny_pyNext_range_end (I.ok.hd hc) st (by have : n ≤ i := hg; omega) fun h' eb => ⟨rfl, I.turned (t' := s.toks) (fun b o hb e => eb b o hb e) f0 f1 f3 f4 f5⟩
  self := fun _ _ _ _ _ st h => wpAny_pyIter_rangeiter st h
end L2

namespace L2
open PySem PySem.Spec PyProof.Rows
section
variable {X : Cx} {tg : Expr}
def iList (K : PySem.W.Frag) (tl : TE) : TI := fun σ H R => tl σ H fun x H1 => ∃ a, x = .ref a ∧ (∃ xs, SqL K H1 a xs) ∧ R (Itl K a) H1
def iTup (K : PySem.W.Frag) (tl : TE) : TI := fun σ H R => tl σ H fun x H1 => ∃ a, x = .ref a ∧ (∃ xs, SqT K H1 a xs) ∧ R (Itt K a) H1
theorem pi_list {l : Expr} {tl : TE} (hl : PE X l tl) : PI X tg l (iList X.K tl) := by
  intro pins s σ H R I h
  refine thn (hl pins s σ H _ I h) fun v s1 ⟨x, H1, I1, r1, q1⟩ => ?_
  obtain ⟨a, e, ⟨xs, hq⟩, q⟩ := q1
  subst e
  cases r1
  obtain ⟨its, rv, p, hz⟩ := I1.list hq
  refine wpAny_pyIter_list p.isList ?_
  refine ⟨s1.heap.objs.size, [s1.heap.objs.size], _, _, H1, rfl, I1.kept (t' := s1.toks) fun b o e => Heap.get?_push_of_some _ e, turn_list a _, ⟨_, Heap.get?_push_size _ rfl, rfl, rfl⟩, fun b hb => ?_, q⟩
  have e : b = s1.heap.objs.size := by simpa using hb
  subst e
  exact I1.fpOk (Nat.le_refl _) (I1.hok.fresh (Nat.le_refl _))
/-- a range object just made, walked -/
theorem range_it {pins : List (Addr × Obj)} {σ : St} {H : Hp} {s : Shared} {R : It → Hp → Prop} {E : Value → Shared → Prop} {lo hi : Int} {t u v : Tok} {tk : Nat} (I : Inv X pins σ H s) (h1 : -(2 ^ 62) ≤ lo) (h2 : lo < 2 ^ 62) (h3 : -(2 ^ 62) ≤ hi) (h4 : hi < 2 ^ 62)
    (q : R (Itr lo (hi - lo).toNat) H) : wpAny (model X.prog X.w) X.A (pyIter (.ref s.heap.objs.size)) (PIE X pins σ tg R) E { s with heap := s.heap.push { cls := .type "range", data := .fields #[.int lo t, .int hi u, .int 1 v] }, toks := tk } := by
  refine wpAny_pyIter_range (IsRange.new ..) (small_one h1 h2 h3 h4) ?_
  have I1 : Inv X pins σ H { s with heap := s.heap.push { cls := .type "range", data := .fields #[.int lo t, .int hi u, .int 1 v] }, toks := tk } := I.kept fun b o e => Heap.get?_push_of_some _ e
  refine ⟨(s.heap.push { cls := .type "range", data := .fields #[.int lo t, .int hi u, .int 1 v] }).objs.size, [(s.heap.push { cls := .type "range", data := .fields #[.int lo t, .int hi u, .int 1 v] }).objs.size], _, _, H, rfl,
    I1.kept (t' := tk) fun b o e => Heap.get?_push_of_some _ e, turn_range _ lo (hi - lo).toNat, ?_, fun b hb => ?_, q⟩
  · have e1 : lo + ((0 : Nat) : Int) * 1 = lo := by simp
    have e2 : (((hi - lo).toNat : Nat) : Int) - ((0 : Nat) : Int) = Builtin.Range.rangeSize lo hi 1 := by rw [rangeSize_one]; split <;> omega
    show IsRangeIter _ _ (lo + ((0 : Nat) : Int) * 1) ((((hi - lo).toNat : Nat) : Int) - ((0 : Nat) : Int)) 1
    rw [e1, e2]
    exact Heap.get?_push_size _ rfl
  · have e : b = (s.heap.push { cls := .type "range", data := .fields #[.int lo t, .int hi u, .int 1 v] }).objs.size := by simpa using hb
    subst e
    exact I1.fpOk (Nat.le_refl _) (I1.hok.fresh (Nat.le_refl _))
def iRng1 (ta : TA) : TI := fun σ H R => ta σ H fun vs H1 => ∃ j : Int, vs = [.int j] ∧ -(2 ^ 62) ≤ j ∧ j < 2 ^ 62 ∧ R (Itr 0 j.toNat) H1
def iRng2 (ta : TA) : TI := fun σ H R => ta σ H fun vs H1 => ∃ i j : Int, vs = [.int i, .int j] ∧ (-(2 ^ 62) ≤ i ∧ i < 2 ^ 62 ∧ -(2 ^ 62) ≤ j ∧ j < 2 ^ 62) ∧ R (Itr i (j - i).toNat) H1
theorem pi_range1 {a : Expr} {ta : TA} {p pos : Pos} (hg : Gl X "range") (hm : X.mg "range" = none) (ha : PA X [a] ta) (hs : starEach [a] X.env = [(false, eval a X.env)] := by rfl) : PI X tg (.Call (.Name "range" p) [a] [] pos) (iRng1 ta) := by
  intro pins s σ H R I h
  refine Call_ (ld_blt I hg hm boot_range (PyProof.Rows.callWith_type1 (thn (ha pos pins s σ H _ I h) fun us s1 ⟨vs, H1, I1, r1, q1⟩ => ?_) hs rfl))
  obtain ⟨j, e, q1, q2, q⟩ := q1
  subst e
  cases r1 with
  | cons r rr =>
    cases rr
    obtain ⟨t, rfl⟩ := r
    exact call_range_1 (range_it I1 (by omega) (by omega) q1 q2 (by simpa using q))
/-! ### for -/
/-- W: the invariant by the turn and a measure; N: what the body is to reach -/
def tFor (wi : TI) (g : TG) (tb : TS) : TS := fun D σ H => wi σ H fun J H1 => ∃ W : Nat → Nat → St → Hp → Prop, (∃ m, W 0 m σ H1) ∧ ∀ i m σ H, W i m σ H →
  (J.stop i H ∧ D.nx σ H) ∨ (J.go i H ∧ ∃ N : St → Hp → Prop, (∀ σ' H', N σ' H' → ∃ m', m' < m ∧ W (i + 1) m' σ' H') ∧ ∀ x H', J.yld i H x H' → g x σ H' fun σ2 H2 => tb { D with nx := N, ct := N, bk := D.nx } σ2 H2)
/-- the records at fp as they stand -/
def pinsAt (fp : List Addr) (h : Heap) : List (Addr × Obj) := fp.filterMap fun b => (h.get? b).map fun o => (b, o)
theorem mem_pinsAt {fp : List Addr} {h : Heap} {b : Addr} {o : Obj} (hb : b ∈ fp) (e : h.get? b = some o) : (b, o) ∈ pinsAt fp h := List.mem_filterMap.mpr ⟨b, hb, by rw [e]; rfl⟩
theorem of_pinsAt {fp : List Addr} {h : Heap} {p : Addr × Obj} (hp : p ∈ pinsAt fp h) : p.1 ∈ fp ∧ h.get? p.1 = some p.2 := by
  obtain ⟨b, hb, e⟩ := List.mem_filterMap.mp hp
  cases q : h.get? b with
  | none => rw [q] at e; cases e
  | some o =>
    rw [q] at e
    have e' : (b, o) = p := Option.some.inj e
    subst e'
    exact ⟨hb, q⟩
theorem Inv.pinned {pins : List (Addr × Obj)} {σ : St} {H : Hp} {s : Shared} {fp : List Addr} (I : Inv X pins σ H s) (hf : ∀ b ∈ fp, FpOk X pins H b) (ho : ∀ b ∈ fp, ∃ o, s.heap.get? b = some o ∧ ∀ v, o.data ≠ .cell v) : Inv X (pins ++ pinsAt fp s.heap) σ H s :=
  I.pins_of fun p hp => (List.mem_append.mp hp).elim (fun z => I.pin p (List.mem_append_right _ z)) fun z => by
    obtain ⟨hb, e⟩ := of_pinsAt z
    obtain ⟨f0, f1, f2, _⟩ := hf p.1 hb
    obtain ⟨o, e', d⟩ := ho p.1 hb
    rw [e] at e'; cases e'
    exact ⟨e, f0, f1, f2, d⟩
theorem Inv.unpinned {pins pl : List (Addr × Obj)} {σ : St} {H : Hp} {s : Shared} (I : Inv X (pins ++ pl) σ H s) : Inv X pins σ H s := I.pins_of fun p hp => I.pin p (List.mem_append_right _ (List.mem_append_left _ hp))
theorem ps_for {iter : Expr} {body : List Stmt} {wi : TI} {g : TG} {tb : TS} {pos : Pos} (hp : PassesOwn (model X.prog X.w) X.A X.env X.xe) (hc : X.calm = true) (hi : PI X tg iter wi) (hg : PG X tg g) (hb : PSs X body tb)
    (hs : ∀ x, foldedSetIterable iter X.env x = pure x := by intro _; rfl) : PS X (.For tg iter body [] pos) (tFor wi g tb) := by
  intro pins s σ H D I h
  refine wpAny_For (thn (hi pins s σ H _ I h) fun v s1 h1 => thn h1 fun itv s2 h2 => ?_) hs
  obtain ⟨it, fp, tn, J, H2, e, I2, T, st2, f2, W, ⟨m0, w0⟩, turn⟩ := h2
  subst e
  -- what stays true of the iterator's objects through the loop
  have stat : ∀ {H' : Hp}, (∀ b ∈ fp, H' b = none) → ∀ b ∈ fp, FpOk X pins H' b := fun hn b hb => ⟨hn b hb, (f2 b hb).2⟩
  refine codeAny_forLoop_any (fun n s' => ∃ i σ' H', Inv X pins σ' H' s' ∧ tn i s'.heap ∧ (∀ b ∈ fp, H' b = none) ∧ W i n σ' H') ?_ m0 ⟨0, σ, H2, I2, st2, fun b hb => (f2 b hb).1, w0⟩
  rintro n s3 ⟨i, σ3, H3, I3, st3, fr3, w3⟩
  rcases turn i n σ3 H3 w3 with ⟨stop, qn⟩ | ⟨go, N, hN, step⟩
  · refine wpAny_passesOwn hp (thn (T.done X rfl rfl rfl hc i pins s3 σ3 H3 X.xe I3 (stat fr3) st3 stop) fun r s4 ⟨hr, I4⟩ => ?_)
    subst hr
    exact wpAny_execs_nil ⟨σ3, H3, I4, qn⟩
  · refine wpAny_passesOwn hp (thn (T.item X rfl rfl rfl hc i pins s3 σ3 H3 X.xe I3 (stat fr3) st3 go) fun r s4 ⟨u, hr, h4⟩ => ?_)
    subst hr
    refine wpAny_passesOwn hp (thn h4 fun _ s5 ⟨x, H5, I5, r5, y5, st5, fr5⟩ => ?_)
    have I5' := I5.pinned (stat fr5) (T.obj _ _ st5)
    refine wpAny_passesOwn hp (thn (hg _ s5 σ3 H5 x u _ I5' r5 (step x H5 y5)) fun _ s6 ⟨σ6, H6, I6, q6⟩ => ?_)
    refine wpAny_passesOwn hp (thn (hb _ s6 σ6 H6 _ I6 q6) fun f s7 q7 => ?_)
    have again : ∀ {σ7 : St} {H7 : Hp}, Inv X (pins ++ pinsAt fp s5.heap) σ7 H7 s7 → N σ7 H7 → ∃ m, m < n ∧ ∃ i σ' H', Inv X pins σ' H' s7 ∧ tn i s7.heap ∧ (∀ b ∈ fp, H' b = none) ∧ W i m σ' H' := fun {σ7 H7} I7 n7 => by
      obtain ⟨m', hm, w7⟩ := hN σ7 H7 n7
      refine ⟨m', hm, i + 1, σ7, H7, I7.unpinned, T.keep _ _ _ st5 fun b hb o e => (I7.pin (b, o) (List.mem_append_right _ (List.mem_append_right _ (mem_pinsAt hb e)))).1, fun b hb => ?_, w7⟩
      obtain ⟨o, e, d⟩ := T.obj _ _ st5 b hb
      exact (I7.pin (b, o) (List.mem_append_right _ (List.mem_append_right _ (mem_pinsAt hb e)))).2.1
    cases f with
    | next => obtain ⟨σ7, H7, I7, n7⟩ := q7; exact again I7 n7
    | cont => obtain ⟨σ7, H7, I7, n7⟩ := q7; exact again I7 n7
    | brk => obtain ⟨σ7, H7, I7, q7⟩ := q7; exact ⟨σ7, H7, I7.unpinned, q7⟩
    | ret v => obtain ⟨x7, σ7, H7, I7, r7, q7⟩ := q7; exact ⟨x7, σ7, H7, I7.unpinned, r7, q7⟩
end

/-! ### the forms one uses -/
/-- over a list that the body leaves as it is -/
theorem for_list {K : PySem.W.Frag} {a : Addr} {xs : List V} {g : TG} {tb : TS} {D : Ends} {σ : St} {H : Hp} (Pv : Nat → St → Hp → Prop) (h0 : Pv 0 σ H) (hl : ∀ i σ H, i ≤ xs.length → Pv i σ H → SqL K H a xs)
    (hs : ∀ i x σ H, xs[i]? = some x → Pv i σ H → g x σ H fun σ2 H2 => tb { D with nx := Pv (i + 1), ct := Pv (i + 1), bk := D.nx } σ2 H2) (hd : ∀ σ H, Pv xs.length σ H → D.nx σ H) :
    ∃ W : Nat → Nat → St → Hp → Prop, (∃ m, W 0 m σ H) ∧ ∀ i m σ H, W i m σ H →
      ((Itl K a).stop i H ∧ D.nx σ H) ∨ ((Itl K a).go i H ∧ ∃ N : St → Hp → Prop, (∀ σ' H', N σ' H' → ∃ m', m' < m ∧ W (i + 1) m' σ' H') ∧ ∀ x H', (Itl K a).yld i H x H' → g x σ H' fun σ2 H2 => tb { D with nx := N, ct := N, bk := D.nx } σ2 H2) := by
  refine ⟨fun i m σ H => m = xs.length - i ∧ i ≤ xs.length ∧ Pv i σ H, ⟨xs.length, by simp, Nat.zero_le _, h0⟩, ?_⟩
  rintro i m σ H ⟨rfl, hi, p⟩
  have q := hl i σ H hi p
  by_cases hlt : i < xs.length
  · refine .inr ⟨⟨xs, xs[i], q, by simp [hlt]⟩, Pv (i + 1), fun σ' H' p' => ⟨xs.length - (i + 1), by omega, rfl, hlt, p'⟩, fun x H' y => ?_⟩
    obtain ⟨e, y⟩ := y
    subst e
    exact hs i x σ _ (y xs q) p
  · have e : i = xs.length := by omega
    subst e
    exact .inl ⟨⟨xs, q, Nat.le_refl _⟩, hd σ H p⟩
theorem for_range {lo : Int} {n : Nat} {g : TG} {tb : TS} {D : Ends} {σ : St} {H : Hp} (Pv : Nat → St → Hp → Prop) (h0 : Pv 0 σ H)
    (hs : ∀ i σ H, i < n → Pv i σ H → g (.int (lo + i)) σ H fun σ2 H2 => tb { D with nx := Pv (i + 1), ct := Pv (i + 1), bk := D.nx } σ2 H2) (hd : ∀ σ H, Pv n σ H → D.nx σ H) :
    ∃ W : Nat → Nat → St → Hp → Prop, (∃ m, W 0 m σ H) ∧ ∀ i m σ H, W i m σ H →
      ((Itr lo n).stop i H ∧ D.nx σ H) ∨ ((Itr lo n).go i H ∧ ∃ N : St → Hp → Prop, (∀ σ' H', N σ' H' → ∃ m', m' < m ∧ W (i + 1) m' σ' H') ∧ ∀ x H', (Itr lo n).yld i H x H' → g x σ H' fun σ2 H2 => tb { D with nx := N, ct := N, bk := D.nx } σ2 H2) := by
  refine ⟨fun i m σ H => m = n - i ∧ i ≤ n ∧ Pv i σ H, ⟨n, by simp, Nat.zero_le _, h0⟩, ?_⟩
  rintro i m σ H ⟨rfl, hi, p⟩
  by_cases hlt : i < n
  · refine .inr ⟨hlt, Pv (i + 1), fun σ' H' p' => ⟨n - (i + 1), by omega, rfl, hlt, p'⟩, fun x H' y => ?_⟩
    obtain ⟨e, y⟩ := y
    subst e y
    exact hs i σ _ hlt p
  · have e : i = n := by omega
    subst e
    exact .inl ⟨Nat.le_refl _, hd σ H p⟩
end L2

namespace L2
open PySem PySem.Spec PyProof.Rows

abbrev R2 := V → V → Hp → VK → Prop
/-- a two-place operation on values: f is binaryOp op, inplaceOp op or compareOp op -/
def OpR (X : Cx) (f : Value → Value → Sem Value) (r : R2) : Prop :=
  ∀ (pins : List (Addr × Obj)) (s : Shared) (σ : St) (H : Hp) (x y : V) (v u : Value) (Q : VK), Inv X pins σ H s → RelV x v → RelV y u → r x y H Q →
    wpAny (model X.prog X.w) X.A (f v u) (EP X pins σ Q) X.xe s
/-- a one-place operation -/
def UnR (X : Cx) (f : Value → Sem Value) (r : V → Hp → VK → Prop) : Prop :=
  ∀ (pins : List (Addr × Obj)) (s : Shared) (σ : St) (H : Hp) (x : V) (v : Value) (Q : VK), Inv X pins σ H s → RelV x v → r x H Q →
    wpAny (model X.prog X.w) X.A (f v) (EP X pins σ Q) X.xe s
/-- a call of a value that is known (a builtin, a type) with values -/
def CallR (X : Cx) (f : Value) (r : List V → Hp → VK → Prop) : Prop :=
  ∀ (pins : List (Addr × Obj)) (s : Shared) (σ : St) (H : Hp) (xs : List V) (us : List Value) (Q : VK), Inv X pins σ H s → Vals xs us → r xs H Q →
    wpAny (model X.prog X.w) X.A (call f us) (EP X pins σ Q) X.xe s
/-- a value's truth -/
def TruR (X : Cx) (r : V → Hp → (Bool → Hp → Prop) → Prop) : Prop :=
  ∀ (pins : List (Addr × Obj)) (s : Shared) (σ : St) (H : Hp) (x : V) (v : Value) (Q : Bool → Hp → Prop), Inv X pins σ H s → RelV x v → r x H Q →
    wpAny (model X.prog X.w) X.A (truthy v) (TP X pins σ Q) X.xe s

def tOp (r : R2) (ta tb : TE) : TE := fun σ H Q => ta σ H fun x H1 => tb σ H1 fun y H2 => r x y H2 Q
def tUn (r : V → Hp → VK → Prop) (ta : TE) : TE := fun σ H Q => ta σ H fun x H1 => r x H1 Q
/-- ints in, under C, and a value out -/
def rI (C : Int → Int → Prop) (g : Int → Int → V) : R2 := fun x y H Q => ∃ i j, x = .int i ∧ y = .int j ∧ C i j ∧ Q (g i j) H
def rI0 (g : Int → Int → V) : R2 := fun x y H Q => ∃ i j, x = .int i ∧ y = .int j ∧ Q (g i j) H
def rU (g : Int → V) : V → Hp → VK → Prop := fun x H Q => ∃ i, x = .int i ∧ Q (g i) H

section
variable {X : Cx} {a b c : Expr} {ta tb tc : TE} {pos : Pos}

theorem binT (ha : PE X a ta) (hb : PE X b tb) {pins : List (Addr × Obj)} {s : Shared} {σ : St} {H : Hp} {R : V → V → Hp → Prop} (I : Inv X pins σ H s)
    (h : ta σ H fun x H1 => tb σ H1 fun y H2 => R x y H2) {Q : Value → Shared → Prop} {f : Value → Value → Sem Value}
    (hf : ∀ v u s2 x y H2, Inv X pins σ H2 s2 → RelV x v → RelV y u → R x y H2 → wpAny (model X.prog X.w) X.A (f v u) Q X.xe s2) :
    wpAny (model X.prog X.w) X.A (eval a X.env) (fun v s₁ => wpAny (model X.prog X.w) X.A (eval b X.env) (fun u s₂ => wpAny (model X.prog X.w) X.A (f v u) Q X.xe s₂) X.xe s₁) X.xe s := by
  refine thn (ha pins s σ H _ I h) fun v s1 ⟨x, H1, I1, r1, q1⟩ => ?_
  refine thn (hb pins s1 σ H1 _ I1 q1) fun u s2 ⟨y, H2, I2, r2, q2⟩ => ?_
  exact hf v u s2 x y H2 I2 r1 r2 q2

theorem pe_op {op : Operator} {r : R2} (ho : OpR X (binaryOp op) r) (ha : PE X a ta) (hb : PE X b tb) : PE X (.BinOp a op b pos) (tOp r ta tb) := by
  intro pins s σ H Q I h
  exact wpAny_BinOp (binT ha hb I h fun v u s2 x y H2 I2 rx ry q => ho pins s2 σ H2 x y v u Q I2 rx ry q)
theorem pe_un {op : UnaryOp} {r : V → Hp → VK → Prop} (ho : UnR X (unaryOp op) r) (ha : PE X a ta) : PE X (.UnaryOp op a pos) (tUn r ta) := by
  intro pins s σ H Q I h
  exact UnaryOp_ (thn (ha pins s σ H _ I h) fun v s1 ⟨x, H1, I1, r1, q1⟩ => ho pins s1 σ H1 x v Q I1 r1 q1)
/-! ### ints -/
theorem opI {f : Value → Value → Sem Value} {C : Int → Int → Prop} {g : Int → Int → Int}
    (rule : ∀ (i j : Int) (t u : Tok) (s : Shared) (Q : Value → Shared → Prop) (E : Value → Shared → Prop), C i j → Q (.int (g i j) s.toks) { s with toks := s.toks + 1 } → wpAny (model X.prog X.w) X.A (f (.int i t) (.int j u)) Q E s) :
    OpR X f (rI C fun i j => .int (g i j)) := by
  intro pins s σ H x y v u Q I rx ry h
  obtain ⟨i, j, rfl, rfl, hc, q⟩ := h
  obtain ⟨t, rfl⟩ := rx
  obtain ⟨t', rfl⟩ := ry
  exact rule i j t t' s _ _ hc ⟨.int (g i j), H, I.tok _, ⟨_, rfl⟩, q⟩
theorem opI0 {f : Value → Value → Sem Value} {g : Int → Int → Int}
    (rule : ∀ (i j : Int) (t u : Tok) (s : Shared) (Q : Value → Shared → Prop) (E : Value → Shared → Prop), Q (.int (g i j) s.toks) { s with toks := s.toks + 1 } → wpAny (model X.prog X.w) X.A (f (.int i t) (.int j u)) Q E s) :
    OpR X f (rI0 fun i j => .int (g i j)) := by
  intro pins s σ H x y v u Q I rx ry h
  obtain ⟨i, j, rfl, rfl, q⟩ := h
  obtain ⟨t, rfl⟩ := rx
  obtain ⟨t', rfl⟩ := ry
  exact rule i j t t' s _ _ ⟨.int (g i j), H, I.tok _, ⟨_, rfl⟩, q⟩
theorem opB0 {f : Value → Value → Sem Value} {g : Int → Int → Bool}
    (rule : ∀ (i j : Int) (t u : Tok) (s : Shared) (Q : Value → Shared → Prop) (E : Value → Shared → Prop), Q (.bool (g i j)) s → wpAny (model X.prog X.w) X.A (f (.int i t) (.int j u)) Q E s) :
    OpR X f (rI0 fun i j => .bl (g i j)) := by
  intro pins s σ H x y v u Q I rx ry h
  obtain ⟨i, j, rfl, rfl, q⟩ := h
  obtain ⟨t, rfl⟩ := rx
  obtain ⟨t', rfl⟩ := ry
  exact rule i j t t' s _ _ ⟨.bl (g i j), H, I, rfl, q⟩

def CDiv (i j : Int) : Prop := 0 < j ∧ j < 1073741824
def CDivN (i j : Int) : Prop := j ≠ 0 ∧ j.natAbs < 1073741824
def CPow (i j : Int) : Prop := 0 ≤ j ∧ j ≤ 1000000 ∧ i.natAbs < 2 ^ 64
def CMul (i j : Int) : Prop := (-(2 ^ 64) < i ∧ i < 2 ^ 64) ∨ (-(2 ^ 64) < j ∧ j < 2 ^ 64)
theorem CMul.ok {i j : Int} (h : CMul i j) : IntMulOk i j := by
  rcases h with ⟨h1, h2⟩ | ⟨h1, h2⟩
  · exact .of_left (intBits_le_64 h1 h2)
  · exact .of_right (intBits_le_64 h1 h2)
theorem op_add : OpR X (binaryOp .Add) (rI0 fun i j => .int (i + j)) := opI0 fun _ _ _ _ _ _ _ q => add_int q
theorem op_sub : OpR X (binaryOp .Sub) (rI0 fun i j => .int (i - j)) := opI0 fun _ _ _ _ _ _ _ q => sub_int q
theorem op_mul : OpR X (binaryOp .Mult) (rI CMul fun i j => .int (i * j)) := opI fun _ _ _ _ _ _ _ hc q => mul_int q hc.ok
/-- // by a positive divisor -/
theorem op_fdiv : OpR X (binaryOp .FloorDiv) (rI CDiv fun i j => .int (i / j)) := opI fun i j _ _ _ _ _ hc q => by
  have h1 : (0 : Int) < j := hc.1
  have h2 : j < 1073741824 := hc.2
  exact floordiv_int (by omega) (by rw [Int.fdiv_eq_ediv_of_nonneg i (by omega)]; exact q) (.inl (PyProof.noPylong_small (by omega)))
/-- % by a positive divisor of any size -/
theorem op_mod : OpR X (binaryOp .Mod) (rI (fun _ j => 0 < j) fun i j => .int (i % j)) := opI fun i j _ _ _ _ _ hc q => by
  have h1 : (0 : Int) < j := hc
  exact mod_int' (by omega) (by rw [Int.fmod_eq_emod_of_nonneg i (by omega)]; exact q)
theorem op_pow : OpR X (binaryOp .Pow) (rI CPow fun i j => .int (i ^ j.toNat)) := opI fun _ _ _ _ _ _ _ hc q => pow_int_small hc.1 hc.2.1 hc.2.2 q
theorem unI {f : Value → Sem Value} {g : Int → Int}
    (rule : ∀ (i : Int) (t : Tok) (s : Shared) (Q : Value → Shared → Prop) (E : Value → Shared → Prop), Q (.int (g i) s.toks) { s with toks := s.toks + 1 } → wpAny (model X.prog X.w) X.A (f (.int i t)) Q E s) :
    UnR X f (rU fun i => .int (g i)) := by
  intro pins s σ H x v Q I rx h
  obtain ⟨i, rfl, q⟩ := h
  obtain ⟨t, rfl⟩ := rx
  exact rule i t s _ _ ⟨.int (g i), H, I.tok _, ⟨_, rfl⟩, q⟩
theorem un_neg : UnR X (unaryOp .USub) (rU fun i => .int (-i)) := unI fun _ _ _ _ _ q => neg_int q
/-! ### bools among ints: n += (a < b) -/
end

/-! ### comparisons -/
/-- the scalars that == tells apart as data does -/
def scal : V → V → Bool
  | .non, .non => true | .non, .int _ => true | .int _, .non => true | .non, .bl _ => true | .bl _, .non => true | .non, .str _ => true | .str _, .non => true
  | .int _, .int _ => true | .bl _, .bl _ => true | .str _, .str _ => true | .byt _, .byt _ => true
  | .int _, .str _ => true | .str _, .int _ => true | .bl _, .str _ => true | .str _, .bl _ => true
  | _, _ => false
def rEq : R2 := fun x y H Q => scal x y = true ∧ Q (.bl (decide (x = y))) H
def rNe : R2 := fun x y H Q => scal x y = true ∧ Q (.bl (!decide (x = y))) H

theorem dec_int {i j : Int} : decide (V.int i = V.int j) = (i == j) := by
  rw [Bool.eq_iff_iff]
  simp
theorem dec_bl {i j : Bool} : decide (V.bl i = V.bl j) = (i == j) := by
  rw [Bool.eq_iff_iff]
  simp
theorem dec_str {i j : Str} : decide (V.str i = V.str j) = (i == j) := by
  rw [Bool.eq_iff_iff]
  simp
theorem dec_byt {i j : Array UInt8} : decide (V.byt i = V.byt j) = (i.toList == j.toList) := by
  rw [Bool.eq_iff_iff]
  cases i
  cases j
  simp

section
variable {X : Cx} {a b c : Expr} {ta tb tc : TE} {pos : Pos}
theorem fin_bl {pins : List (Addr × Obj)} {σ : St} {H : Hp} {s : Shared} {Q : VK} {k k' : Bool} (I : Inv X pins σ H s) (q : Q (.bl k) H) (e : k = k') : EP X pins σ Q (.bool k') s := by
  subst e
  exact ⟨.bl k, H, I, rfl, q⟩
theorem op_eq : OpR X (compareOp .Eq) rEq := by
  intro pins s σ H x y v u Q I rx ry h
  obtain ⟨hs, q⟩ := h
  cases x with
  | non =>
    cases rx
    cases y with
    | non => cases ry; exact PySem.EqNone.eq_none_none (fin_bl I q (by simp))
    | bl j => cases ry; exact PySem.EqNone.eq_none_bool (fin_bl I q (by simp))
    | int j => obtain ⟨t', rfl⟩ := ry; exact PySem.EqNone.eq_none_int (fin_bl I q (by simp))
    | str j => obtain ⟨t', rfl⟩ := ry; exact PySem.EqNone.eq_none_str (fin_bl I q (by simp))
    | _ => exact absurd (show false = true from hs) Bool.false_ne_true
  | bl i =>
    cases rx
    cases y with
    | non => cases ry; exact PySem.EqNone.eq_bool_none (fin_bl I q (by simp))
    | bl j => cases ry; exact eq_bool (fin_bl I q dec_bl)
    | str j => obtain ⟨t', rfl⟩ := ry; exact PySem.EqMixed.eq_bool_str (fin_bl I q (by simp))
    | _ => exact absurd (show false = true from hs) Bool.false_ne_true
  | int i =>
    obtain ⟨t, rfl⟩ := rx
    cases y with
    | non => cases ry; exact PySem.EqNone.eq_int_none (fin_bl I q (by simp))
    | int j => obtain ⟨t', rfl⟩ := ry; exact eq_int (fin_bl I q dec_int)
    | str j => obtain ⟨t', rfl⟩ := ry; exact PySem.EqMixed.eq_int_str (fin_bl I q (by simp))
    | _ => exact absurd (show false = true from hs) Bool.false_ne_true
  | str i =>
    obtain ⟨t, rfl⟩ := rx
    cases y with
    | non => cases ry; exact PySem.EqNone.eq_str_none (fin_bl I q (by simp))
    | bl j => cases ry; exact PySem.EqMixed.eq_str_bool (fin_bl I q (by simp))
    | int j => obtain ⟨t', rfl⟩ := ry; exact PySem.EqMixed.eq_str_int (fin_bl I q (by simp))
    | str j => obtain ⟨t', rfl⟩ := ry; exact eq_str (fin_bl I q dec_str)
    | _ => exact absurd (show false = true from hs) Bool.false_ne_true
  | byt i =>
    obtain ⟨t, rfl⟩ := rx
    cases y with
    | byt j => obtain ⟨t', rfl⟩ := ry; exact PySem.W.eq_bytes (fin_bl I q dec_byt)
    | _ => exact absurd (show false = true from hs) Bool.false_ne_true
  | _ => cases y <;> exact absurd (show false = true from hs) Bool.false_ne_true
theorem op_ne : OpR X (compareOp .NotEq) rNe := by
  intro pins s σ H x y v u Q I rx ry h
  obtain ⟨hs, q⟩ := h
  cases x with
  | non =>
    cases rx
    cases y with
    | non => cases ry; exact PySem.EqNone.ne_none_none (fin_bl I q (by simp))
    | bl j => cases ry; exact PySem.EqNone.ne_none_bool (fin_bl I q (by simp))
    | int j => obtain ⟨t', rfl⟩ := ry; exact PySem.EqNone.ne_none_int (fin_bl I q (by simp))
    | str j => obtain ⟨t', rfl⟩ := ry; exact PySem.EqNone.ne_none_str (fin_bl I q (by simp))
    | _ => exact absurd (show false = true from hs) Bool.false_ne_true
  | bl i =>
    cases rx
    cases y with
    | non => cases ry; exact PySem.EqNone.ne_bool_none (fin_bl I q (by simp))
    | bl j => cases ry; exact ne_bool (fin_bl I q (congrArg not dec_bl))
    | str j => obtain ⟨t', rfl⟩ := ry; exact PySem.EqMixed.ne_bool_str (fin_bl I q (by simp))
    | _ => exact absurd (show false = true from hs) Bool.false_ne_true
  | int i =>
    obtain ⟨t, rfl⟩ := rx
    cases y with
    | non => cases ry; exact PySem.EqNone.ne_int_none (fin_bl I q (by simp))
    | int j => obtain ⟨t', rfl⟩ := ry; exact ne_int (fin_bl I q (congrArg not dec_int))
    | str j => obtain ⟨t', rfl⟩ := ry; exact PySem.EqMixed.ne_int_str (fin_bl I q (by simp))
    | _ => exact absurd (show false = true from hs) Bool.false_ne_true
  | str i =>
    obtain ⟨t, rfl⟩ := rx
    cases y with
    | non => cases ry; exact PySem.EqNone.ne_str_none (fin_bl I q (by simp))
    | bl j => cases ry; exact PySem.EqMixed.ne_str_bool (fin_bl I q (by simp))
    | int j => obtain ⟨t', rfl⟩ := ry; exact PySem.EqMixed.ne_str_int (fin_bl I q (by simp))
    | str j => obtain ⟨t', rfl⟩ := ry; exact ne_str (fin_bl I q (congrArg not dec_str))
    | _ => exact absurd (show false = true from hs) Bool.false_ne_true
  | byt i =>
    obtain ⟨t, rfl⟩ := rx
    cases y with
    | byt j => obtain ⟨t', rfl⟩ := ry; exact PySem.W.ne_bytes (fin_bl I q (congrArg not dec_byt))
    | _ => exact absurd (show false = true from hs) Bool.false_ne_true
  | _ => cases y <;> exact absurd (show false = true from hs) Bool.false_ne_true

theorem op_lt : OpR X (compareOp .Lt) (rI0 fun i j => .bl (decide (i < j))) := opB0 fun _ _ _ _ _ _ _ q => lt_int q
theorem op_le : OpR X (compareOp .LtE) (rI0 fun i j => .bl (decide (i ≤ j))) := opB0 fun _ _ _ _ _ _ _ q => le_int q
theorem op_gt : OpR X (compareOp .Gt) (rI0 fun i j => .bl (decide (j < i))) := opB0 fun _ _ _ _ _ _ _ q => gt_int q
theorem op_ge : OpR X (compareOp .GtE) (rI0 fun i j => .bl (decide (j ≤ i))) := opB0 fun _ _ _ _ _ _ _ q => ge_int q
/-- is, is not of two objects that are tracked lists or instances -/
def isObj : HO → Bool
  | .lst _ => true
  | .ins _ _ _ => true
  | _ => false
theorem nomark (b : Expr) {op : CmpOp} (h : op ≠ .In := by decide) (h2 : op ≠ .NotIn := by decide) : behindInMarks op b = false := by
  have e1 : (op == CmpOp.In) = false := by cases op <;> first | rfl | exact absurd rfl h
  have e2 : (op == CmpOp.NotIn) = false := by cases op <;> first | rfl | exact absurd rfl h2
  cases b <;> simp [behindInMarks, e1, e2]
/-- a comparison as a value; hm: nomark b, or (for in, not in) by with_unfolding_all rfl -/
theorem pe_cmpR {op : CmpOp} {r : R2} (ho : OpR X (compareOp op) r) (ha : PE X a ta) (hb : PE X b tb) (hm : behindInMarks op b = false) : PE X (.Compare a [op] [b] pos) (tOp r ta tb) := by
  intro pins s σ H Q I h
  exact wpAny_Compare1 (binT ha hb I h fun v u s2 x y H2 I2 rx ry q => ho pins s2 σ H2 x y v u Q I2 rx ry q) hm
/-- a reading of a value as a test -/
def tTest (t : TE) : TT := fun σ H Q => t σ H fun x H' => ∃ k, x = .bl k ∧ Q k H'
theorem pt_cmpR {op : CmpOp} {r : R2} (ho : OpR X (compareOp op) r) (ha : PE X a ta) (hb : PE X b tb) (hm : behindInMarks op b = false) : PT X (.Compare a [op] [b] pos) (tTest (tOp r ta tb)) := by
  intro pins s σ H Q I h
  refine wpAny_isTrue_Compare1 (thn (ha pins s σ H _ I h) fun v s1 ⟨x, H1, I1, r1, q1⟩ => thn (hb pins s1 σ H1 _ I1 q1) fun u s2 ⟨y, H2, I2, r2, q2⟩ =>
    thn (ho pins s2 σ H2 x y v u _ I2 r1 r2 q2) fun c s3 ⟨z, H3, I3, r3, k, e, q3⟩ => ?_) hm
  subst e
  cases r3
  exact wpAny_truthy_bool ⟨H3, I3, q3⟩
/-- a op1 b op2 c -/
def tChain (r r' : R2) (ta tb tc : TE) : TE := fun σ H Q => ta σ H fun x H1 => tb σ H1 fun y H2 => r x y H2 fun z H3 => ∃ k, z = .bl k ∧
  (if k = true then tc σ H3 fun w' H4 => r' y w' H4 Q else Q (.bl false) H3)
theorem pe_chain {op op' : CmpOp} {r r' : R2} (ho : OpR X (compareOp op) r) (ho' : OpR X (compareOp op') r') (ha : PE X a ta) (hb : PE X b tb) (hc : PE X c tc)
    (hm : lastMarks [op, op'] [b, c] = false := by with_unfolding_all rfl) : PE X (.Compare a [op, op'] [b, c] pos) (tChain r r' ta tb tc) := by
  intro pins s σ H Q I h
  refine Compare_chain (thn (ha pins s σ H _ I h) fun v s1 ⟨x, H1, I1, r1, q1⟩ => chain_link (thn (hb pins s1 σ H1 _ I1 q1) fun u s2 ⟨y, H2, I2, r2, q2⟩ =>
    thn (ho pins s2 σ H2 x y v u _ I2 r1 r2 q2) fun d s3 ⟨z, H3, I3, r3, k, e, q3⟩ => ?_)) hm
  subst e
  cases r3
  refine wpAny_truthy_bool ?_
  cases k with
  | false => exact ite_ff ⟨.bl false, H3, I3, rfl, q3⟩
  | true => exact ite_tt (chain_last (thn (hc pins s3 σ H3 _ I3 q3) fun w' s4 ⟨z', H4, I4, r4, q4⟩ => ho' pins s4 σ H4 y z' u w' Q I4 r2 r4 q4))
/-! ### truth -/
/-- a value's truth by the abstract heap -/
def TruV (K : PySem.W.Frag) (x : V) (H : Hp) (k : Bool) : Prop :=
  match x with
  | .non => k = false
  | .bl b => k = b
  | .int i => k = (i != 0)
  | .str y => y.length ≤ sizeLine ∧ k = ((y.length : Int) != 0)
  | .byt y => y.size ≤ sizeLine ∧ k = ((y.size : Int) != 0)
  | .ref p => (∃ xs, SqL K H p xs ∧ k = !xs.isEmpty) ∨ (∃ xs, SqT K H p xs ∧ k = !xs.isEmpty) ∨ ∃ kvs, H p = some (.dK kvs) ∧ k = !kvs.isEmpty
  | _ => False
theorem line63 : (sizeLine : Nat) < 2 ^ 63 := by rw [sizeLine_eq]; decide
/-! ### strs and bytes -/
theorem op_add_str : OpR X (binaryOp .Add) (fun x y H Q => ∃ i j, x = .str i ∧ y = .str j ∧ i.length + j.length ≤ sizeLine ∧ Q (.str (i ++ j)) H) := by
  intro pins s σ H x y v u Q I rx ry h
  obtain ⟨i, j, rfl, rfl, hz, q⟩ := h
  obtain ⟨t, rfl⟩ := rx
  obtain ⟨t', rfl⟩ := ry
  exact add_str (fun t' tk => ⟨.str (i ++ j), H, I.tok _, ⟨_, rfl⟩, q⟩) hz
def PlainIxT (b : Expr) : Prop := ∀ o i, subscripted b false o i = operate [o, i] (getItem o i)
/-! ### scalar builtins, by CallR -/
theorem vals1 {x : V} {us : List Value} (r : Vals [x] us) : ∃ u, us = [u] ∧ RelV x u := by
  cases r with
  | cons r1 r2 => cases r2; exact ⟨_, rfl, r1⟩
theorem vals2 {x y : V} {us : List Value} (r : Vals [x, y] us) : ∃ u w', us = [u, w'] ∧ RelV x u ∧ RelV y w' := by
  cases r with
  | cons r1 r2 =>
    cases r2 with
    | cons r3 r4 => cases r4; exact ⟨_, _, rfl, r1, r3⟩
theorem call_max2 (hc : X.calm = true) : CallR X (.builtin "max") (fun xs H Q => ∃ i j, xs = [.int i, .int j] ∧ Q (.int (if j > i then j else i)) H) := by
  intro pins s σ H xs us Q I r h
  obtain ⟨i, j, rfl, q⟩ := h
  obtain ⟨u, w', rfl, ⟨t, rfl⟩, ⟨t', rfl⟩⟩ := vals2 r
  refine max_two_ints (I.ok.hd hc) fun h' tk k => ⟨_, H, I.kept k, ?_, q⟩
  by_cases hj : j > i
  · rw [if_pos hj, if_pos hj]; exact ⟨_, rfl⟩
  · rw [if_neg hj, if_neg hj]; exact ⟨_, rfl⟩
theorem call_min2 (hc : X.calm = true) : CallR X (.builtin "min") (fun xs H Q => ∃ i j, xs = [.int i, .int j] ∧ Q (.int (if j < i then j else i)) H) := by
  intro pins s σ H xs us Q I r h
  obtain ⟨i, j, rfl, q⟩ := h
  obtain ⟨u, w', rfl, ⟨t, rfl⟩, ⟨t', rfl⟩⟩ := vals2 r
  refine min_two_ints (I.ok.hd hc) fun h' tk k => ⟨_, H, I.kept k, ?_, q⟩
  by_cases hj : j < i
  · rw [if_pos hj, if_pos hj]; exact ⟨_, rfl⟩
  · rw [if_neg hj, if_neg hj]; exact ⟨_, rfl⟩
theorem call_int1 : CallR X (.type "int") (fun xs H Q => (∃ i, xs = [.int i] ∧ Q (.int i) H) ∨ ∃ k, xs = [.bl k] ∧ Q (.int (if k then 1 else 0)) H) := by
  intro pins s σ H xs us Q I r h
  rcases h with ⟨i, rfl, q⟩ | ⟨k, rfl, q⟩
  · obtain ⟨u, rfl, t, rfl⟩ := vals1 r
    exact call_int_int ⟨.int i, H, I, ⟨_, rfl⟩, q⟩
  · obtain ⟨u, rfl, r1⟩ := vals1 r
    cases r1
    exact call_int_bool ⟨.int (if k then 1 else 0), H, I.tok _, ⟨_, rfl⟩, q⟩
/-- len of a str, a bytes, a list, a tuple -/
def LenV (K : PySem.W.Frag) (x : V) (H : Hp) (n : Nat) : Prop :=
  match x with
  | .str y => y.length ≤ sizeLine ∧ n = y.length
  | .byt y => y.size ≤ sizeLine ∧ n = y.size
  | .ref p => (∃ xs, SqL K H p xs ∧ n = xs.length) ∨ ∃ xs, SqT K H p xs ∧ n = xs.length
  | _ => False
end
end L2

namespace L2
open PySem PySem.Spec PyProof.Rows

/-! ### an instance, its attributes a map -/
structure ObjM (h : Heap) (x dx C : Addr) (mA : Str → Option Value) : Prop where
  obj : h.get? x = some (PySem.W.instObj C dx)
  ns : h.Ns1 dx mA
  ne : dx ≠ x

theorem lookIn_ns {h : Heap} {dx : Addr} {mA : Str → Option Value} (n : h.Ns1 dx mA) : ∃ od, h.get? dx = some od ∧ ∀ name, PySem.W.lookIn name od = some (mA name) := by
  obtain ⟨o, es, ep, ho, hd, hk, _, hm⟩ := n
  refine ⟨o, ho, fun name => ?_⟩
  have e := hm name
  unfold nsFind findBy at e
  rw [← Array.find?_toList] at e
  unfold PySem.W.lookIn
  rw [hd]
  dsimp only
  split
  · rename_i y q
    rw [q] at e
    exact congrArg some e
  · rename_i q
    rw [q] at e
    have a : es.toList.any (·.refKey) = false := by
      rw [List.any_eq_false]
      intro y hy
      obtain ⟨z, t, hkey⟩ := hk y (Array.mem_toList_iff.mp hy)
      simp [DictEntry.refKey, hkey]
    have a' : ¬ es.toList.any (·.refKey) = true := by rw [a]; exact Bool.false_ne_true
    rw [if_neg a']
    exact congrArg some e

theorem ObjM.look {h : Heap} {x dx C : Addr} {mA : Str → Option Value} (I : ObjM h x dx C mA) : ∃ od, PySem.W.InstAt h x (PySem.W.instObj C dx) C (some od) ∧ ∀ name, PySem.W.lookIn name od = some (mA name) :=
  let ⟨od, ho, hl⟩ := lookIn_ns I.ns
  ⟨od, ⟨I.obj, rfl, rfl, ho⟩, hl⟩

section
variable {prog : Program} {w : World} {A : Around} {E : Value → Shared → Prop} {s : Shared} {K : PySem.W.Frag} {x dx C f : Addr} {mA : Str → Option Value} {name : Str} {v : Value}

end

/-! ### the attributes as a list of pairs -/
def putF (f : Str) (v : V) : List (Str × V) → List (Str × V)
  | [] => [(f, v)]
  | (g, x) :: r => if g = f then (g, v) :: r else (g, x) :: putF f v r
section
variable {P : Program} {w : World} {H H' : Hp} {h h' : Heap} {a C dx : Addr} {fs fs' : List (Str × V)}
theorem ins_get (hok : HOk P w H h) (e : H a = some (.ins C dx fs)) : ∃ mA, ObjM h a dx C mA ∧ (∀ f, RelO (fs.lookup f) (mA f)) ∧ PySem.Within mA (fs.map (·.1)) ∧ fs.length ≤ 1000 ∧ H dx = some (.own a) := by
  obtain ⟨d, z, ne, ob, mA, n, r, q⟩ := (show ObjOk P w H h a (.ins C dx fs) from hok a _ e)
  exact ⟨mA, ⟨ob, n, ne⟩, r, q, z, d⟩
end

/-! ### what of the text a class must have -/
structure Cls (K : PySem.W.Frag) (C : Addr) : Prop where
  pg : PySem.W.plainGet K C Str.empty = true
  hd : PySem.W.hasDictIn K C = true
  po : PySem.W.plainOver K C = true
  sa : PySem.W.findIn K (.ref C) "__setattr__" = some (some (.builtin "object.__setattr__"))
theorem Cls.get {K : PySem.W.Frag} {C : Addr} (c : Cls K C) (f : Str) : PySem.W.plainGet K C f = true := c.pg
/-- no class of it has the name -/
def NoAttr (K : PySem.W.Frag) (C : Addr) (f : Str) : Prop := PySem.W.findIn K (.ref C) f = some none
/-- a constant of the class -/
structure Con (K : PySem.W.Frag) (C : Addr) (f : Str) (v : V) (u : Value) : Prop where
  at_ : PySem.W.findIn K (.ref C) f = some (some u)
  rel : RelV v u
  get : PySem.W.specialIn K u "__get__" = some none
  cp : PySem.W.copiedNames.contains f = false
/-- a method: a plain def of the class or of one above it -/
structure Meth (K : PySem.W.Frag) (C : Addr) (m : Str) (f : Addr) : Prop where
  at_ : PySem.W.findIn K (.ref C) m = some (some (.ref f))
  fn : PySem.W.isFn K (.ref f) = true
  kp : PySem.W.keepIn K (.ref f) = true

section
variable {X : Cx} {pins : List (Addr × Obj)} {σ : St} {H : Hp} {s : Shared} {a C dx : Addr} {fs : List (Str × V)} {f : Str} {v : V} {A : Around} {E : Value → Shared → Prop}

end

/-! ### readings and rules -/
/-- e.f, an attribute of the instance -/
def tFld (K : PySem.W.Frag) (ta : TE) (f : Str) : TE := fun σ H Q => ta σ H fun x H1 => ∃ a C dx fs v, x = .ref a ∧ H1 a = some (.ins C dx fs) ∧ Cls K C ∧ NoAttr K C f ∧ fs.lookup f = some v ∧ Q v H1
/-- e.f, a constant of the class -/
def tCon (K : PySem.W.Frag) (ta : TE) (f : Str) : TE := fun σ H Q => ta σ H fun x H1 => ∃ a C dx fs v u, x = .ref a ∧ H1 a = some (.ins C dx fs) ∧ Cls K C ∧ Con K C f v u ∧ fs.lookup f = none ∧ Q v H1
/-- e.f = value -/
def sFld (K : PySem.W.Frag) (ta tv : TE) (f : Str) : TS := fun D σ H => tv σ H fun y H1 => ta σ H1 fun x H2 => ∃ a C dx fs, x = .ref a ∧ H2 a = some (.ins C dx fs) ∧ Cls K C ∧ NoAttr K C f ∧ fs.length < 1000 ∧
  D.nx σ (upd H2 a (.ins C dx (putF f y fs)))
/-- an augmented operator on two values -/
def InOp (X : Cx) (op : Operator) (rd : V → V → Hp → VK → Prop) : Prop :=
  ∀ (pins : List (Addr × Obj)) (s : Shared) (σ : St) (H : Hp) (x y : V) (u v : Value) (Q : VK), Inv X pins σ H s → RelV x u → RelV y v → rd x y H Q → wpAny (model X.prog X.w) X.A (inplaceOp op u v) (EP X pins σ Q) X.xe s
/-- e.f op= value -/
def sFldAug (K : PySem.W.Frag) (ta tv : TE) (rd : V → V → Hp → VK → Prop) (f : Str) : TS := fun D σ H => ta σ H fun x H1 => ∃ a C dx fs v, x = .ref a ∧ H1 a = some (.ins C dx fs) ∧ Cls K C ∧ NoAttr K C f ∧ fs.lookup f = some v ∧
  tv σ H1 fun y H2 => rd v y H2 fun z H3 => ∃ dx' fs', H3 a = some (.ins C dx' fs') ∧ fs'.length < 1000 ∧ D.nx σ (upd H3 a (.ins C dx' (putF f z fs')))

section
variable {X : Cx} {o e value : Expr} {f : Str} {pos pos' tpos : Pos} {ta tv : TE}
def rAdd : V → V → Hp → VK → Prop := fun x y H Q => ∃ i j, x = .int i ∧ y = .int j ∧ Q (.int (i + j)) H
def rSub : V → V → Hp → VK → Prop := fun x y H Q => ∃ i j, x = .int i ∧ y = .int j ∧ Q (.int (i - j)) H
end

/-! ### isinstance -/
section
variable {X : Cx} {pins : List (Addr × Obj)} {σ : St} {H : Hp} {s : Shared} {A : Around} {E : Value → Shared → Prop} {Q : Value → Shared → Prop} {c : Value} {b : Bool}
/-- the type of a value, as the fragment's deciders take it; for an instance its class -/
inductive TyOf (K : PySem.W.Frag) (H : Hp) : V → Value → Prop where
  | non : TyOf K H .non (.type "NoneType")
  | bl (x : Bool) : TyOf K H (.bl x) (.type "bool")
  | int (i : Int) : TyOf K H (.int i) (.type "int")
  | str (x : Str) : TyOf K H (.str x) (.type "str")
  | flt (x : UInt64) : TyOf K H (.flt x) (.type "float")
  | lst {a : Addr} {xs : List V} (e : H a = some (.lst xs)) : TyOf K H (.ref a) (.type "list")
  | frz {a : Addr} {o : Obj} {xs : List V} (e : H a = some (.frz o (.lst xs))) : TyOf K H (.ref a) (.type "list")
  | tup {a : Addr} {xs : List V} (e : H a = some (.tup xs)) : TyOf K H (.ref a) (.type "tuple")
  | dK {a : Addr} {kvs : List (Key × V)} (e : H a = some (.dK kvs)) : TyOf K H (.ref a) (.type "dict")
  | dT {a : Addr} {kvs : List (List Key × V)} (e : H a = some (.dT kvs)) : TyOf K H (.ref a) (.type "dict")
  | ins {a C dx : Addr} {fs : List (Str × V)} (e : H a = some (.ins C dx fs)) (cl : Cls K C) (ha : PySem.W.findIn K (.ref C) "__class__" = some (some (.builtin "object.__class__")))
      (hn : PySem.W.specialIn K (.builtin "object.__class__") "__get__" = some (some (.builtin "getset_descriptor.__get__"))) (htk : PySem.W.takesIn K (.builtin "object.__class__") = some true)
      (hm : PySem.W.mroIn K C (.type "object") = some true) : TyOf K H (.ref a) (.ref C)
/-- isinstance(x, c) for one class c, a built-in or an own one: kitOne's answer -/
theorem isinst_ok {x : V} {u t : Value} (I : Inv X pins σ H s) (rx : RelV x u) (ty : TyOf X.K H x t) (e : PySem.W.kitOne X.K t c = some b) (h : ∀ tk, Q (.bool b) { s with toks := tk }) :
    wpAny (model X.prog X.w) A (call (.builtin "isinstance") [u, c]) Q E s := by
  cases ty with
  | non => cases (show u = Value.none from rx); exact PySem.W.kia_one PySem.W.kitx_none I.kIn True.intro e (fun z => nomatch z) h
  | bl y => cases (show u = Value.bool y from rx); exact PySem.W.kia_one PySem.W.kitx_bool I.kIn True.intro e (fun z => nomatch z) h
  | int i => obtain ⟨t, q⟩ := (show ∃ t, u = Value.int i t from rx); cases q; exact PySem.W.kia_one PySem.W.kitx_int I.kIn True.intro e (fun z => nomatch z) h
  | str y => obtain ⟨t, q⟩ := (show ∃ t, u = Value.str y t from rx); cases q; exact PySem.W.kia_one PySem.W.kitx_str I.kIn True.intro e (fun z => nomatch z) h
  | flt y => obtain ⟨t, q⟩ := (show ∃ t, u = Value.float y t from rx); cases q; exact PySem.W.kia_one PySem.W.kitx_float I.kIn True.intro e (fun z => nomatch z) h
  | @lst a xs ea =>
    cases (show u = Value.ref a from rx)
    obtain ⟨_, _, n, _, h1⟩ := (show ObjOk X.prog X.w H s.heap a (.lst xs) from I.hok a _ ea)
    exact PySem.W.kia_one PySem.W.kitx_list I.kIn ⟨_, h1, rfl⟩ e (fun z => nomatch z) h
  | @frz a ob xs ea =>
    cases (show u = Value.ref a from rx)
    obtain ⟨_, _, _, n, _, h1⟩ := (show ObjOk X.prog X.w H s.heap a (.frz ob (.lst xs)) from I.hok a _ ea)
    exact PySem.W.kia_one PySem.W.kitx_list I.kIn ⟨_, h1, rfl⟩ e (fun z => nomatch z) h
  | @tup a xs ea =>
    cases (show u = Value.ref a from rx)
    obtain ⟨_, _, _, p⟩ := (show ObjOk X.prog X.w H s.heap a (.tup xs) from I.hok a _ ea)
    obtain ⟨o, h1, h2, _⟩ := p
    exact PySem.W.kia_one PySem.W.kitx_tuple I.kIn ⟨o, h1, h2⟩ e (fun z => nomatch z) h
  | @dK a kvs ea =>
    cases (show u = Value.ref a from rx)
    obtain ⟨_, _, vs, _, p⟩ := (show ObjOk X.prog X.w H s.heap a (.dK kvs) from I.hok a _ ea)
    obtain ⟨o, es, ep, h1, h2, _⟩ := p
    exact PySem.W.kia_one PySem.W.kitx_dict I.kIn ⟨o, h1, h2.1⟩ e (fun z => nomatch z) h
  | @dT a kvs ea =>
    cases (show u = Value.ref a from rx)
    obtain ⟨_, _, xs, _, o, es, ep, h1, h2, _⟩ := (show ObjOk X.prog X.w H s.heap a (.dT kvs) from I.hok a _ ea)
    exact PySem.W.kia_one PySem.W.kitx_dict I.kIn ⟨o, h1, h2.1⟩ e (fun z => nomatch z) h
  | @ins a C dx fs ea cl ha hn htk hm =>
    cases (show u = Value.ref a from rx)
    obtain ⟨mA, O, _⟩ := ins_get I.hok ea
    obtain ⟨od, J, _⟩ := O.look
    exact PySem.W.kia_one (PySem.W.kitx_own (cl.get _) cl.hd ha hn htk hm) I.kIn J e (fun z => nomatch z) h
end
end L2

namespace L2
open PySem PySem.Spec PyProof.Rows

/-! ### room -/
structure Room (k : Nat) (A : Around) : Prop where
  hd : A.handled = none
  dp : A.depth + 3 * k + 5 < recursionLimit
  un : A.units + 16 * k + 200 < cLine
theorem Room.mono {j k : Nat} {A : Around} (r : Room k A) (h : j ≤ k) : Room j A := ⟨r.hd, by have := r.dp; omega, by have := r.un; omega⟩
theorem Room.deeper {k : Nat} {A : Around} (r : Room (k + 1) A) (env : Env) : Room k (A.deeper env) :=
  ⟨r.hd, by have := r.dp; show A.depth + 1 + 3 * k + 5 < _; omega, by have := r.un; show A.units + 3 + 16 * k + 200 < _; omega⟩
theorem Room.depth {k : Nat} {A : Around} (r : Room k A) : A.depth < recursionLimit := by have := r.dp; omega
theorem Room.units {k : Nat} {A : Around} (r : Room k A) : A.units + 64 < cLine := by have := r.un; omega
/-! ### argument lists and displays -/
def tNil : TA := fun _ H Q => Q [] H
def tCons (ta : TE) (tr : TA) : TA := fun σ H Q => ta σ H fun x H1 => tr σ H1 fun xs H2 => Q (x :: xs) H2
section
variable {X : Cx} {e : Expr} {es : List Expr} {te : TE} {t : TA} {pos : Pos}
theorem pa_nil : PA X [] tNil := fun _ _ _ _ H Q I h => Calls.spliced_nil ⟨[], H, I, .nil, h⟩
theorem pa_cons (ha : PE X e te) (hr : PA X es t) (hs : starEach (e :: es) X.env = (false, eval e X.env) :: starEach es X.env := by rfl) : PA X (e :: es) (tCons te t) := by
  intro pos pins s σ H Q I h
  rw [hs]
  show wpAny _ _ (spliced ((false, eval e X.env) :: backTo pos (starEach es X.env))) _ _ s
  refine Calls.spliced_cons (thn (ha pins s σ H _ I h) fun u s1 ⟨x, H1, I1, r1, q1⟩ => ?_)
  exact thn (hr pos pins s1 σ H1 _ I1 q1) fun us s2 ⟨xs, H2, I2, r2, q2⟩ => ⟨x :: xs, H2, I2, .cons r1 r2, q2⟩

/-- a tuple, a list of written items -/
def tTup (t : TA) : TE := fun σ H Q => t σ H fun xs H1 => xs.length ≤ sizeLine ∧ ∀ p, H1 p = none → Q (.ref p) (upd H1 p (.tup xs))
def tLst (t : TA) : TE := fun σ H Q => t σ H fun xs H1 => xs.length ≤ sizeLine ∧ ∀ p, H1 p = none → Q (.ref p) (upd H1 p (.lst xs))
theorem pe_tup {x1} (h : PA X es t) : PE X (.Tuple es x1 pos) (tTup t) := by
  intro pins s σ H Q I hq
  refine wpAny_Tuple_spliced (thn (h pos pins s σ H _ I hq) fun us s1 ⟨xs, H1, I1, r, z, q⟩ => ⟨by rw [← r.length]; exact z, ?_⟩)
  have hf : H1 s1.heap.objs.size = none := I1.hok.fresh (Nat.le_refl _)
  refine ⟨.ref s1.heap.objs.size, upd H1 s1.heap.objs.size (.tup xs), I1.laid (t' := s1.toks) (fun b u e => Heap.get?_push_of_some _ e) (Nat.le_refl _) ?_, rfl, q _ hf⟩
  exact ⟨z, us, r, ⟨_, Heap.get?_push_size _ rfl, rfl, _, rfl⟩⟩
theorem pe_lst (h : PA X es t) : PE X (.List es pos) (tLst t) := by
  intro pins s σ H Q I hq
  refine wpAny_List_spliced (thn (h pos pins s σ H _ I hq) fun us s1 ⟨xs, H1, I1, r, z, q⟩ => ⟨by rw [← r.length]; exact z, ?_⟩)
  have hf : H1 s1.heap.objs.size = none := I1.hok.fresh (Nat.le_refl _)
  refine ⟨.ref s1.heap.objs.size, upd H1 s1.heap.objs.size (.lst xs), I1.laid (t' := s1.toks) (fun b u e => Heap.get?_push_of_some _ e) (Nat.le_refl _) ?_, rfl, q _ hf⟩
  exact ⟨z, us, 0, r, Heap.get?_push_size _ rfl⟩
end

/-! ### what a def promises -/
/-- a def's promise: the bound arguments in the parameters' order, the heap, the wanted end, the wanted exception -/
abbrev Sp := List V → Hp → VK → XK → Prop
/-- how an exception lies behind a call (file 08 gives it): the callers' frames, abstract heap and state ahead of the call, the wish, the exception, the state -/
abbrev CXT := List Env → Hp → Shared → XK → Value → Shared → Prop

/-- the state at a call -/
structure Env0 (P : Program) (w : World) (K : PySem.W.Frag) (mg : Str → Option Value) (base : Heap) (A : Around) (outer : List Env) (s : Shared) (H : Hp) : Prop where
  frames : A.frames = some outer
  mod : Mod K mg base
  bs : ∀ b o, base.get? b = some o → s.heap.get? b = some o ∧ H b = none
  bsz : base.objs.size ≤ s.heap.objs.size
  funs : s.heap.FunFrames base outer
  frf : ∀ b ∈ frs outer, H b = none
  hok : HOk P w H s.heap
  bare : AllBare s.gens
/-- a call's end -/
def CE (outer : List Env) (P : Program) (w : World) (H : Hp) (s : Shared) (Q : VK) (u : Value) (s' : Shared) : Prop :=
  ∃ v H', s'.os = s.os ∧ AllBare s'.gens ∧ Un (frs outer) [] H H' s.heap s'.heap ∧ HOk P w H' s'.heap ∧ RelV v u ∧ Q v H'
def CR (CX : CXT) (outer : List Env) (P : Program) (w : World) (H : Hp) (s : Shared) (Q : VK) (E : XK) (r : Result) (s' : Shared) : Prop :=
  match r with
  | .ok (.ret u) => CE outer P w H s Q u s'
  | .ok _ => False
  | .error e => CX outer H s E e s'
structure FnOk (P : Program) (w : World) (K : PySem.W.Frag) (mg : Str → Option Value) (base : Heap) (CX : CXT) (k : Nat) (f : Addr) (fd : FuncData) (ps : List Str) (sp : Sp) : Prop where
  len : ∀ vs H Q E, sp vs H Q E → vs.length = ps.length
  run : ∀ (A : Around) (outer : List Env) (s : Shared) (H : Hp) (args : Args) (us : List Value) (vs : List V) (Q : VK) (E : XK), Room k A → Env0 P w K mg base A outer s H → BindsTo s fd args (ps.zip us) → Vals vs us → sp vs H Q E →
    codeAny (model P w) A (.call (.ref f) args) (CR CX outer P w H s Q E) s
section
variable {X : Cx} {pins : List (Addr × Obj)} {σ : St} {H : Hp} {s s' : Shared}
/-- from a body: what a callee wants -/
theorem Inv.env0 (I : Inv X pins σ H s) : Env0 X.prog X.w X.K X.mg X.base X.A X.stack s H :=
  ⟨I.ok.frames, I.ok.mod, I.bs, Nat.le_trans I.ok.bsz I.sz, I.stack, I.stkFree, I.hok, I.bare⟩
/-- behind a call -/
theorem Inv.after {Q : VK} {u : Value} (I : Inv X pins σ H s) (h : CE X.stack X.prog X.w H s Q u s') : EP X pins σ Q u s' := by
  obtain ⟨v, H', os, bare, un, hok, r, q⟩ := h
  obtain ⟨hh, g, d, t, os'⟩ := s'
  obtain rfl : os' = s.os := os
  exact ⟨v, H', I.call (h' := hh) (g' := g) (d' := d) (t' := t) (ch := []) un hok bare (fun b z => absurd z (by simp)), r, q⟩
end

/-! ### calls -/
/-- f(..): the written arguments, then the defaults dvs; E: what is wanted of an exception -/
def tCall (sp : Sp) (dvs : List V) (E : XK) (t : TA) : TE := fun σ H Q => t σ H fun vs H1 => sp (vs ++ dvs) H1 Q E
/-- o.m(..) of an instance of the class at C -/
def tMeth (C : Addr) (m : Str) (sp : Sp) (dvs : List V) (E : XK) (ta : TE) (t : TA) : TE := fun σ H Q => ta σ H fun x H1 => ∃ a dx fs, x = .ref a ∧ H1 a = some (.ins C dx fs) ∧ fs.lookup m = none ∧
  t σ H1 fun vs H2 => sp (x :: (vs ++ dvs)) H2 Q E
/-- C(..): a new instance and its dict, then __init__ -/
def tMake (C : Addr) (sp : Sp) (dvs : List V) (E : XK) (t : TA) : TE := fun σ H Q => t σ H fun vs H1 => ∀ x dx, H1 x = none → H1 dx = none → dx ≠ x →
  sp (.ref x :: (vs ++ dvs)) (upd (upd H1 dx (.own x)) x (.ins C dx [])) (fun v H2 => v = .non ∧ Q (.ref x) H2) E

/-- how the parameters are bound: us the positional arguments, kw the keywords' values by name, ds the defaults that fill up -/
def Binds (K : PySem.W.Frag) (fd : FuncData) (ps : List Str) (ds : List Value) : Prop :=
  ∀ (s : Shared) (us : List Value), K.In s.heap → (us ++ ds).length = ps.length → BindsTo s fd ⟨us, []⟩ (ps.zip (us ++ ds))
/-- every parameter is given -/
theorem Binds.all {K : PySem.W.Frag} {fd : FuncData} {ps : List Str} (h : ∀ us : List Value, us.length = ps.length → bindArgs fd ⟨us, []⟩ = pure (ps.zip us)) : Binds K fd ps [] := fun s us _ hl => by
  rw [List.append_nil] at hl ⊢
  exact .of_eq (h us hl)

/-- an exception of a callee reaches what this body wants of exceptions -/
def Passes (CX : CXT) (X : Cx) (E : XK) : Prop := ∀ (pins : List (Addr × Obj)) (σ : St) (H : Hp) (s : Shared) (e : Value) (s' : Shared), Inv X pins σ H s → CX X.stack H s E e s' → X.xe e s'

section
variable {X : Cx} {CX : CXT} {k : Nat} {f C : Addr} {fd : FuncData} {ps : List Str} {sp : Sp} {dvs : List V} {ds : List Value} {E : XK} {x m : Str} {p pos apos : Pos} {e o : Expr} {es : List Expr} {ta : TE} {t : TA}

/-- the callee runs -/
theorem run_fn {pins : List (Addr × Obj)} {σ : St} {H : Hp} {s : Shared} {Q : VK} {us : List Value} {vs : List V} (F : FnOk X.prog X.w X.K X.mg X.base CX k f fd ps sp) (hr : Room k X.A) (hb : Binds X.K fd ps ds) (hd : Vals dvs ds) (hx : Passes CX X E)
    (I : Inv X pins σ H s) (r : Vals vs us) (h : sp (vs ++ dvs) H Q E) : wpAny (model X.prog X.w) X.A (call (.ref f) us) (EP X pins σ Q) X.xe s := by
  have r2 : Vals (vs ++ dvs) (us ++ ds) := r.append hd
  have hl : (us ++ ds).length = ps.length := by rw [← r2.length]; exact F.len _ _ _ _ h
  refine wpAny_call (codeAny_mono (F.run X.A X.stack s H ⟨us, []⟩ (us ++ ds) (vs ++ dvs) Q E hr I.env0 (hb s us I.kIn hl) r2 h) fun r s' hq => ?_)
  cases r with
  | error e => exact hx pins σ H s e s' I hq
  | ok fl =>
    cases fl with
    | ret u => exact I.after hq
    | next => exact False.elim hq
    | brk => exact False.elim hq
    | cont => exact False.elim hq

theorem pe_call (F : FnOk X.prog X.w X.K X.mg X.base CX k f fd ps sp) (hr : Room k X.A) (hg : Gl X x) (hm : X.mg x = some (.ref f)) (hk : PySem.W.keepIn X.K (.ref f) = true) (hb : Binds X.K fd ps ds) (hd : Vals dvs ds) (hx : Passes CX X E)
    (ha : PA X (e :: es) t) (hdb : (x == ("__debug__" : Str)) = false := by decide) (he : starEach (e :: es) X.env = (false, eval e X.env) :: starEach es X.env := by rfl) (hpl : (backTo pos (starEach es X.env)).any (·.1) = false := by rfl) :
    PE X (.Call (.Name x p) (e :: es) [] pos) (tCall sp dvs E t) := by
  intro pins s σ H Q I h
  refine wpAny_Call_Name_kw (ld_glob I hg hm ?_ hdb)
  refine PySem.W.callWith_K (h₀ := X.base) I.ok.mod.kin hk (thn (ha pos pins s σ H _ I h) fun us s1 ⟨vs, H1, I1, r, q⟩ => ⟨I1.kIn, ?_⟩) he hpl
  exact run_fn F hr hb hd hx I1 r q
/-- what a class must have to be made -/
structure Mk (K : PySem.W.Frag) (C f : Addr) : Prop where
  makes : PySem.W.makesIn K C = true
  init : PySem.W.findIn K (.ref C) "__init__" = some (some (.ref f))
  fn : PySem.W.isFn K (.ref f) = true
  kp : PySem.W.keepIn K (.ref C) = true

end

/-! ### keywords -/
/-- the values of the keywords, from the left -/
def PK (X : Cx) (kws : List Keyword) (t : TA) : Prop :=
  ∀ (pos : Pos) (pins : List (Addr × Obj)) (s : Shared) (σ : St) (H : Hp) (Q : List V → Hp → Prop), Inv X pins σ H s → t σ H Q → wpAny (model X.prog X.w) X.A (evalAll ((backToKw pos (keywordEach kws X.env)).map (·.2))) (AP X pins σ Q) X.xe s
section
variable {X : Cx} {CX : CXT} {k : Nat} {f C : Addr} {fd : FuncData} {ps ks : List Str} {sp : Sp} {E : XK} {x m : Str} {p pos apos kpos : Pos} {e o : Expr} {es : List Expr} {kws : List Keyword} {te ta : TE} {t tk : TA} {nm : Option Str}
/-- how a call with keywords binds: g puts the positional values us and the keywords' values ws (names ks) in the parameters' order, defaults among them -/
structure KBinds (K : PySem.W.Frag) (fd : FuncData) (ps ks : List Str) (g : List Value → List Value → List Value) (gV : List V → List V → List V) : Prop where
  to : ∀ (s : Shared) (us ws : List Value), K.In s.heap → (g us ws).length = ps.length → BindsTo s fd ⟨us, ks.zip ws⟩ (ps.zip (g us ws))
  rel : ∀ {vs : List V} {us : List Value} {zs : List V} {ws : List Value}, Vals vs us → Vals zs ws → Vals (gV vs zs) (g us ws)
def tCallK (sp : Sp) (gV : List V → List V → List V) (E : XK) (t tk : TA) : TE := fun σ H Q => t σ H fun vs H1 => tk σ H1 fun zs H2 => sp (gV vs zs) H2 Q E
variable {g : List Value → List Value → List Value} {gV : List V → List V → List V}
end

/-! ### a def's body keeps its promise -/
/-- names: the parameters first -/
structure FnScope (N P : List Str) (sc : Scope) : Prop where
  kind : sc.kind = .function
  co : sc.isCoroutine = false
  gen : sc.isGenerator = false
  nd : N.Nodup
  pre : N.take P.length = P
  par : ∀ x ∈ P, sc.names.lookup x = some .local ∨ sc.names.lookup x = some .cell
  nofree : ∀ y ∈ sc.names, y.2 ≠ .free

theorem bindL_out {kindOf : Str → Option NameKind} {x : Str} : ∀ {binds : List (Str × Value)} {m : Str → Option Value}, (∀ v, (x, v) ∉ binds) → bindL kindOf binds m x = m x
  | [], _, _ => rfl
  | (n, v) :: r, m, h => by
    unfold bindL
    rw [bindL_out fun w hw => h w (List.mem_cons_of_mem _ hw)]
    split
    · have : x ≠ n := by rintro rfl; exact h v List.mem_cons_self
      simp [this]
    · rfl
theorem bindC_out {kindOf : Str → Option NameKind} {x : Str} : ∀ {binds : List (Str × Value)} {m : Str → Option Value}, (∀ v, (x, v) ∉ binds) → bindC kindOf binds m x = m x
  | [], _, _ => rfl
  | (n, v) :: r, m, h => by
    unfold bindC
    rw [bindC_out fun w hw => h w (List.mem_cons_of_mem _ hw)]
    split
    · rfl
    · have : x ≠ n := by rintro rfl; exact h v List.mem_cons_self
      simp [this]
theorem bindL_get {kindOf : Str → Option NameKind} {x : Str} {v : Value} : ∀ {P : List Str} {vs : List Value} {i : Nat} {m : Str → Option Value}, P.Nodup → P[i]? = some x → vs[i]? = some v → kindOf x = some .local →
    bindL kindOf (P.zip vs) m x = some v
  | [], _, _, _, _, h, _, _ => by simp at h
  | _ :: _, [], _, _, _, _, h, _ => by simp at h
  | p :: P, w :: vs, 0, m, nd, h1, h2, hk => by
    simp at h1 h2; subst h1; subst h2
    show bindL kindOf ((p, w) :: P.zip vs) m p = _
    unfold bindL
    rw [bindL_out fun v hv => (List.nodup_cons.mp nd).1 (List.of_mem_zip hv).1, if_pos hk]
    simp
  | p :: P, w :: vs, i + 1, m, nd, h1, h2, hk => by
    show bindL kindOf ((p, w) :: P.zip vs) m x = _
    unfold bindL
    exact bindL_get (i := i) (List.nodup_cons.mp nd).2 (by simpa using h1) (by simpa using h2) hk
theorem bindC_get {kindOf : Str → Option NameKind} {x : Str} {v : Value} : ∀ {P : List Str} {vs : List Value} {i : Nat} {m : Str → Option Value}, P.Nodup → P[i]? = some x → vs[i]? = some v → kindOf x ≠ some .local →
    bindC kindOf (P.zip vs) m x = some v
  | [], _, _, _, _, h, _, _ => by simp at h
  | _ :: _, [], _, _, _, _, h, _ => by simp at h
  | p :: P, w :: vs, 0, m, nd, h1, h2, hk => by
    simp at h1 h2; subst h1; subst h2
    show bindC kindOf ((p, w) :: P.zip vs) m p = _
    unfold bindC
    rw [bindC_out fun v hv => (List.nodup_cons.mp nd).1 (List.of_mem_zip hv).1, if_neg hk]
    simp
  | p :: P, w :: vs, i + 1, m, nd, h1, h2, hk => by
    show bindC kindOf ((p, w) :: P.zip vs) m x = _
    unfold bindC
    exact bindC_get (i := i) (List.nodup_cons.mp nd).2 (by simpa using h1) (by simpa using h2) hk

/-- the names' values at the entry -/
def start (N : List Str) (vs : List V) : St := vs.map some ++ List.replicate (N.length - vs.length) none

/-- the context of a def's body, at its entry; an exception leaves the frame, then lies as CX says -/
def cxOf (CX : CXT) (P : Program) (w : World) (K : PySem.W.Frag) (mg : Str → Option Value) (base : Heap) (N : List Str) (qual : Str) (scope : Scope) (f : Addr) (cd : Value) (A : Around) (outer : List Env) (s : Shared) (H : Hp) (E : XK) : Cx where
  prog := P
  w := w
  K := K
  mg := mg
  base := base
  A := A.deeper (envOfC qual scope s.heap.objs.size f cd)
  N := N
  s_0 := s
  H_0 := H
  env := envOfC qual scope s.heap.objs.size f cd
  outer := outer
  stack := envOfC qual scope s.heap.objs.size f cd :: outer
  ex := []
  calm := true
  fn := fun _ => true
  pn := []
  xe := fun e s' => wpAny (model P w) (A.deeper (envOfC qual scope s.heap.objs.size f cd)) (leaving (envOfC qual scope s.heap.objs.size f cd) e) (fun _ s'' => CX outer H s E e s'') (fun e' s'' => CX outer H s E e' s'') s'

theorem cell_has {sc : Scope} {n : Nat} {x : Str} (h : sc.names.lookup x = some .cell) : ∃ c, (cellsFrom n sc.names []).lookup x = some c := by
  have q := PySem.W.cellsFrom_some sc.names n [] (.inl h)
  exact Option.isSome_iff_exists.mp q

theorem inv_start {CX : CXT} {P : Program} {w : World} {K : PySem.W.Frag} {mg : Str → Option Value} {base : Heap} {N ps : List Str} {qual : Str} {scope : Scope} {f : Addr} {cd : Value} {A : Around} {outer : List Env} {s s1 : Shared} {H : Hp} {E : XK} {us : List Value} {vs : List V}
    (S : FnScope N ps scope) (hd : A.handled = none) (e0 : Env0 P w K mg base A outer s H) (hl : vs.length = ps.length) (r : Vals vs us)
    (x : InCallC s s.heap.objs.size (bindL (envOfC qual scope s.heap.objs.size f cd).kindOf (ps.zip us) fun _ => none) (cellsFrom (s.heap.objs.size + 1) scope.names []) (bindC (envOfC qual scope s.heap.objs.size f cd).kindOf (ps.zip us) fun _ => none) s1) :
    Inv (cxOf CX P w K mg base N qual scope f cd A outer s H E) [] (start N vs) H s1 := by
  have hpl : ps.length ≤ N.length := by have := congrArg List.length S.pre; rw [List.length_take] at this; omega
  obtain ⟨h1, tk, rfl, hk⟩ := x.done
  have noA : ∀ b : Addr, b ∉ (cxOf CX P w K mg base N qual scope f cd A outer s H E).ex := fun b z => absurd (show b ∈ ([] : List Addr) from z) (by simp)
  refine ⟨⟨e0.mod, S.kind, rfl, rfl, Nat.le_refl _, fun y z c h1 h2 => ?_, fun y hy => ?_, fun y c _ h => ?_, fun _ => hd, Around.frames_deeper e0.frames, .inr ⟨rfl, rfl⟩, fun b z => absurd z (noA b), e0.bs, e0.bsz, fun b _ _ => noA b, fun b z => absurd z (noA b), e0.funs, e0.frf⟩,
    rfl, e0.bare, Un.kept hk, ⟨_, x.toInCall.ns, fun i y v h1 h2 h3 => ?_⟩, fun y c h => ⟨_, x.cell y c h⟩, e0.hok.fresh (Nat.le_refl _), fun y c h => ?_, fun p hp => absurd (show p ∈ ([] : List (Addr × Obj)) from hp) (by simp), e0.hok.kept hk, ?_⟩
  · exact name_of_addr x.apart (PySem.mem_of_lookup h1) (PySem.mem_of_lookup h2)
  · have hy : scope.names.lookup y = some .cell ∨ scope.names.lookup y = some .free := hy
    rcases hy with hy | hy
    · exact cell_has hy
    · exact absurd rfl (S.nofree _ (PySem.mem_of_lookup hy))
  · exact Nat.le_of_lt (x.above y c (PySem.mem_of_lookup h))
  · have hi : i < vs.length := by
      unfold start at h2
      by_cases hi : i < vs.length
      · exact hi
      · rw [List.getElem?_append_right (by simpa using hi)] at h2
        rw [List.getElem?_replicate] at h2
        split at h2 <;> cases h2
    have ha : vs[i]? = some v := by
      unfold start at h2
      rw [List.getElem?_append_left (by simpa using hi), List.getElem?_map] at h2
      cases e : vs[i]? with
      | none => rw [e] at h2; cases h2
      | some a => rw [e] at h2; cases h2; rfl
    obtain ⟨u, hu, rv⟩ := r.get ha
    have hp : ps[i]? = some y := by
      rw [← S.pre, List.getElem?_take_of_lt (by omega)]; exact h1
    have ndP : ps.Nodup := by rw [← S.pre]; exact S.nd.sublist (List.take_sublist _ _)
    refine ⟨u, rv, ?_⟩
    rcases S.par y (List.mem_of_getElem? hp) with k | k
    · exact .inl ⟨k, bindL_get ndP hp hu k⟩
    · obtain ⟨c, e⟩ := cell_has (n := s.heap.objs.size + 1) k
      refine .inr ⟨.inl k, c, e, ?_⟩
      have q := x.cell y c e
      rw [bindC_get ndP hp hu (by show scope.names.lookup y ≠ _; rw [k]; decide)] at q
      exact q
  · exact e0.hok.fresh (Nat.le_of_lt (x.above y c (PySem.mem_of_lookup h)))
  · unfold start
    show _ = N.length
    rw [List.length_append, List.length_map, List.length_replicate]
    omega

/-- THE RULE: a def (or a method) of the text, by its body. The body's reading t is chosen for each entry; it is run at the parameters' values -/
theorem fn_of {CX : CXT} {P : Program} {w : World} {K : PySem.W.Frag} {mg : Str → Option Value} {base : Heap} {k : Nat} {f : Addr} {name qual : Str} {params : Arguments} {body : List Stmt} {scope : Scope} {dV kV doc pm cdv ct oc : Value} {an od : Option Addr}
    {osl : Array (Option Value)} {N ps : List Str} {sp : Sp} (lk : K.lookup f = some ⟨oc, od, .func (PySem.W.fnOf name qual params body scope dV kV doc pm an cdv ct), osl⟩) (hcd : PySem.W.codeIn K cdv qual = true) (S : FnScope N ps scope)
    (len : ∀ vs H Q E, sp vs H Q E → vs.length = ps.length)
    (hbody : ∀ (A : Around) (outer : List Env) (s : Shared) (H : Hp) (vs : List V) (Q : VK) (E : XK), Room k (A.deeper (envOfC qual scope s.heap.objs.size f cdv)) → sp vs H Q E →
      ∃ t, PSs (cxOf CX P w K mg base N qual scope f cdv A outer s H E) body t ∧ t { nx := fun _ H' => Q .non H', rt := Q } (start N vs) H) :
    FnOk P w K mg base CX (k + 1) f (PySem.W.fnOf name qual params body scope dV kV doc pm an cdv ct) ps sp := by
  refine ⟨len, fun A outer s H args us vs Q E hr e0 hb r hsp => ?_⟩
  have hl := len _ _ _ _ hsp
  have KX : K.In s.heap := e0.mod.kin.keeps fun b o e => (e0.bs b o e).1
  have lim : s.heap.NoLimit := e0.mod.nolimit.keeps fun b o e => (e0.bs b o e).1
  have hkind : ∀ y ∈ ps.zip us, scope.names.lookup y.1 = some .local ∨ (scope.names.lookup y.1 = some .cell ∧ ((cellsFrom (s.heap.objs.size + 1) scope.names []).lookup y.1).isSome = true) := fun ⟨n, v⟩ hy => by
    rcases S.par n (List.of_mem_zip hy).1 with q | q
    · exact .inl q
    · exact .inr ⟨q, PySem.W.cellsFrom_some _ _ _ (.inl q)⟩
  refine codeAny_call_function hr.depth (KX _ _ lk) rfl S.co S.gen rfl (PySem.W.codeRec_of KX hcd) (hb _ _ _ _ ?_)
  refine wpAny_newFunctionEnv_cells S.kind hkind fun env he s1 x => ?_
  subst he
  refine ⟨lim.keeps x.toInCall.keep, codeAny_func ?_⟩
  obtain ⟨t, ht, hq⟩ := hbody A outer s H vs Q E (hr.deeper _) hsp
  have I : Inv (cxOf CX P w K mg base N qual scope f cdv A outer s H E) [] (start N vs) H s1 := inv_start S hr.hd e0 hl r x
  refine wpAny_mono (ht [] s1 (start N vs) H _ I hq) (fun fl s' hs => ?_) fun e s' hs => hs
  have fin : ∀ {σ' : St} {H' : Hp} {v : V} {u : Value}, Inv (cxOf CX P w K mg base N qual scope f cdv A outer s H E) [] σ' H' s' → RelV v u → Q v H' → CE outer P w H s Q u s' :=
    fun {σ' H' v u} J rv q => ⟨v, H', J.os, J.bare, J.base, J.hok, rv, q⟩
  cases fl with
  | ret u =>
    obtain ⟨v, σ', H', J, rv, q⟩ := hs
    exact fin J rv q
  | next =>
    obtain ⟨σ', H', J, q⟩ := hs
    exact fin (v := V.non) (u := Value.none) J rfl q
  | brk =>
    obtain ⟨_, _, _, q⟩ := hs
    exact False.elim q
  | cont =>
    obtain ⟨_, _, _, q⟩ := hs
    exact False.elim q
end L2

namespace L2
open PySem PySem.Spec PyProof.Rows
section
variable {X : Cx} {x : Str} {p pos : Pos} {e : Expr} {es : List Expr} {t : TA} {id T : String} {r : List V → Hp → VK → Prop}

def tCB (r : List V → Hp → VK → Prop) (t : TA) : TE := fun σ H Q => t σ H fun vs H1 => r vs H1 Q
/-- f(e, ..), f a built-in function -/
theorem pe_callB (hc : CallR X (.builtin id) r) (hg : Gl X x) (hm : X.mg x = none) (hv : bootBuiltins x = some (.builtin id)) (ha : PA X (e :: es) t) (hn : x ≠ "__name__" := by decide) (hdb : (x == ("__debug__" : Str)) = false := by decide)
    (he : starEach (e :: es) X.env = (false, eval e X.env) :: starEach es X.env := by rfl) (hpl : (backTo pos (starEach es X.env)).any (·.1) = false := by rfl) : PE X (.Call (.Name x p) (e :: es) [] pos) (tCB r t) := by
  intro pins s σ H Q I h
  refine wpAny_Call_Name_kw (ld_blt I hg hm hv ?_ hn hdb)
  exact PyProof.Rows.callWith_builtin1 (thn (ha pos pins s σ H _ I h) fun us s1 ⟨vs, H1, I1, r1, q1⟩ => hc pins s1 σ H1 vs us Q I1 r1 q1) he hpl
/-- T(e, ..), T a built-in type -/
theorem pe_callTy (hc : CallR X (.type T) r) (hg : Gl X x) (hm : X.mg x = none) (hv : bootBuiltins x = some (.type T)) (ha : PA X (e :: es) t) (hn : x ≠ "__name__" := by decide) (hdb : (x == ("__debug__" : Str)) = false := by decide)
    (he : starEach (e :: es) X.env = (false, eval e X.env) :: starEach es X.env := by rfl) (hpl : (backTo pos (starEach es X.env)).any (·.1) = false := by rfl) : PE X (.Call (.Name x p) (e :: es) [] pos) (tCB r t) := by
  intro pins s σ H Q I h
  refine wpAny_Call_Name_kw (ld_blt I hg hm hv ?_ hn hdb)
  exact PyProof.Rows.callWith_type1 (thn (ha pos pins s σ H _ I h) fun us s1 ⟨vs, H1, I1, r1, q1⟩ => hc pins s1 σ H1 vs us Q I1 r1 q1) he hpl
end
end L2

namespace HT
open PySem PyProof.Rows

/-- t < u of tuples of ints -/
def lexLt : List Int → List Int → Bool
  | [], [] => false
  | [], _ :: _ => true
  | _ :: _, [] => false
  | x :: xs, y :: ys => if x = y then lexLt xs ys else decide (x < y)
section
open PySem.SeqAt
open PySem.AutoSeq1 (wpAny_loadPart')
open PySem.MeetsSeq PySem.MeetsSeq2 PySem.MeetsSeq3

end

section
variable {prog : Program} {w : World} {A : Around} {E : Value → Shared → Prop} {s : Shared}

/-! ### t[a:b], not the whole -/
/-- a slice's bound as a place among n (d where it is left out) -/
def sIx (n d : Nat) : Option Int → Nat
  | none => d
  | some v => if v < 0 then (v + (n : Int)).toNat else min v.toNat n
theorem sIx_none (n d : Nat) : sIx n d none = d := rfl
theorem sIx_nat (n d k : Nat) : sIx n d (some (k : Int)) = min k n := by
  show (if (k : Int) < 0 then ((k : Int) + (n : Int)).toNat else min (k : Int).toNat n) = min k n
  rw [if_neg (by omega), Int.toNat_natCast]
theorem sIx_le (n d : Nat) (hd : d ≤ n) (o : Option Int) : sIx n d o ≤ n := by
  cases o with
  | none => exact hd
  | some v =>
    show (if v < 0 then (v + (n : Int)).toNat else min v.toNat n) ≤ n
    by_cases hv : v < 0
    · rw [if_pos hv]; omega
    · rw [if_neg hv]; exact Nat.min_le_right _ _
end
end HT

namespace L2
open PySem PySem.Spec PyProof.Rows

/-! ### the parts of a slice -/
abbrev TO := St → Hp → (Option Int → Hp → Prop) → Prop
/-- a slice's part (left out, or an int) -/
def PO (X : Cx) (e : Option Expr) (t : TO) : Prop :=
  ∀ (pins : List (Addr × Obj)) (s : Shared) (σ : St) (H : Hp) (Q : Option Int → Hp → Prop), Inv X pins σ H s → t σ H Q →
    wpAny (model X.prog X.w) X.A (evalPart e X.env) (fun u s' => ∃ o H', Inv X pins σ H' s' ∧ IsPart u o ∧ Q o H') X.xe s
def tNoPart : TO := fun _ H Q => Q none H
def tPart (t : TE) : TO := fun σ H Q => t σ H fun x H1 => ∃ i, x = .int i ∧ Q (some i) H1

section
variable {X : Cx} {e : Expr} {te : TE} {lo hi : Option Expr} {tl th : TO} {pos p2 : Pos}

theorem po_none : PO X none tNoPart := by
  intro pins s σ H Q I h
  rw [evalPart_none]
  exact wpAny_pure ⟨none, H, I, .none, h⟩
theorem po_some (h : PE X e te) : PO X (some e) (tPart te) := by
  intro pins s σ H Q I hw
  rw [evalPart_some]
  refine thn (h pins s σ H _ I hw) fun u s1 ⟨x, H1, I1, r1, q1⟩ => ?_
  obtain ⟨i, rfl, q⟩ := q1
  obtain ⟨t, rfl⟩ := r1
  exact ⟨some i, H1, I1, .int i t, q⟩

/-- what a slice of a value is, by values: the slice object stands at sl -/
def SlR (X : Cx) (r : V → Option Int → Option Int → Hp → VK → Prop) : Prop :=
  ∀ (pins : List (Addr × Obj)) (s : Shared) (σ : St) (H : Hp) (x : V) (v vl vu : Value) (lo hi : Option Int) (sl : Addr) (Q : VK), Inv X pins σ H s → RelV x v → s.heap.IsSliceOf sl vl vu .none → IsPart vl lo → IsPart vu hi → r x lo hi H Q →
    ∃ T id, typeLookup (.type T) "__getitem__" = pure (some (.builtin id)) ∧ s.TypeIs v T ∧ wpAny (model X.prog X.w) X.A (getItem v (.ref sl)) (EP X pins σ Q) X.xe s
def tSl (r : V → Option Int → Option Int → Hp → VK → Prop) (te : TE) (tl th : TO) : TE := fun σ H Q => te σ H fun x H1 => tl σ H1 fun l H2 => th σ H2 fun u H3 => r x l u H3 Q
/-- a[lo:hi], any a -/
theorem pe_slice {r : V → Option Int → Option Int → Hp → VK → Prop} (hr : SlR X r) (he : PE X e te) (hl : PO X lo tl) (hu : PO X hi th) : PE X (.Subscript e (.Slice lo hi none p2) pos) (tSl r te tl th) := by
  intro pins s σ H Q I h
  refine Subscript_ (thn (he pins s σ H _ I h) fun v s1 ⟨x, H1, I1, r1, q1⟩ => ?_)
  refine wpAny_Slice (thn (hl pins s1 σ H1 _ I1 q1) fun vl s2 ⟨l, H2, I2, pl, q2⟩ => thn (hu pins s2 σ H2 _ I2 q2) fun vu s3 ⟨u, H3, I3, pu, q3⟩ => ?_)
  rw [evalPart_none]
  refine wpAny_pure ?_
  have I4 : Inv X pins σ H3 { s3 with heap := s3.heap.push { cls := .type "slice", data := .fields #[vl, vu, .none] } } := I3.kept (t' := s3.toks) fun b ob q => Heap.get?_push_of_some _ q
  obtain ⟨T, id, hT, ht, hg⟩ := hr pins { s3 with heap := s3.heap.push { cls := .type "slice", data := .fields #[vl, vu, .none] } } σ H3 x v vl vu l u s3.heap.objs.size Q I4 r1 (Heap.IsSliceOf.new ..) pl pu q3
  show wpAny (model X.prog X.w) X.A (subscriptTail e (.Slice lo hi none p2) v (.ref s3.heap.objs.size)) (EP X pins σ Q) X.xe { s3 with heap := s3.heap.push { cls := .type "slice", data := .fields #[vl, vu, .none] } }
  exact tail_any (ops := [.ref s3.heap.objs.size, v]) ht hT hg (by with_unfolding_all rfl)

/-- the items of xs[lo:hi] -/
def cutV (xs : List V) (lo hi : Option Int) : List V := (xs.drop (HT.sIx xs.length 0 lo)).take (HT.sIx xs.length xs.length hi - HT.sIx xs.length 0 lo)
theorem cutV_length (xs : List V) (lo hi : Option Int) : (cutV xs lo hi).length ≤ xs.length := by
  unfold cutV
  rw [List.length_take, List.length_drop]
  omega
/-- t[lo:hi], not the whole of it (the whole would be t itself) -/
def rSlT (K : PySem.W.Frag) : V → Option Int → Option Int → Hp → VK → Prop := fun x lo hi H Q => ∃ a xs, x = .ref a ∧ SqT K H a xs ∧
  ¬ (HT.sIx xs.length 0 lo = 0 ∧ HT.sIx xs.length xs.length hi = xs.length) ∧ ∀ p, H p = none → Q (.ref p) (upd H p (.tup (cutV xs lo hi)))
/-! ### t < u, t + u -/
def rLtT (K : PySem.W.Frag) : R2 := fun x y H Q => ∃ a b ns ms, x = .ref a ∧ y = .ref b ∧ SqT K H a (ns.map V.int) ∧ SqT K H b (ms.map V.int) ∧ Q (.bl (HT.lexLt ns ms)) H
/-- t + u, t not empty: u empty gives t itself -/
def rCatT (K : PySem.W.Frag) : R2 := fun x y H Q => ∃ a b xs ys, x = .ref a ∧ y = .ref b ∧ SqT K H a xs ∧ SqT K H b ys ∧ xs ≠ [] ∧ xs.length + ys.length ≤ sizeLine ∧
  (ys = [] → Q (.ref a) H) ∧ (ys ≠ [] → ∀ p, H p = none → Q (.ref p) (upd H p (.tup (xs ++ ys))))
end
end L2

namespace L2
open PySem PySem.Spec PyProof.Rows

/-! ### places -/
/-- the place that an index of any sign means -/
def ixN (n : Nat) (i : Int) : Option Nat := if 0 ≤ i then (if i < n then some i.toNat else none) else if -(n : Int) ≤ i then some (i + n).toNat else none
def atI {α : Type} (xs : List α) (i : Int) : Option α := (ixN xs.length i).bind fun j => xs[j]?
theorem ixN_seq {n : Nat} {i : Int} {j : Nat} (h : ixN n i = some j) : seqIndex? i n = some j ∧ j < n ∧ -(n : Int) ≤ i ∧ i < n := by
  unfold ixN at h
  by_cases h0 : 0 ≤ i
  · rw [if_pos h0] at h
    by_cases h1 : i < n
    · rw [if_pos h1] at h
      have e : i.toNat = j := Option.some.inj h
      exact ⟨by rw [seqIndex_of h0 h1, e], by omega, by omega, h1⟩
    · rw [if_neg h1] at h; cases h
  · rw [if_neg h0] at h
    by_cases h1 : -(n : Int) ≤ i
    · rw [if_pos h1] at h
      have e : (i + n).toNat = j := Option.some.inj h
      exact ⟨by rw [seqIndex_neg (by omega) h1, e], by omega, h1, by omega⟩
    · rw [if_neg h1] at h; cases h
theorem atI_get {α : Type} {xs : List α} {i : Int} {v : α} (h : atI xs i = some v) : ∃ j, seqIndex? i xs.length = some j ∧ xs[j]? = some v ∧ j < xs.length ∧ -(xs.length : Int) ≤ i ∧ i < xs.length := by
  unfold atI at h
  cases e : ixN xs.length i with
  | none => rw [e] at h; cases h
  | some j =>
    rw [e] at h
    obtain ⟨h1, h2, h3, h4⟩ := ixN_seq e
    exact ⟨j, h1, h, h2, h3, h4⟩
theorem atI_nat {α : Type} {xs : List α} {j : Nat} {v : α} (h : xs[j]? = some v) : atI xs (j : Int) = some v := by
  have hj : j < xs.length := (List.getElem?_eq_some_iff.mp h).1
  have e : ixN xs.length (j : Int) = some j := by
    unfold ixN
    rw [if_pos (by omega), if_pos (by omega)]; simp
  unfold atI; rw [e]; exact h
theorem atI_last {α : Type} (xs : List α) (v : α) : atI (xs ++ [v]) (-1) = some v := by
  have hl : (xs ++ [v]).length = xs.length + 1 := by simp
  have e : ixN (xs ++ [v]).length (-1) = some xs.length := by
    unfold ixN
    rw [hl, if_neg (by decide), if_pos (by omega)]
    congr 1
    omega
  unfold atI
  rw [e]
  show (xs ++ [v])[xs.length]? = some v
  simp

/-! ### what may be subscripted -/
/-- what stands as an index of a plain subscript -/
def PlainIx (b : Expr) : Prop := ∀ o i, subscripted b false o i = operate [o, i] (getItem o i)
/-- a subscript by values -/
def IxR (X : Cx) (r : R2) : Prop :=
  ∀ (value slice : Expr) (pins : List (Addr × Obj)) (s : Shared) (σ : St) (H : Hp) (x y : V) (v u : Value) (Q : VK), Inv X pins σ H s → RelV x v → RelV y u → r x y H Q →
    subscripted slice false v u = operate [v, u] (getItem v u) → wpAny (model X.prog X.w) X.A (subscriptTail value slice v u) (EP X pins σ Q) X.xe s
/-- a call of a builtin's method by values: the receiver, the arguments -/
def MtR (X : Cx) (id : String) (r : V → List V → Hp → VK → Prop) : Prop :=
  ∀ (pins : List (Addr × Obj)) (s : Shared) (σ : St) (H : Hp) (x : V) (xs : List V) (v : Value) (us : List Value) (Q : VK), Inv X pins σ H s → RelV x v → Vals xs us → r x xs H Q →
    wpAny (model X.prog X.w) X.A (call (.builtin id) (v :: us)) (EP X pins σ Q) X.xe s
section
variable {X : Cx} {a b : Expr} {ta tb : TE} {pos : Pos}
/-- a[b] -/
theorem pe_ix {r : R2} (hr : IxR X r) (ha : PE X a ta) (hb : PE X b tb) (hs : PlainIx b) : PE X (.Subscript a b pos) (tOp r ta tb) := by
  intro pins s σ H Q I h
  exact Subscript_ (binT ha hb I h fun v u s2 x y H2 I2 rx ry q => hr a b pins s2 σ H2 x y v u Q I2 rx ry q (hs _ _))

def rIxL (K : PySem.W.Frag) : R2 := fun x y H Q => ∃ p xs i v, x = .ref p ∧ y = .int i ∧ SqL K H p xs ∧ atI xs i = some v ∧ Q v H
def rIxT (K : PySem.W.Frag) : R2 := fun x y H Q => ∃ p xs i v, x = .ref p ∧ y = .int i ∧ SqT K H p xs ∧ atI xs i = some v ∧ Q v H
def rIxS : R2 := fun x y H Q => ∃ z i c, x = .str z ∧ y = .int i ∧ z.length ≤ sizeLine ∧ atI z.cps.toList i = some c ∧ Q (.str ⟨#[c]⟩) H
theorem ix_list : IxR X (rIxL X.K) := by
  intro value slice pins s σ H x y v u Q I rx ry h hs
  obtain ⟨p, xs, i, z, rfl, rfl, hq, he, q⟩ := h
  cases rx
  obtain ⟨t, rfl⟩ := ry
  obtain ⟨its, r, pl, hz⟩ := I.list hq
  obtain ⟨j, h1, h2, h3, h4, h5⟩ := atI_get he
  obtain ⟨w, ew, rw'⟩ := r.get h2
  have hl := r.length
  have hn := line63
  have fin : EP X pins σ Q w s := ⟨z, H, I, rw', q⟩
  by_cases h0 : 0 ≤ i
  · have hj : i.toNat = j := by
      rw [seqIndex_of h0 h5] at h1
      exact Option.some.inj h1
    exact item_listR pl.isList h0 (by omega) (by rw [hj]; simpa using ew) fin hs
  · have hj : (i + (its.toArray.size : Int)).toNat = j := by
      rw [seqIndex_neg (by omega) h4] at h1
      rw [List.size_toArray, ← hl]
      exact Option.some.inj h1
    exact subscriptTail_builtinR (x := w) pl.isList.typeIs slot_list_getitem.lookup
      (wpAny_getItem_list_neg (Q := fun r s' => r = w ∧ EP X pins σ Q r s') pl.isList (by omega) (by rw [List.size_toArray] <;> omega) (by omega) (by rw [hj]; simpa using ew) ⟨rfl, fin⟩) hs
theorem ix_tup : IxR X (rIxT X.K) := by
  intro value slice pins s σ H x y v u Q I rx ry h hs
  obtain ⟨p, xs, i, z, rfl, rfl, hq, he, q⟩ := h
  cases rx
  obtain ⟨t, rfl⟩ := ry
  obtain ⟨its, r, pl, hz⟩ := I.tuple hq
  obtain ⟨j, h1, h2, h3, h4, h5⟩ := atI_get he
  obtain ⟨w, ew, rw'⟩ := r.get h2
  have hl := r.length
  have hn := line63
  have fin : EP X pins σ Q w s := ⟨z, H, I, rw', q⟩
  exact subscriptTail_builtinR (x := w) pl.typeIs slot_tuple_getitem.lookup
    (getItem_tuple (j := j) (Q := fun r s' => r = w ∧ EP X pins σ Q r s') pl (by omega) (by omega) (by rw [List.size_toArray, ← hl]; exact h1) (by simpa using ew) ⟨rfl, fin⟩) hs
theorem ix_str : IxR X rIxS := by
  intro value slice pins s σ H x y v u Q I rx ry h hs
  obtain ⟨z, i, c, rfl, rfl, hz, he, q⟩ := h
  obtain ⟨t, rfl⟩ := rx
  obtain ⟨t', rfl⟩ := ry
  obtain ⟨j, h1, h2, h3, h4, h5⟩ := atI_get he
  have hl : z.cps.toList.length = z.length := by simp [Str.length]
  rw [hl] at h1 h4 h5
  have hn := line63
  exact tail_any (typeIs_str s z t) slot_str_getitem.lookup (getItem_str (c := c) (by
    have e1 : decide (i < -(2 ^ 63 : Int)) = false := decide_eq_false (by omega)
    have e2 : decide (i ≥ 2 ^ 63) = false := decide_eq_false (by omega)
    rw [e1, e2, Bool.or_false]) (by rw [h1]; simpa using h2) ⟨.str ⟨#[c]⟩, H, I.tok _, ⟨_, rfl⟩, q⟩) hs
/-- list, tuple or str -/
def rIx (K : PySem.W.Frag) : R2 := fun x y H Q => rIxL K x y H Q ∨ rIxT K x y H Q ∨ rIxS x y H Q
/-! ### xs[i] = v, any sign -/
/-- the list's object behind a store -/
theorem mapSeq_set (its : List Value) (n j : Nat) (u : Value) : Obj.mapSeq (·.setIfInBounds j u) { cls := .type "list", data := .seq its.toArray n } = { cls := .type "list", data := .seq (its.set j u).toArray n } := by
  simp [Obj.mapSeq]
theorem Inv.lst {pins : List (Addr × Obj)} {σ : St} {H : Hp} {s : Shared} {p : Addr} {xs : List V} (I : Inv X pins σ H s) (h : H p = some (.lst xs)) :
    ∃ (its : List Value) (n : Nat), Vals xs its ∧ s.heap.get? p = some { cls := .type "list", data := .seq its.toArray n } ∧ xs.length ≤ sizeLine := by
  obtain ⟨z, its, n, r, e⟩ := I.hok p _ h
  exact ⟨its, n, r, e, z⟩
/-- the list at p is written by an update of its object -/
theorem Inv.lstUpd {pins : List (Addr × Obj)} {σ : St} {H : Hp} {s : Shared} {p : Addr} {xs ys : List V} {its its' : List Value} {n n' : Nat} {f : Obj → Obj} (I : Inv X pins σ H s) (h : H p = some (.lst xs))
    (ho : s.heap.get? p = some { cls := .type "list", data := .seq its.toArray n }) (hf : f { cls := .type "list", data := .seq its.toArray n } = { cls := .type "list", data := .seq its'.toArray n' }) (r : Vals ys its') (hz : ys.length ≤ sizeLine) (t : Nat) :
    Inv X pins σ (upd H p (.lst ys)) { s with heap := s.heap.update p f, toks := t } := by
  have e : (s.heap.update p f).get? p = some { cls := .type "list", data := .seq its'.toArray n' } := by
    rw [Heap.get?_update_self f ho (by rw [hf] <;> rfl), hf]
  refine I.write (x := p) (e := p) (by rw [h]; trivial) (.inl rfl) (fun b u hb q => (Heap.get?_update_other _ _ (Ne.symm hb)).trans q) ⟨_, e⟩ ?_
  exact ⟨hz, its', n', r, e⟩
def rSetL : V → V → V → Hp → (Hp → Prop) → Prop := fun o i v H Q => ∃ p xs k j, o = .ref p ∧ i = .int k ∧ H p = some (.lst xs) ∧ ixN xs.length k = some j ∧ Q (upd H p (.lst (xs.set j v)))
theorem set_list : PSet X rSetL := by
  intro pins s σ H o i v ov iv u Q I ro ri rv h
  obtain ⟨p, xs, k, j, rfl, rfl, hp, hj, q⟩ := h
  cases ro
  obtain ⟨t, rfl⟩ := ri
  obtain ⟨its, n, r, ho, hz⟩ := I.lst hp
  obtain ⟨h1, h2, h3, h4⟩ := ixN_seq hj
  have hl := r.length
  have hn := line63
  have I' : Inv X pins σ (upd H p (.lst (xs.set j v))) { s with heap := s.heap.update p (Obj.mapSeq (·.setIfInBounds j u)) } :=
    I.lstUpd hp ho (mapSeq_set its n j u) (r.set rv j) (by rw [List.length_set]; exact hz) s.toks
  by_cases h0 : 0 ≤ k
  · have hk : k.toNat = j := by
      rw [seqIndex_of h0 h4] at h1
      exact Option.some.inj h1
    exact PySem.W.ki_setAt ho h0 (by omega) (by rw [List.size_toArray, ← hl]; exact h4) (by rw [hk]; exact ⟨_, I', q⟩)
  · have hk : (k + (its.toArray.size : Int)).toNat = j := by
      rw [seqIndex_neg (by omega) h3] at h1
      rw [List.size_toArray, ← hl]
      exact Option.some.inj h1
    exact PySem.W.ki_setBack ho (by omega) (by rw [List.size_toArray, ← hl]; exact h3) (by omega) (by rw [hk]; exact ⟨_, I', q⟩)

/-! ### slices -/
theorem slice_bounds (lo hi : Option Int) (n : Nat) : (sliceBounds lo hi none n).1 = ((HT.sIx n 0 lo : Nat) : Int) ∧ (sliceBounds lo hi none n).2.1 = ((HT.sIx n n hi : Nat) : Int) ∧ (sliceBounds lo hi none n).2.2 = 1 := by
  refine ⟨?_, ?_, rfl⟩
  · cases lo with
    | none => simp [sliceBounds, HT.sIx]
    | some i =>
      simp only [sliceBounds, HT.sIx, Option.getD_none, show (1 : Int) > 0 by decide, if_true]
      by_cases h : i < 0
      · simp only [h, if_true] <;> omega
      · simp only [h, if_false] <;> omega
  · cases hi with
    | none => simp [sliceBounds, HT.sIx]
    | some i =>
      simp only [sliceBounds, HT.sIx, Option.getD_none, show (1 : Int) > 0 by decide, if_true]
      by_cases h : i < 0
      · simp only [h, if_true] <;> omega
      · simp only [h, if_false] <;> omega
theorem slicePick_cut (its : List Value) (lo hi : Option Int) : slicePick its.toArray lo hi none = ((its.drop (HT.sIx its.length 0 lo)).take (HT.sIx its.length its.length hi - HT.sIx its.length 0 lo)).toArray := by
  obtain ⟨h1, h2, h3⟩ := slice_bounds lo hi its.toArray.size
  unfold slicePick
  rw [h1, h2, h3]
  simp only [sliceRange_one, pick_run, List.size_toArray] <;> rfl
/-- xs[lo:hi] of a list: a new list -/
def rSlL (K : PySem.W.Frag) : V → Option Int → Option Int → Hp → VK → Prop := fun x lo hi H Q => ∃ a xs, x = .ref a ∧ SqL K H a xs ∧ ∀ p, H p = none → Q (.ref p) (upd H p (.lst (cutV xs lo hi)))
theorem sl_list : SlR X (rSlL X.K) := by
  intro pins s σ H x v vl vu lo hi sl Q I rx hs pl pu h
  obtain ⟨a, xs, rfl, hx, q⟩ := h
  cases rx
  obtain ⟨its, r, ht, hz⟩ := I.list hx
  have hlen := r.length
  refine ⟨"list", _, slot_list_getitem.lookup, ht.isList.typeIs, ?_⟩
  refine wpAny_getItem_list_slice ht.isList hs pl pu .none (by simp) ?_ (by rw [List.size_toArray] <;> omega)
  rw [slicePick_cut, ← hlen]
  refine ⟨.ref s.heap.objs.size, _, I.laid (t' := s.toks) (o := .lst (cutV xs lo hi)) (fun b ob q => Heap.get?_push_of_some _ q) (Nat.le_refl _) ?_, rfl, q _ (I.hok.fresh (Nat.le_refl _))⟩
  exact ⟨Nat.le_trans (cutV_length xs lo hi) hz, _, 0, (r.drop (HT.sIx xs.length 0 lo)).take (HT.sIx xs.length xs.length hi - HT.sIx xs.length 0 lo), Heap.get?_push_size _ rfl⟩

/-! ### in, not in: flat items -/
def flatV : V → Bool
  | .non => true
  | .bl _ => true
  | .int _ => true
  | .str _ => true
  | _ => false
/-- == of flat values -/
def eqV : V → V → Bool
  | .non, .non => true
  | .bl a, .bl b => a == b
  | .bl a, .int b => (if a then 1 else 0) == b
  | .int a, .bl b => a == (if b then 1 else 0)
  | .int a, .int b => a == b
  | .str a, .str b => a == b
  | _, _ => false
/-- the items' answers, read off the values (a value's own answer does not lean on its token) -/
def eqU (x : V) (u : Value) : Bool := match u with
  | .none => eqV .non x
  | .bool b => eqV (.bl b) x
  | .int i _ => eqV (.int i) x
  | .str z _ => eqV (.str z) x
  | _ => false
def inV (x : V) (xs : List V) : Bool := xs.any fun y => eqV y x
/-- x in a list or tuple of flat items -/
def rIn (K : PySem.W.Frag) (neg : Bool) : R2 := fun x y H Q => ∃ p xs, y = .ref p ∧ (SqL K H p xs ∨ SqT K H p xs) ∧ flatV x = true ∧ xs.all flatV = true ∧ Q (.bl (if neg then !inV x xs else inV x xs)) H
/-! ### len, list(x), tuple(x) of any list or tuple that is read -/
theorem call_len_seq : CallR X (.builtin "len") (fun xs H Q => ∃ p ys, xs = [.ref p] ∧ (SqL X.K H p ys ∨ SqT X.K H p ys) ∧ Q (.int ys.length) H) := by
  intro pins s σ H xs us Q I r h
  obtain ⟨p, ys, rfl, hq, q⟩ := h
  obtain ⟨u, rfl, rx⟩ := vals1 r
  cases rx
  have hn := line63
  rcases hq with hq | hq
  · obtain ⟨its, r', pl, hz⟩ := I.list hq
    have hlen := r'.length
    exact Calls.call_len_list pl.isList (by simp only [List.size_toArray] <;> omega) ⟨.int ys.length, H, I.tok _, ⟨s.toks + 1, by rw [List.size_toArray, hlen]⟩, q⟩
  · obtain ⟨its, r', pl, hz⟩ := I.tuple hq
    have hlen := r'.length
    exact len_tuple pl (by simp only [List.size_toArray] <;> omega) ⟨.int ys.length, H, I.tok _, ⟨s.toks + 1, by rw [List.size_toArray, hlen]⟩, q⟩
theorem call_len_str : CallR X (.builtin "len") (fun xs H Q => ∃ z, xs = [.str z] ∧ z.length ≤ sizeLine ∧ Q (.int z.length) H) := by
  intro pins s σ H xs us Q I r h
  obtain ⟨z, rfl, hz, q⟩ := h
  obtain ⟨u, rfl, t, rfl⟩ := vals1 r
  have hn := line63
  exact len_str (by omega) ⟨.int z.length, H, I.tok _, ⟨_, rfl⟩, q⟩
theorem call_list_of : CallR X (.type "list") (fun xs H Q => ∃ p ys, xs = [.ref p] ∧ (SqL X.K H p ys ∨ SqT X.K H p ys) ∧ ∀ l, H l = none → Q (.ref l) (upd H l (.lst ys))) := by
  intro pins s σ H xs us Q I r h
  obtain ⟨p, ys, rfl, hq, q⟩ := h
  obtain ⟨u, rfl, rx⟩ := vals1 r
  cases rx
  have fin : ∀ (its : List Value), Vals ys its → ys.length ≤ sizeLine → ∀ (h' : Heap) (c' : Nat), (∀ b o', s.heap.get? b = some o' → h'.get? b = some o') →
      h'.get? s.heap.objs.size = some { cls := .type "list", dict := none, data := .seq its.toArray c', slots := #[] } → EP X pins σ Q (.ref s.heap.objs.size) { s with heap := h' } := fun its r' hz h' c' kp e =>
    ⟨.ref s.heap.objs.size, _, I.laid (t' := s.toks) kp (Nat.le_refl _) (show ObjOk X.prog X.w _ h' _ (.lst ys) from ⟨hz, its, c', r', e⟩), rfl, q _ (I.hok.fresh (Nat.le_refl _))⟩
  rcases hq with hq | hq
  · obtain ⟨its, r', pl, hz⟩ := I.list hq
    have hlen := r'.length
    obtain ⟨o, ho, hc, n, hd⟩ := pl.isList
    exact call_list_seq p (.inl rfl) ho hc hd (fun h' c' kp e => fin its r' hz h' c' kp e) (by simp only [List.size_toArray] <;> omega)
  · obtain ⟨its, r', pl, hz⟩ := I.tuple hq
    have hlen := r'.length
    obtain ⟨o, ho, hc, n, hd⟩ := pl
    exact call_list_seq p (.inr rfl) ho hc hd (fun h' c' kp e => fin its r' hz h' c' kp e) (by simp only [List.size_toArray] <;> omega)
/-! ### the call of a builtin's method: o.m(..) -/
/-- the value is of that builtin type -/
def tyV (K : PySem.W.Frag) (T : String) (x : V) (H : Hp) : Prop := match x with
  | .str _ => T = "str"
  | .int _ => T = "int"
  | .ref p => (T = "list" ∧ ∃ xs, SqL K H p xs) ∨ (T = "tuple" ∧ ∃ o, K.lookup p = some o ∧ o.cls = .type "tuple" ∧ o.dict = none) ∨
      (T = "dict" ∧ ((∃ kvs, H p = some (.dK kvs)) ∨ ∃ kvs, H p = some (.dT kvs))) ∨ (T = "set" ∧ ∃ S n, H p = some (.set S n))
  | _ => False
theorem tyV_is {pins : List (Addr × Obj)} {σ : St} {H : Hp} {s : Shared} {T : String} {x : V} {v : Value} (I : Inv X pins σ H s) (r : RelV x v) (ty : tyV X.K T x H) :
    s.TypeIs v T ∧ ∀ a, v = .ref a → ∃ ob, s.heap.get? a = some ob ∧ ob.dict = none := by
  cases x with
  | str z =>
    obtain ⟨t, rfl⟩ := r
    cases (show T = "str" from ty)
    exact ⟨typeIs_str s z t, fun _ e => nomatch e⟩
  | int i =>
    obtain ⟨t, rfl⟩ := r
    cases (show T = "int" from ty)
    exact ⟨typeIs_int s i t, fun _ e => nomatch e⟩
  | ref p =>
    cases r
    rcases ty with ⟨rfl, xs, hq⟩ | ⟨rfl, o, hk, hc, hd⟩ | ⟨rfl, hk⟩ | ⟨rfl, S, n, hk⟩
    · obtain ⟨its, _, pl, _⟩ := I.list hq
      refine ⟨pl.isList.typeIs, fun a e => ?_⟩
      cases e
      obtain ⟨o, n, e, c, hd, _⟩ := pl
      exact ⟨o, e, hd⟩
    · refine ⟨⟨o, I.kIn p o hk, hc⟩, fun a e => ?_⟩
      cases e
      exact ⟨o, I.kIn _ o hk, hd⟩
    · have z : ∃ o, s.heap.get? p = some o ∧ o.ExactDict := by
        rcases hk with ⟨kvs, hk⟩ | ⟨kvs, hk⟩
        · obtain ⟨_, _, _, _, o, _, _, e, ex, _⟩ := I.hok p _ hk
          exact ⟨o, e, ex⟩
        · obtain ⟨_, _, _, _, o, _, _, e, ex, _⟩ := I.hok p _ hk
          exact ⟨o, e, ex⟩
      obtain ⟨o, e, ex⟩ := z
      refine ⟨⟨o, e, ex.1⟩, fun a e2 => ?_⟩
      cases e2
      exact ⟨o, e, ex.2.1⟩
    · obtain ⟨o, _, _, _, e, ex, _⟩ := I.hok p _ hk
      refine ⟨⟨o, e, ex.1⟩, fun a e2 => ?_⟩
      cases e2
      exact ⟨o, e, ex.2.1⟩
  | _ => exact False.elim ty
def tBM0 (K : PySem.W.Frag) (T : String) (r : V → List V → Hp → VK → Prop) (to : TE) : TE := fun σ H Q => to σ H fun x H1 => tyV K T x H1 ∧ r x [] H1 Q
def tBM (K : PySem.W.Frag) (T : String) (r : V → List V → Hp → VK → Prop) (to : TE) (t : TA) : TE := fun σ H Q => to σ H fun x H1 => tyV K T x H1 ∧ t σ H1 fun xs H2 => r x xs H2 Q
variable {o e : Expr} {es : List Expr} {to : TE} {t : TA} {name : Str} {apos cpos : Pos} {T id : String} {r : V → List V → Hp → VK → Prop}
theorem pe_bm (pa : PlainAttrs T) (slot : Slot T name id) (hty : typeOf (.builtin id) = pure (.type "method_descriptor")) (hm : MtR X id r) (ho : PE X o to) (ha : PA X (e :: es) t)
    (hbase : attributeBase o name X.env (eval o X.env) = eval o X.env := by rfl)
    (hfew : ((backTo cpos (starEach (e :: es) X.env)).all (fun x => !x.1) && (backToKw cpos (keywordEach [] X.env)).all (fun x => x.1.isSome)
      && decide ((e :: es).length + ([] : List Keyword).length + (if ([] : List Keyword).isEmpty then 0 else 1) < 30)) = true := by rfl)
    (hline : (apos.endLine == cpos.line) = true := by rfl) (hs : starEach (e :: es) X.env = (false, eval e X.env) :: starEach es X.env := by rfl) (hplain : (backTo cpos (starEach es X.env)).any (·.1) = false := by rfl) :
    PE X (.Call (.Attribute o name apos) (e :: es) [] cpos) (tBM X.K T r to t) := by
  intro pins s σ H Q I h
  refine wpAny_Call_method_late hbase hfew hline rfl (thn (ho pins s σ H _ I h) fun v s1 ⟨x, H1, I1, r1, ty, q1⟩ => ?_)
  obtain ⟨h1, h2⟩ := tyV_is I1 r1 ty
  refine ⟨T, id, pa, slot, hty, h1, h2, ?_⟩
  have hA := ha cpos pins s1 σ H1 _ I1 q1
  rw [hs] at hA ⊢
  refine Calls.callWith_builtin (by show (false || (backTo cpos (starEach es X.env)).any (·.1)) = false; rw [hplain] <;> rfl) (Calls.evalArgs_plain ?_)
  exact thn hA fun us s2 ⟨vs, H2, I2, r2, q2⟩ => hm pins s2 σ H2 x vs v us Q I2 r1 r2 q2
/- xs.append(e), list.index on a module's tuple .. are MtR facts of 06m -/
end
end L2

namespace L2
open PySem PySem.Spec PyProof.Rows

def MtM (X : Cx) (id : String) (r : V → List V → Hp → VK → Prop) : Prop :=
  ∀ (pins : List (Addr × Obj)) (s : Shared) (σ : St) (H : Hp) (x : V) (xs : List V) (v : Value) (us : List Value) (Q : VK), Inv X pins σ H s → RelV x v → Vals xs us → r x xs H Q →
    wpAny (model X.prog X.w) X.A (call (.builtin id) (v :: us)) (EP X pins σ Q) X.xe s

/-! ### lists of values -/
theorem Vals.one : ∀ {x : V} {us : List Value}, Vals [x] us → ∃ u, us = [u] ∧ RelV x u
  | _, _, .cons r .nil => ⟨_, rfl, r⟩
theorem Vals.dropLast {xs : List V} {us : List Value} (h : Vals xs us) : Vals xs.dropLast us.dropLast := by
  induction h with
  | nil => exact .nil
  | cons r t ih =>
    cases t with
    | nil => exact .nil
    | cons q t' => exact .cons r ih
theorem Vals.reverse {xs : List V} {us : List Value} (h : Vals xs us) : Vals xs.reverse us.reverse := by
  induction h with
  | nil => exact .nil
  | cons r t ih => rw [List.reverse_cons, List.reverse_cons]; exact Vals.append ih (.cons r .nil)
section
variable {X : Cx} {pins : List (Addr × Obj)} {σ : St} {H : Hp} {s : Shared} {l b : Addr} {xs ys zs : List V}

/-! ### the two steps: a tracked list is rewritten, a new list is laid -/
theorem Inv.lset {its its' : List Value} {n : Nat} {f : Array Value → Array Value} {t' : Nat} (I : Inv X pins σ H s) (hH : H l = some (.lst xs))
    (e : s.heap.get? l = some { cls := .type "list", data := .seq its.toArray n }) (hf : f its.toArray = its'.toArray) (hv : Vals ys its') (hz : ys.length ≤ sizeLine) :
    Inv X pins σ (upd H l (.lst ys)) { s with heap := s.heap.update l (Obj.mapSeq f), toks := t' } := by
  have q := PySem.IsL.update e f
  rw [hf] at q
  refine I.write (x := l) (e := l) (by rw [hH]; exact trivial) (.inl rfl) (fun b' u hb hu => (Heap.get?_update_other s.heap (Obj.mapSeq f) (Ne.symm hb)).trans hu) ⟨_, q⟩ ?_
  exact ⟨hz, its', _, hv, q⟩
theorem Inv.lnew {its : List Value} {t' : Nat} (I : Inv X pins σ H s) (hv : Vals ys its) (hz : ys.length ≤ sizeLine) :
    Inv X pins σ (upd H s.heap.objs.size (.lst ys)) { s with heap := s.heap.push { cls := .type "list", data := .seq its.toArray }, toks := t' } :=
  I.laid (fun _ _ q => Heap.get?_push_of_some _ q) (Nat.le_refl _) ⟨hz, its, 0, hv, Heap.get?_push_size _ rfl⟩
theorem Inv.fresh (I : Inv X pins σ H s) : H s.heap.objs.size = none := I.hok.fresh (Nat.le_refl _)
theorem Inv.lstM (I : Inv X pins σ H s) (hH : H l = some (.lst xs)) : xs.length ≤ sizeLine ∧ ∃ (its : List Value) (n : Nat), Vals xs its ∧ xs.length = its.length ∧ s.heap.get? l = some { cls := .type "list", data := .seq its.toArray n } := by
  obtain ⟨z, its, n, r, e⟩ := I.hok l _ hH
  exact ⟨z, its, n, r, r.length, e⟩

theorem notLongL {n : Nat} (h : n ≤ sizeLine) : Builtin.List.listTooLong n = false := by
  unfold Builtin.List.listTooLong
  exact decide_eq_false (by omega)
end

section
variable {X : Cx}

/-! ### methods -/
def rAppend : V → List V → Hp → VK → Prop := fun x vs H Q => ∃ l xs y, x = .ref l ∧ vs = [y] ∧ H l = some (.lst xs) ∧ xs.length < sizeLine ∧ Q .non (upd H l (.lst (xs ++ [y])))
theorem mt_append : MtM X "list.append" rAppend := by
  intro pins s σ H x vs v us Q I rx rv h
  obtain ⟨l, xs, y, rfl, rfl, hH, hz, q⟩ := h
  cases rx
  obtain ⟨u, rfl, ru⟩ := rv.one
  obtain ⟨z, its, n, r, hl, e⟩ := I.lstM hH
  refine call_meets F.slot_list_append ⟨_, e, rfl⟩ F.entry_list_append (F.args_list_append_2 _ _) (PySem.list_append l its.toArray n u (by rw [List.size_toArray]; omega)) ⟨e, ?_⟩
  refine ⟨.non, _, I.lset (its' := its ++ [u]) hH e (by simp) (r.append (.cons ru .nil)) ?_, rfl, q⟩
  rw [List.length_append, List.length_singleton]
  omega

def rExtend : V → List V → Hp → VK → Prop := fun x vs H Q => ∃ l b xs zs, x = .ref l ∧ vs = [.ref b] ∧ H l = some (.lst xs) ∧ H b = some (.lst zs) ∧ xs.length + zs.length ≤ sizeLine ∧ Q .non (upd H l (.lst (xs ++ zs)))
theorem mt_extend : MtM X "list.extend" rExtend := by
  intro pins s σ H x vs v us Q I rx rv h
  obtain ⟨l, b, xs, zs, rfl, rfl, hH, hB, hz, q⟩ := h
  cases rx
  obtain ⟨u, rfl, ru⟩ := rv.one
  cases ru
  obtain ⟨z, its, n, r, hl, e⟩ := I.lstM hH
  obtain ⟨z2, its2, n2, r2, hl2, e2⟩ := I.lstM hB
  have hsz : its.toArray.size + its2.toArray.size ≤ sizeLine := by rw [List.size_toArray, List.size_toArray]; omega
  have hlong : ¬ (!its.toArray.isEmpty && Builtin.List.listTooLong (its.toArray.size + its2.toArray.size)) = true := by
    rw [notLongL hsz, Bool.and_false]
    exact Bool.false_ne_true
  refine call_meets F.slot_list_extend ⟨_, e, rfl⟩ F.entry_list_extend (F.args_list_extend_2 _ _)
    (AutoSeq1.list_extend_list_list_0 l its.toArray n b its2.toArray n2 hlong (by rw [List.size_toArray]; omega) (by omega)) ⟨e, e2, ?_⟩
  refine ⟨.non, _, I.lset (its' := its ++ its2) hH e (by simp) (r.append r2) ?_, rfl, q⟩
  rw [List.length_append]
  omega

def rPop : V → List V → Hp → VK → Prop := fun x vs H Q => ∃ l xs y, x = .ref l ∧ vs = [] ∧ H l = some (.lst xs) ∧ xs[xs.length - 1]? = some y ∧ Q y (upd H l (.lst xs.dropLast))
def rPopAt : V → List V → Hp → VK → Prop := fun x vs H Q => ∃ l xs i k y, x = .ref l ∧ vs = [.int i] ∧ H l = some (.lst xs) ∧ -(2 ^ 63) ≤ i ∧ i < 2 ^ 63 ∧ seqIndex? i xs.length = some k ∧ xs[k]? = some y ∧ Q y (upd H l (.lst (xs.eraseIdx k)))
def rReverse : V → List V → Hp → VK → Prop := fun x vs H Q => ∃ l xs, x = .ref l ∧ vs = [] ∧ H l = some (.lst xs) ∧ Q .non (upd H l (.lst xs.reverse))
def rClear : V → List V → Hp → VK → Prop := fun x vs H Q => ∃ l xs, x = .ref l ∧ vs = [] ∧ H l = some (.lst xs) ∧ Q .non (upd H l (.lst []))
/-! ### list + list, list += list, list * int -/
def rCat : R2 := fun x y H Q => ∃ l b xs zs, x = .ref l ∧ y = .ref b ∧ H l = some (.lst xs) ∧ H b = some (.lst zs) ∧ xs.length + zs.length ≤ sizeLine ∧ ∀ p, H p = none → Q (.ref p) (upd H p (.lst (xs ++ zs)))
theorem op_cat : OpR X (binaryOp .Add) rCat := by
  intro pins s σ H x y v u Q I rx ry h
  obtain ⟨l, b, xs, zs, rfl, rfl, hH, hB, hz, q⟩ := h
  cases rx
  cases ry
  obtain ⟨z, its, n, r, hl, e⟩ := I.lstM hH
  obtain ⟨z2, its2, n2, r2, hl2, e2⟩ := I.lstM hB
  refine PySem.P.add_list e e2 ?_ (by rw [List.size_toArray, List.size_toArray]; omega)
  have ea : its.toArray ++ its2.toArray = (its ++ its2).toArray := by simp
  rw [ea]
  exact ⟨.ref _, _, I.lnew (t' := s.toks) (r.append r2) (by rw [List.length_append]; omega), rfl, q _ I.fresh⟩
/-- a list times an int (a negative one is nothing) -/
def rRep : R2 := fun x y H Q => ∃ l k xs, x = .ref l ∧ y = .int k ∧ H l = some (.lst xs) ∧ -(2 ^ 63) ≤ k ∧ k < 2 ^ 63 ∧ xs.length * k.toNat ≤ sizeLine ∧
  ∀ p, H p = none → Q (.ref p) (upd H p (.lst (List.replicate k.toNat xs).flatten))
/-! ### del xs[i] -/
end

/-! ### xs[a:b] = ys -/
section
variable {prog : Program} {w : World} {A : Around} {E : Value → Shared → Prop} {s : Shared}
end

section
variable {X : Cx}
end
end L2

namespace L2
open PySem PySem.Spec PyProof.Rows

theorem Vals.ints : ∀ {ns : List Int} {us : List Value}, Vals (ns.map V.int) us → IntsAre us ns
  | [], us, h => by
    rw [List.map_nil] at h
    cases h
    exact IntsAre.nil
  | n :: ns, us, h => by
    rw [List.map_cons] at h
    cases h with
    | cons r t =>
      obtain ⟨k, rfl⟩ := r
      exact IntsAre.cons n k (Vals.ints t)
theorem vals_of_ints : ∀ {us : List Value} {ns : List Int}, IntsAre us ns → Vals (ns.map V.int) us
  | _, _, .nil => by rw [List.map_nil]; exact Paired.nil
  | _, _, .cons n t h => by rw [List.map_cons]; exact Paired.cons (show RelV (V.int n) (Value.int n t) from ⟨t, rfl⟩) (vals_of_ints h)
theorem Vals.bls : ∀ {bs : List Bool} {us : List Value}, Vals (bs.map V.bl) us → us = bs.map Value.bool
  | [], us, h => by
    rw [List.map_nil] at h
    cases h
    rfl
  | b :: bs, us, h => by
    rw [List.map_cons] at h
    cases h with
    | cons r t =>
      cases r
      rw [Vals.bls t, List.map_cons]
theorem Vals.ref1 {a : Addr} {us : List Value} (r : Vals [V.ref a] us) : us = [Value.ref a] := by
  cases r with
  | cons r t =>
    cases t
    cases r
    rfl
/-! ### the library's walks over a list of ints, kept objects alone -/
section
variable {prog : Program} {w : World} {A : Around} {E : Value → Shared → Prop} {s : Shared} {l : Addr} {its : List Value} {ns : List Int} {Q : Value → Shared → Prop}
theorem sum_raw (hh : A.handled = none) (hl : s.heap.IsList l its.toArray) (hi : IntsAre its ns)
    (h : ∀ h' tk t', (∀ b o, s.heap.get? b = some o → h'.get? b = some o) → Q (.int ns.sum t') { s with heap := h', toks := tk }) : wpAny (model prog w) A (call (.builtin "sum") [.ref l]) Q E s := by
  obtain ⟨xs, e⟩ := hi.allInts.items
  have hn : numsOf (intItems xs).toList = ns := by rw [← e]; exact hi.numsOf
  rw [nums_intItems] at hn
  rw [e] at hl
  refine PySem.sum_intListG hh hl fun h' tk t' hk => ?_
  have := h h' tk t' hk
  rw [preSum_eq, List.take_of_length_le (by simp), hn]; exact this
theorem max_raw (hh : A.handled = none) (hl : s.heap.IsList l its.toArray) (hi : IntsAre its ns) (hne : 0 < ns.length)
    (h : ∀ h' tk M t', (∀ b o, s.heap.get? b = some o → h'.get? b = some o) → M ∈ ns → (∀ a, a ∈ ns → a ≤ M) → Q (.int M t') { s with heap := h', toks := tk }) : wpAny (model prog w) A (call (.builtin "max") [.ref l]) Q E s := by
  obtain ⟨xs, e⟩ := hi.allInts.items
  have hn : numsOf (intItems xs).toList = ns := by rw [← e]; exact hi.numsOf
  rw [nums_intItems] at hn
  subst hn
  rw [e] at hl
  have hsz : 0 < xs.size := by simpa using hne
  refine PySem.max_intList hh hl hsz fun v h' tk hv hk => ?_
  obtain ⟨t, rfl⟩ := intItems_at hv
  obtain ⟨h1, h2⟩ := argBest_gt (numAt xs) (xs.size - 1)
  refine h h' tk _ t hk ?_ fun a ha => ?_
  · rw [numAt_eq]; exact PySem.getD_mem (by rw [List.length_map, Array.length_toList]; omega)
  · obtain ⟨j, hj, rfl⟩ := mem_getD ha
    rw [List.length_map, Array.length_toList] at hj
    rw [← numAt_eq]; exact h2 j (by omega)
theorem min_raw (hh : A.handled = none) (hl : s.heap.IsList l its.toArray) (hi : IntsAre its ns) (hne : 0 < ns.length)
    (h : ∀ h' tk M t', (∀ b o, s.heap.get? b = some o → h'.get? b = some o) → M ∈ ns → (∀ a, a ∈ ns → M ≤ a) → Q (.int M t') { s with heap := h', toks := tk }) : wpAny (model prog w) A (call (.builtin "min") [.ref l]) Q E s := by
  obtain ⟨xs, e⟩ := hi.allInts.items
  have hn : numsOf (intItems xs).toList = ns := by rw [← e]; exact hi.numsOf
  rw [nums_intItems] at hn
  subst hn
  rw [e] at hl
  have hsz : 0 < xs.size := by simpa using hne
  refine PySem.min_intList hh hl hsz fun v h' tk hv hk => ?_
  obtain ⟨t, rfl⟩ := intItems_at hv
  obtain ⟨h1, h2⟩ := argBest_lt (numAt xs) (xs.size - 1)
  refine h h' tk _ t hk ?_ fun a ha => ?_
  · rw [numAt_eq]; exact PySem.getD_mem (by rw [List.length_map, Array.length_toList]; omega)
  · obtain ⟨j, hj, rfl⟩ := mem_getD ha
    rw [List.length_map, Array.length_toList] at hj
    rw [← numAt_eq]; exact h2 j (by omega)
end

/-! ### the calls, by values (CallR of 03t; MtR of 06l) -/
section
variable {X : Cx}
/-- sum(xs) of a list of ints -/
def rSum (K : PySem.W.Frag) : List V → Hp → VK → Prop := fun vs H Q => ∃ (a : Addr) (ns : List Int), vs = [V.ref a] ∧ SqL K H a (ns.map V.int) ∧ Q (.int ns.sum) H
/-- max(xs), min(xs) of a list of ints -/
def rMax (K : PySem.W.Frag) : List V → Hp → VK → Prop := fun vs H Q => ∃ (a : Addr) (ns : List Int), vs = [V.ref a] ∧ SqL K H a (ns.map V.int) ∧ 0 < ns.length ∧ ∀ m, m ∈ ns → (∀ y, y ∈ ns → y ≤ m) → Q (.int m) H
def rMin (K : PySem.W.Frag) : List V → Hp → VK → Prop := fun vs H Q => ∃ (a : Addr) (ns : List Int), vs = [V.ref a] ∧ SqL K H a (ns.map V.int) ∧ 0 < ns.length ∧ ∀ m, m ∈ ns → (∀ y, y ∈ ns → m ≤ y) → Q (.int m) H
theorem cr_sum (hc : X.calm = true) : CallR X (.builtin "sum") (rSum X.K) := by
  intro pins s σ H vs us Q I r h
  obtain ⟨a, ns, rfl, hs, q⟩ := h
  obtain ⟨its, rv, hl, _⟩ := I.list hs
  rw [Vals.ref1 r]
  exact sum_raw (I.ok.hd hc) hl.isList rv.ints fun h' tk t' hk => ⟨.int _, H, I.kept hk, ⟨_, rfl⟩, q⟩
theorem cr_min (hc : X.calm = true) : CallR X (.builtin "min") (rMin X.K) := by
  intro pins s σ H vs us Q I r h
  obtain ⟨a, ns, rfl, hs, hne, q⟩ := h
  obtain ⟨its, rv, hl, _⟩ := I.list hs
  rw [Vals.ref1 r]
  exact min_raw (I.ok.hd hc) hl.isList rv.ints hne fun h' tk m t' hk h1 h2 => ⟨.int _, H, I.kept hk, ⟨_, rfl⟩, q m h1 h2⟩

/-! sorted, sort (fewer than 64 items: the library's own bound) -/
def rSorted (K : PySem.W.Frag) : List V → Hp → VK → Prop := fun vs H Q => ∃ (a : Addr) (ns : List Int), vs = [V.ref a] ∧ SqL K H a (ns.map V.int) ∧ ns.length < 64 ∧
  ∀ (ns' : List Int) (p : Addr), ns'.Perm ns → ns'.Pairwise (· ≤ ·) → H p = none → Q (.ref p) (upd H p (.lst (ns'.map V.int)))
def rSortedS (K : PySem.W.Frag) : List V → Hp → VK → Prop := fun vs H Q => ∃ (a : Addr) (xs : List Str), vs = [V.ref a] ∧ SqL K H a (xs.map V.str) ∧ xs.length < 64 ∧
  ∀ (ys : List Str) (p : Addr), ys.Perm xs → sortedS ys = true → H p = none → Q (.ref p) (upd H p (.lst (ys.map V.str)))
/-- xs.sort(), ints -/
def rSort : V → List V → Hp → VK → Prop := fun x xs H Q => ∃ (a : Addr) (ns : List Int), x = V.ref a ∧ xs = [] ∧ H a = some (.lst (ns.map V.int)) ∧ ns.length < 64 ∧
  ∀ ns' : List Int, ns'.Perm ns → ns'.Pairwise (· ≤ ·) → Q .non (upd H a (.lst (ns'.map V.int)))
end

/-! ### list.index, flat items -/
section
variable {X : Cx}
def rIndex (K : PySem.W.Frag) : V → List V → Hp → VK → Prop := fun x xs H Q => ∃ (a : Addr) (ys : List V) (y : V) (j : Nat) (z : V), x = V.ref a ∧ xs = [y] ∧ SqL K H a ys ∧ flatV y = true ∧ ys.all flatV = true ∧ ys[j]? = some z ∧ eqV z y = true ∧
  (∀ (m : Nat) (z' : V), m < j → ys[m]? = some z' → eqV z' y = false) ∧ Q (.int (j : Nat)) H
end

/-! ### type(x) of an own instance; is, is not of a module's class -/
section
variable {X : Cx}
end

/-! ### any(xs), all(xs) of a list of bools -/
theorem iter_any {prog : Program} {w : World} {A : Around} {E : Value → Shared → Prop} {s : Shared} {l : Addr} {items : Array Value} {Q : Value → Shared → Prop} (hl : s.heap.IsList l items)
    (h : ∀ s₂ : Shared, s₂ = { s with heap := s.heap.push { cls := .type "list_iterator", data := .fields #[.ref l, .int 0 0] } } →
      (s₂.heap.IsListIter s.heap.objs.size l 0 ∧ s₂.heap.IsList l items) → l ≠ s.heap.objs.size → Q (.ref s.heap.objs.size) s₂) : wpAny (model prog w) A (pyIter (.ref l)) Q E s := by
  have hlt : l < s.heap.objs.size := by obtain ⟨_, e, _⟩ := hl; exact Heap.lt_size e
  exact wpAny_pyIter_list hl (h _ rfl ⟨⟨_, Heap.get?_push_size _ rfl, rfl, rfl⟩, hl.push _⟩ (Nat.ne_of_lt hlt))
theorem truth_bools {prog : Program} {w : World} {A : Around} {bs : List Bool} {its : List Value} (e : its = bs.map Value.bool) :
    TruthOf prog w A (fun i v => its.toArray[i]? = some v) (fun i => bs.getD i false) := fun i v s Q E hv hq => by
  have hv' : its[i]? = some v := by simpa using hv
  rw [e, List.getElem?_map] at hv'
  obtain ⟨b, hb, rfl⟩ := Option.map_eq_some_iff.mp hv'
  have hg : bs.getD i false = b := by rw [List.getD_eq_getElem?_getD, hb] <;> rfl
  have hq' : Q (bs.getD i false) s := hq
  rw [hg] at hq'
  exact wpAny_truthy_bool hq'
theorem any_range : ∀ bs : List Bool, (List.range bs.length).any (fun i => bs.getD i false) = bs.any id
  | [] => rfl
  | b :: bs => by
    rw [List.length_cons, List.range_succ_eq_map, List.any_cons, List.any_map, List.any_cons, ← any_range bs]
    all_goals rfl
theorem all_range : ∀ bs : List Bool, (List.range bs.length).all (fun i => bs.getD i false) = bs.all id
  | [] => rfl
  | b :: bs => by
    rw [List.length_cons, List.range_succ_eq_map, List.all_cons, List.all_map, List.all_cons, ← all_range bs]
    all_goals rfl
section
variable {X : Cx}
def rAny (K : PySem.W.Frag) : List V → Hp → VK → Prop := fun vs H Q => ∃ (a : Addr) (bs : List Bool), vs = [V.ref a] ∧ SqL K H a (bs.map V.bl) ∧ Q (.bl (bs.any id)) H
def rAll (K : PySem.W.Frag) : List V → Hp → VK → Prop := fun vs H Q => ∃ (a : Addr) (bs : List Bool), vs = [V.ref a] ∧ SqL K H a (bs.map V.bl) ∧ Q (.bl (bs.all id)) H
theorem cr_all (hc : X.calm = true) : CallR X (.builtin "all") (rAll X.K) := by
  intro pins s σ H vs us Q I r h
  obtain ⟨a, bs, rfl, hs, q⟩ := h
  obtain ⟨its, rv, hl, _⟩ := I.list hs
  rw [Vals.ref1 r]
  have hb := rv.bls
  refine call_all_walk (iter_any hl.isList fun s₂ e2 st hne => ?_)
  subst e2
  refine ⟨_, _, _, _, _, _, _, rfl, Walks.list (A := X.A.in1) (I.ok.hd hc) _ a hne its.toArray, st, truth_bools hb, fun h' tk hk => ?_⟩
  refine ⟨.bl _, H, I.kept fun b o eo => hk b o (fun hmem => ?_) (Heap.get?_push_of_some _ eo), ?_, q⟩
  · rcases List.mem_cons.mp hmem with e1 | hmem
    · exact absurd (e1 ▸ Heap.lt_size eo) (Nat.lt_irrefl _)
    · cases hmem
  · show Value.bool _ = Value.bool _
    rw [← all_range, hb, List.size_toArray, List.length_map]
end

/-! ### == and != of data at any depth: none, bools, ints, texts, lists, tuples -/
mutual
inductive Dp (K : PySem.W.Frag) (H : Hp) : V → PyData → Prop
  | non : Dp K H .non .none
  | bl (b : Bool) : Dp K H (.bl b) (.bool b)
  | int (i : Int) : Dp K H (.int i) (.int i)
  | str (x : Str) : Dp K H (.str x) (.str x)
  | lst {a : Addr} {xs : List V} {ds : List PyData} : SqL K H a xs → DpAll K H xs ds → Dp K H (.ref a) (.list ds)
  | tup {a : Addr} {xs : List V} {ds : List PyData} : SqT K H a xs → DpAll K H xs ds → Dp K H (.ref a) (.tuple ds)
inductive DpAll (K : PySem.W.Frag) (H : Hp) : List V → List PyData → Prop
  | nil : DpAll K H [] []
  | cons {v : V} {vs : List V} {d : PyData} {ds : List PyData} : Dp K H v d → DpAll K H vs ds → DpAll K H (v :: vs) (d :: ds)
end
section
variable {X : Cx} {pins : List (Addr × Obj)} {σ : St} {H : Hp} {s : Shared}
mutual
theorem Dp.reads (I : Inv X pins σ H s) : ∀ (d : PyData) (v : V) (u : Value), Dp X.K H v d → RelV v u → ∃ as, Reads s.heap u d as
  | .none, _, _, h, r => by
    cases h
    cases r
    exact ⟨_, Reads.none⟩
  | .bool b, _, _, h, r => by
    cases h
    cases r
    exact ⟨_, Reads.bool b⟩
  | .int i, _, _, h, r => by
    cases h
    obtain ⟨t, rfl⟩ := r
    exact ⟨_, Reads.int i t⟩
  | .str x, _, _, h, r => by
    cases h
    obtain ⟨t, rfl⟩ := r
    exact ⟨_, Reads.str x t⟩
  | .list ds, _, _, h, r => by
    cases h with
    | lst hs ha =>
      cases r
      obtain ⟨its, rv, ⟨o, n, ho, hc, _, hd⟩, _⟩ := I.list hs
      obtain ⟨as, hr⟩ := Dp.readsAll I ds _ its ha rv
      exact ⟨_, Reads.list ho hc hd hr⟩
  | .tuple ds, _, _, h, r => by
    cases h with
    | tup hs ha =>
      cases r
      obtain ⟨its, rv, ⟨o, ho, hc, n, hd⟩, _⟩ := I.tuple hs
      obtain ⟨as, hr⟩ := Dp.readsAll I ds _ its ha rv
      exact ⟨_, Reads.tuple ho hc hd hr⟩
  | .dict _, _, _, h, _ => by cases h
theorem Dp.readsAll (I : Inv X pins σ H s) : ∀ (ds : List PyData) (vs : List V) (us : List Value), DpAll X.K H vs ds → Vals vs us → ∃ as, ReadsAll s.heap us ds as
  | [], _, _, h, r => by
    cases h
    cases r
    exact ⟨_, ReadsAll.nil⟩
  | d :: ds, _, _, h, r => by
    cases h with
    | cons h1 h2 =>
      cases r with
      | cons r1 r2 =>
        obtain ⟨as, q1⟩ := Dp.reads I d _ _ h1 r1
        obtain ⟨bs, q2⟩ := Dp.readsAll I ds _ _ h2 r2
        exact ⟨_, ReadsAll.cons q1 q2⟩
end
end
section
variable {X : Cx}
def rEqD (K : PySem.W.Frag) : R2 := fun x y H Q => ∃ d e, Dp K H x d ∧ Dp K H y e ∧ SeqAt.shaped d = true ∧ SeqAt.shaped e = true ∧ Q (.bl (PyData.eqv d e)) H
def rNeD (K : PySem.W.Frag) : R2 := fun x y H Q => ∃ d e, Dp K H x d ∧ Dp K H y e ∧ SeqAt.shaped d = true ∧ SeqAt.shaped e = true ∧ Q (.bl (!PyData.eqv d e)) H
theorem op_eqD (hu : X.A.units + 64 < cLine) : OpR X (compareOp .Eq) (rEqD X.K) := by
  intro pins s σ H x y v u Q I rx ry h
  obtain ⟨d, e, hd, he, sd, se, q⟩ := h
  obtain ⟨as, r1⟩ := Dp.reads I d x v hd rx
  obtain ⟨bs, r2⟩ := Dp.reads I e y u he ry
  exact SeqAt.compareEq_shaped r1 r2 sd se hu ⟨.bl _, H, I, rfl, q⟩
theorem op_neD (hu : X.A.units + 64 < cLine) : OpR X (compareOp .NotEq) (rNeD X.K) := by
  intro pins s σ H x y v u Q I rx ry h
  obtain ⟨d, e, hd, he, sd, se, q⟩ := h
  obtain ⟨as, r1⟩ := Dp.reads I d x v hd rx
  obtain ⟨bs, r2⟩ := Dp.reads I e y u he ry
  exact SeqAt.compareNe_shaped r1 r2 sd se hu ⟨.bl _, H, I, rfl, q⟩
end
end L2

namespace L2
open PySem PySem.Spec PyProof.Rows
abbrev CellAt (h : Heap) (c : Addr) (v : Option Value) : Prop := h.IsCell c v
def relS (scope sc : Scope) : Scope :=
  { scope with names := scope.names.map fun (n, k) => if (k == .free && sc.kind == .function && sc.names.lookup n == some .cell) then (n, .cell) else (n, k) }

def cloFrom (cells : List (Str × Addr)) : List (Str × NameKind) → List (Str × Addr) → List (Str × Addr)
  | [], acc => acc
  | (n, k) :: r, acc => if k == .free then cloFrom cells r ((n, (cells.lookup n).getD 0) :: acc) else cloFrom cells r acc

theorem closure_loop (env : Env) (f : Str × NameKind → List (Str × Addr) → Sem (ForInStep (List (Str × Addr))))
    (hf : ∀ n k c, f (n, k) c = if k == .free then (do let a ← cellOf env n; pure (.yield ((n, a) :: c))) else pure (.yield c)) :
    ∀ (names : List (Str × NameKind)) (acc : List (Str × Addr)), (∀ y ∈ names, y.2 = .free → ∃ c, env.cells.lookup y.1 = some c) → forIn names acc f = pure (cloFrom env.cells names acc)
  | [], acc, _ => by rw [List.forIn_nil]; rfl
  | (n, k) :: r, acc, h => by
    rw [List.forIn_cons, hf]
    have ih := fun acc => closure_loop env f hf r acc fun y hy => h y (List.mem_cons_of_mem _ hy)
    unfold cloFrom
    by_cases hk : (k == NameKind.free) = true
    · rw [if_pos hk, if_pos hk]
      obtain ⟨c, hc⟩ := h (n, k) List.mem_cons_self (by simpa using hk)
      have e : cellOf env n = pure c := by unfold cellOf; rw [hc]
      rw [e]
      have e2 : (env.cells.lookup n).getD 0 = c := by rw [hc]; rfl
      rw [e2]
      exact ih _
    · rw [if_neg hk, if_neg hk]
      exact ih _
theorem closure_ok {scope : Scope} {env : Env} (h : ∀ y ∈ scope.names, y.2 = .free → ∃ c, env.cells.lookup y.1 = some c) : closureFor scope env = pure (cloFrom env.cells scope.names []) := by
  simp only [closureFor]
  rw [closure_loop env _ (fun n k c => rfl) scope.names [] h]
  rfl

theorem mem_lookup {α : Type} : ∀ {l : List (Str × α)} {n : Str} {c : α}, (n, c) ∈ l → ∃ c', l.lookup n = some c'
  | (k, v) :: r, n, c, h => by
    rw [List.lookup_cons]
    cases hb : n == k with
    | true => exact ⟨_, rfl⟩
    | false =>
      rcases List.mem_cons.mp h with e | h
      · cases e; simp at hb
      · exact mem_lookup h

theorem cloFrom_mem {cells : List (Str × Addr)} : ∀ {names : List (Str × NameKind)} {acc : List (Str × Addr)} {n : Str} {c : Addr}, (n, c) ∈ cloFrom cells names acc → (n, c) ∈ acc ∨ ((n, .free) ∈ names ∧ c = (cells.lookup n).getD 0)
  | [], _, _, _, h => .inl h
  | (m, k) :: r, acc, n, c, h => by
    unfold cloFrom at h
    split at h
    · rename_i hk
      have hk : k = .free := by simpa using hk
      rcases cloFrom_mem h with h | ⟨h1, h2⟩
      · rcases List.mem_cons.mp h with e | h
        · cases e; exact .inr ⟨hk ▸ List.mem_cons_self, rfl⟩
        · exact .inl h
      · exact .inr ⟨List.mem_cons_of_mem _ h1, h2⟩
    · rcases cloFrom_mem h with h | ⟨h1, h2⟩
      · exact .inl h
      · exact .inr ⟨List.mem_cons_of_mem _ h1, h2⟩
theorem cloFrom_acc {cells : List (Str × Addr)} : ∀ {names : List (Str × NameKind)} {acc : List (Str × Addr)} {p : Str × Addr}, p ∈ acc → p ∈ cloFrom cells names acc
  | [], _, _, h => h
  | (m, k) :: r, acc, p, h => by
    unfold cloFrom
    split
    · exact cloFrom_acc (List.mem_cons_of_mem _ h)
    · exact cloFrom_acc h
theorem cloFrom_has {cells : List (Str × Addr)} : ∀ {names : List (Str × NameKind)} {acc : List (Str × Addr)} {n : Str}, (n, .free) ∈ names → (n, (cells.lookup n).getD 0) ∈ cloFrom cells names acc
  | (m, k) :: r, acc, n, h => by
    unfold cloFrom
    rcases List.mem_cons.mp h with e | h
    · cases e
      exact cloFrom_acc List.mem_cons_self
    · split
      · exact cloFrom_has h
      · exact cloFrom_has h

theorem cells_mem : ∀ {names : List (Str × NameKind)} {h : Heap} {acc : List (Str × Addr)} {x : Str} {c : Addr}, (x, c) ∈ cellsFrom h.objs.size names acc →
    (x, c) ∈ acc ∨ ((x, .cell) ∈ names ∧ h.objs.size ≤ c ∧ CellAt (pushCells h names) c none)
  | [], _, _, _, _, h => .inl h
  | (n, k) :: r, h, acc, x, c, hm => by
    unfold cellsFrom at hm
    unfold pushCells
    split at hm
    · rename_i hk
      rw [if_pos hk]
      have hk : k = .cell := by simpa using hk
      rw [← Heap.size_push h { cls := .type "cell", data := .cell none }] at hm
      rcases cells_mem hm with hm | ⟨h1, h2, h3⟩
      · rcases List.mem_cons.mp hm with e | hm
        · cases e
          exact .inr ⟨hk ▸ List.mem_cons_self, Nat.le_refl _, _, pushCells_keeps r _ _ _ (Heap.get?_push_size _ rfl), rfl⟩
        · exact .inl hm
      · rw [Heap.size_push] at h2
        exact .inr ⟨List.mem_cons_of_mem _ h1, Nat.le_of_succ_le h2, h3⟩
    · rename_i hk
      rw [if_neg hk]
      rcases cells_mem hm with hm | ⟨h1, h2, h3⟩
      · exact .inl hm
      · exact .inr ⟨List.mem_cons_of_mem _ h1, h2, h3⟩
theorem cells_acc : ∀ {names : List (Str × NameKind)} {n : Nat} {acc : List (Str × Addr)} {p : Str × Addr}, p ∈ acc → p ∈ cellsFrom n names acc
  | [], _, _, _, h => h
  | (m, k) :: r, n, acc, p, h => by
    unfold cellsFrom
    split
    · exact cells_acc (List.mem_cons_of_mem _ h)
    · exact cells_acc h
theorem cells_has : ∀ {names : List (Str × NameKind)} {n : Nat} {acc : List (Str × Addr)} {x : Str}, (x, .cell) ∈ names → ∃ c, (x, c) ∈ cellsFrom n names acc
  | (m, k) :: r, n, acc, x, h => by
    unfold cellsFrom
    rcases List.mem_cons.mp h with e | h
    · cases e
      exact ⟨n, cells_acc List.mem_cons_self⟩
    · split
      · exact cells_has h
      · exact cells_has h
theorem cells_inj : ∀ {names : List (Str × NameKind)} {h : Heap} {acc : List (Str × Addr)} {x y : Str} {c : Addr}, (∀ p ∈ acc, p.2 < h.objs.size) → (∀ x y c, (x, c) ∈ acc → (y, c) ∈ acc → x = y) →
    (x, c) ∈ cellsFrom h.objs.size names acc → (y, c) ∈ cellsFrom h.objs.size names acc → x = y
  | [], _, _, _, _, _, _, hi, h1, h2 => hi _ _ _ h1 h2
  | (n, k) :: r, h, acc, x, y, c, hl, hi, h1, h2 => by
    unfold cellsFrom at h1 h2
    split at h1
    · rename_i hk
      rw [if_pos hk] at h2
      rw [← Heap.size_push h { cls := .type "cell", data := .cell none }] at h1 h2
      refine cells_inj (h := h.push _) (fun p hp => ?_) (fun x y c a b => ?_) h1 h2
      · rw [Heap.size_push]
        rcases List.mem_cons.mp hp with rfl | hp
        · exact Nat.lt_succ_self _
        · exact Nat.lt_succ_of_lt (hl p hp)
      · rcases List.mem_cons.mp a with e | a <;> rcases List.mem_cons.mp b with e' | b
        · cases e; cases e'; rfl
        · cases e; exact absurd (hl _ b) (Nat.lt_irrefl _)
        · cases e'; exact absurd (hl _ a) (Nat.lt_irrefl _)
        · exact hi _ _ _ a b
    · rename_i hk
      rw [if_neg hk] at h2
      exact cells_inj hl hi h1 h2

theorem newEnv_comp {M : Model} {A : Around} {E : Value → Shared → Prop} {s : Shared} {scope : Scope} {globals : Addr} {closure : List (Str × Addr)} {qual : Str} {func : Option Addr} {code : Value} {around : Env} {builtins : Addr} {Q : Env → Shared → Prop}
    (h : Q (newEnv scope s.heap.objs.size globals (cellsFrom (s.heap.objs.size + 1) scope.names closure) qual func code (some around) builtins)
      { s with heap := pushCells (s.heap.push { cls := .type "dict", data := .dict #[] }) scope.names }) :
    wpAny M A (newFunctionEnv scope globals closure [] qual func code (some around) builtins) Q E s := by
  simp only [newFunctionEnv, Option.isSome_some, if_true]
  refine wpAny_bind (wpAny_alloc ?_)
  refine wpAny_bind (wpAny_layCells _ (fun n k c => rfl) scope.names closure _ _ ?_)
  rw [show ({ s with heap := s.heap.push { cls := .type "dict", data := .dict #[] } } : Shared).heap.objs.size = s.heap.objs.size + 1 from Heap.size_push ..]
  rw [List.forIn_nil]
  exact wpAny_bind (wpAny_pure (wpAny_pure h))

/-- every name of the written scope, in the scope that runs -/
theorem lookup_relS {sc : Scope} : ∀ {names : List (Str × NameKind)} {x : Str} {k : NameKind},
    (names.map fun (n, k) => if (k == NameKind.free && sc.kind == .function && sc.names.lookup n == some .cell) then (n, NameKind.cell) else (n, k)).lookup x = some k →
    ∃ k', names.lookup x = some k' ∧ (k = k' ∨ (k' = .free ∧ k = .cell))
  | [], _, _, h => by simp at h
  | (n, k₀) :: r, x, k, h => by
    have ih := @lookup_relS sc r x k
    have h' : List.lookup x ((if (k₀ == NameKind.free && sc.kind == .function && sc.names.lookup n == some .cell) = true then (n, NameKind.cell) else (n, k₀)) :: (r.map _)) = some k := h
    cases hx : x == n with
    | true =>
      simp only [List.lookup_cons, hx]
      by_cases hc : (k₀ == NameKind.free && sc.kind == .function && sc.names.lookup n == some .cell) = true
      · rw [if_pos hc] at h'
        simp only [List.lookup_cons, hx] at h'
        cases h'
        simp only [Bool.and_eq_true, beq_iff_eq] at hc
        exact ⟨k₀, rfl, .inr ⟨hc.1.1, rfl⟩⟩
      · rw [if_neg hc] at h'
        simp only [List.lookup_cons, hx] at h'
        cases h'
        exact ⟨_, rfl, .inl rfl⟩
    | false =>
      simp only [List.lookup_cons, hx]
      by_cases hc : (k₀ == NameKind.free && sc.kind == .function && sc.names.lookup n == some .cell) = true
      · rw [if_pos hc] at h'
        simp only [List.lookup_cons, hx] at h'
        exact ih h'
      · rw [if_neg hc] at h'
        simp only [List.lookup_cons, hx] at h'
        exact ih h'
/-- the names of a comprehension's block: its own (with their places in N), or captured -/
structure BlkOk (N : List Str) (sc scope : Scope) (own : List (Str × Nat)) : Prop where
  kind : scope.kind = .function
  uniq : ∀ y ∈ scope.names, scope.names.lookup y.1 = some y.2
  ix : ∀ p ∈ own, N[p.2]? = some p.1
  free : ∀ y ∈ scope.names, y.2 = .free → sc.names.lookup y.1 = some .cell ∨ sc.names.lookup y.1 = some .free
  own : ∀ y ∈ scope.names, y.2 = .local ∨ y.2 = .cell → y.1 ∈ own.map (·.1) ∨ y.1 ∉ N
/-- the slots of the block's own names forgotten -/
def wipe (σ : St) : List Nat → St
  | [] => σ
  | v :: vs => (wipe σ vs).set v none
theorem wipe_length (σ : St) : ∀ vs : List Nat, (wipe σ vs).length = σ.length
  | [] => rfl
  | v :: vs => by unfold wipe; rw [List.length_set, wipe_length σ vs]
theorem wipe_some {σ : St} {i : Nat} {x : V} : ∀ {vs : List Nat}, (wipe σ vs)[i]? = some (some x) → σ[i]? = some (some x) ∧ i ∉ vs
  | [], h => ⟨h, by simp⟩
  | v :: vs, h => by
    unfold wipe at h
    by_cases hi : v = i
    · subst hi
      by_cases hv : v < (wipe σ vs).length
      · rw [List.getElem?_set_self hv] at h; cases h
      · rw [List.getElem?_eq_none (by simpa using hv)] at h; cases h
    · rw [List.getElem?_set_ne hi] at h
      obtain ⟨h1, h2⟩ := wipe_some h
      exact ⟨h1, by simp only [List.mem_cons, not_or]; exact ⟨fun e => hi e.symm, h2⟩⟩

/-- the context of a block that starts at s, its iterator's objects at fp -/
abbrev Cx.blk (X : Cx) (s : Shared) (H : Hp) (scope : Scope) (cenv : Env) (fp : List Addr) : Cx := { X with s_0 := s, H_0 := H, env := cenv, outer := X.stack, ex := fp, fn := fun x => scope.names.lookup x == some .cell, pn := [], xe := fun _ _ => False }
section
variable {X : Cx} {pins : List (Addr × Obj)} {σ : St} {H : Hp} {s : Shared}
theorem block_start {scope : Scope} {own : List (Str × Nat)} {fp : List Addr} (I : Inv X pins σ H s) (ok : BlkOk X.N X.env.scope scope own) (hN : X.N.Nodup) (hfp : ∀ b ∈ fp, FpOk X pins H b ∧ b < s.heap.objs.size) :
    Inv (X.blk s H scope (compEnvC scope (cellsFrom (s.heap.objs.size + 1) scope.names (cloFrom X.env.cells scope.names [])) s.heap.objs.size X.env) fp) [] (wipe σ (own.map (·.2))) H { s with heap := pushCells (s.heap.push { cls := .type "dict", data := .dict #[] }) scope.names } := by
  have hfree : ∀ y ∈ scope.names, y.2 = .free → ∃ c, X.env.cells.lookup y.1 = some c := fun y hy e => by
    rcases ok.free y hy e with k | k
    · exact I.ok.has _ (.inl k)
    · exact I.ok.has _ (.inr k)
  generalize hcenv : compEnvC scope (cellsFrom (s.heap.objs.size + 1) scope.names (cloFrom X.env.cells scope.names [])) s.heap.objs.size X.env = cenv
  have kp : ∀ b o, s.heap.get? b = some o → (pushCells (s.heap.push { cls := .type "dict", data := .dict #[] }) scope.names).get? b = some o := fun b o e => pushCells_keeps _ _ _ _ (Heap.get?_push_of_some _ e)
  have hL : cenv.locals = s.heap.objs.size := by rw [← hcenv]; rfl
  have hcl : cenv.cells = cellsFrom (s.heap.objs.size + 1) scope.names (cloFrom X.env.cells scope.names []) := by rw [← hcenv]; rfl
  have hsc : cenv.scope = relS scope X.env.scope := by rw [← hcenv]; rfl
  rw [← Heap.size_push s.heap { cls := .type "dict", data := .dict #[] }] at hcl
  have cm : ∀ {y c}, (y, c) ∈ cloFrom X.env.cells scope.names [] → X.env.cells.lookup y = some c ∧ c < s.heap.objs.size := fun {y c} hm => by
    rcases cloFrom_mem hm with hm | ⟨h1, rfl⟩
    · cases hm
    · obtain ⟨c, hc⟩ := hfree _ h1 rfl
      rw [hc]
      obtain ⟨w, z⟩ := I.cell _ _ hc
      exact ⟨rfl, z.lt⟩
  have mem : ∀ {y c}, cenv.cells.lookup y = some c → (X.env.cells.lookup y = some c ∧ c < s.heap.objs.size) ∨ (s.heap.objs.size + 1 ≤ c ∧ CellAt (pushCells (s.heap.push { cls := .type "dict", data := .dict #[] }) scope.names) c none) := fun {y c} e => by
    rw [hcl] at e
    rcases cells_mem (PySem.mem_of_lookup e) with hm | ⟨_, h2, h3⟩
    · exact .inl (cm hm)
    · rw [Heap.size_push] at h2; exact .inr ⟨h2, h3⟩
  have look : ∀ {y}, scope.names.lookup y = some .free → ∃ c, cenv.cells.lookup y = some c ∧ X.env.cells.lookup y = some c := fun {y} hl => by
    have hy : (y, NameKind.free) ∈ scope.names := PySem.mem_of_lookup hl
    obtain ⟨c', e'⟩ := mem_lookup (cells_acc (names := scope.names) (n := (s.heap.push { cls := .type "dict", data := .dict #[] }).objs.size) (cloFrom_has (cells := X.env.cells) (acc := []) hy))
    rw [← hcl] at e'
    refine ⟨c', e', ?_⟩
    rw [hcl] at e'
    rcases cells_mem (PySem.mem_of_lookup e') with hm | ⟨h1, _, _⟩
    · exact (cm hm).1
    · have := ok.uniq _ h1
      rw [hl] at this; cases this
  have okB : (X.blk s H scope cenv fp).Ok := by
    refine ⟨I.ok.mod, by show cenv.scope.kind = _; rw [hsc]; exact ok.kind, by show cenv.globals = _; rw [← hcenv]; exact I.ok.glob, by show cenv.builtins = _; rw [← hcenv]; exact I.ok.blt, by show s.heap.objs.size ≤ cenv.locals; rw [hL]; exact Nat.le_refl _,
      fun y z c e1 e2 => ?_, fun y hy => ?_, fun y c z e => ?_, I.ok.hd, I.ok.frames, .inl rfl, fun b hb => ⟨?_, fun y c e z => ?_⟩, I.bs, Nat.le_trans I.ok.bsz I.sz, fun b o e hb => ?_, fun b hb z => ?_, I.stack, I.stkFree⟩
    · have e1 : cenv.cells.lookup y = some c := e1
      have e2 : cenv.cells.lookup z = some c := e2
      rw [hcl] at e1 e2
      refine cells_inj (fun p hp => ?_) (fun y z c a b => I.ok.inj y z c (cm a).1 (cm b).1) (PySem.mem_of_lookup e1) (PySem.mem_of_lookup e2)
      rw [Heap.size_push]
      exact Nat.lt_succ_of_lt (cm (y := p.1) (c := p.2) hp).2
    · show ∃ c, cenv.cells.lookup y = some c
      have key : ∀ k, cenv.kindOf y = some k → (k = .cell ∨ k = .free) → ∃ c, cenv.cells.lookup y = some c := fun k hk hk' => by
        unfold Env.kindOf at hk
        rw [hsc] at hk
        obtain ⟨k', e, r⟩ := lookup_relS hk
        have : k' = .cell ∨ k' = .free := by
          rcases r with rfl | ⟨rfl, _⟩
          · exact hk'
          · exact .inr rfl
        rcases this with rfl | rfl
        · obtain ⟨c, hm⟩ := cells_has (n := (s.heap.push { cls := .type "dict", data := .dict #[] }).objs.size) (acc := cloFrom X.env.cells scope.names []) (PySem.mem_of_lookup e)
          obtain ⟨c', e'⟩ := mem_lookup hm
          exact ⟨c', by rw [hcl]; exact e'⟩
        · obtain ⟨c, h1, _⟩ := look e
          exact ⟨c, h1⟩
      rcases hy with hy | hy
      · exact key _ hy (.inl rfl)
      · exact key _ hy (.inr rfl)
    · have z : (scope.names.lookup y == some NameKind.cell) = true := z
      have z : scope.names.lookup y = some .cell := by simpa using z
      have e : cenv.cells.lookup y = some c := e
      rw [hcl] at e
      rcases cells_mem (PySem.mem_of_lookup e) with hm | ⟨_, h2, _⟩
      · rcases cloFrom_mem hm with hm | ⟨h1, _⟩
        · cases hm
        · have q := ok.uniq _ h1
          rw [z] at q; cases q
      · rw [Heap.size_push] at h2
        exact Nat.le_of_succ_le h2
    · show b ≠ cenv.locals
      rw [hL]; exact Nat.ne_of_lt (hfp b hb).2
    · have e : cenv.cells.lookup y = some c := e
      rcases mem e with ⟨h1, _⟩ | ⟨h1, _⟩
      · exact (hfp b hb).1.2.2.2.2.1 y c h1 z
      · have h2 : s.heap.objs.size + 1 ≤ b := by rw [← z]; exact h1
        exact absurd (Nat.lt_of_lt_of_le (hfp b hb).2 (Nat.le_of_succ_le h2)) (Nat.lt_irrefl _)
    · rcases (hfp b hb).1.2.2.2.1 with z | z
      · exact I.ok.noex b o e z
      · exact absurd (Nat.lt_of_lt_of_le (Heap.lt_size e) (Nat.le_trans I.ok.bsz z)) (Nat.lt_irrefl _)
    · rcases List.mem_cons.mp (I.stkSub b z) with z | z
      · exact (hfp b hb).1.2.1 z
      · exact (hfp b hb).1.2.2.1 z
  refine ⟨okB, rfl, I.bare, Un.kept kp, ⟨fun _ => none, ?_, fun i y av e1 e2 e3 => ?_⟩, fun y c e => ?_, ?_, fun y c e => ?_, fun p hp => ?_, I.hok.kept kp, by rw [wipe_length]; exact I.len⟩
  · show Heap.Ns _ cenv.locals _
    rw [hL]
    exact Heap.Ns.keeps (Heap.Ns.new ..) fun b o e => pushCells_keeps _ _ _ _ e
  · obtain ⟨e2, hne⟩ := wipe_some e2
    have hfr : scope.names.lookup y = some .free ∧ (cenv.kindOf y = some .cell ∨ cenv.kindOf y = some .free) := by
      have key : ∀ k, cenv.scope.names.lookup y = some k → k = .local ∨ k = .cell ∨ k = .free → scope.names.lookup y = some .free ∧ (cenv.kindOf y = some .cell ∨ cenv.kindOf y = some .free) := fun k hk hk' => by
        have hk0 := hk
        rw [hsc] at hk
        obtain ⟨k', e, r⟩ := lookup_relS hk
        have no : ¬ (k' = .local ∨ k' = .cell) := fun hh => by
          rcases ok.own _ (PySem.mem_of_lookup e) hh with e' | e'
          · obtain ⟨p, hp, hpy⟩ := List.mem_map.mp e'
            have e3 := ok.ix p hp
            have : p.1 = y := hpy
            rw [this] at e3
            exact hne (List.mem_map.mpr ⟨p, hp, nodup_ix hN e3 e1⟩)
          · exact e' (List.mem_of_getElem? e1)
        rcases r with rfl | ⟨rfl, rfl⟩
        · rcases hk' with rfl | rfl | rfl
          · exact absurd (.inl rfl) no
          · exact absurd (.inr rfl) no
          · exact ⟨e, .inr hk0⟩
        · exact ⟨e, .inl hk0⟩
      have e3 : Vis cenv.scope y := e3
      rcases e3 with e3 | e3 | e3
      · exact key _ e3 (.inl rfl)
      · exact key _ e3 (.inr (.inl rfl))
      · exact key _ e3 (.inr (.inr rfl))
    obtain ⟨m, hn, hl⟩ := I.loc
    have hvis : Vis X.env.scope y := (ok.free _ (PySem.mem_of_lookup hfr.1) rfl).elim (fun k => .inr (.inl k)) (fun k => .inr (.inr k))
    obtain ⟨w, r, q⟩ := hl i y av e1 e2 hvis
    refine ⟨w, r, .inr ⟨hfr.2, ?_⟩⟩
    obtain ⟨c, h1, h2⟩ := look hfr.1
    rcases q with ⟨k, _⟩ | ⟨_, c', e', z⟩
    · have k : X.env.scope.names.lookup y = some .local := k
      rcases ok.free _ (PySem.mem_of_lookup hfr.1) rfl with k' | k' <;> rw [show X.env.scope.names.lookup y = _ from k'] at k <;> cases k
    · rw [h2] at e'; cases e'
      exact ⟨c, h1, z.keeps kp⟩
  · have e : cenv.cells.lookup y = some c := e
    rcases mem e with ⟨h1, _⟩ | ⟨_, z⟩
    · obtain ⟨w, z⟩ := I.cell y c h1
      exact ⟨w, z.keeps kp⟩
    · exact ⟨_, z⟩
  · show H cenv.locals = none
    rw [hL]; exact I.hok.fresh (Nat.le_refl _)
  · have e : cenv.cells.lookup y = some c := e
    rcases mem e with ⟨h1, _⟩ | ⟨h1, _⟩
    · exact I.freeC y c h1
    · exact I.hok.fresh (Nat.le_of_succ_le h1)
  · exact absurd (show p ∈ ([] : List (Addr × Obj)) ++ [] from hp) (by simp)

/-- an item appended to a tracked list -/
theorem app_ok {E : Value → Shared → Prop} {D : Addr} {xs : List V} {y : V} {v : Value} {Q : Value → Shared → Prop} (I : Inv X pins σ H s) (hD : H D = some (.lst xs)) (hz : xs.length < sizeLine) (r : RelV y v)
    (h : ∀ s', Inv X pins σ (upd H D (.lst (xs ++ [y]))) s' → Q .none s') : wpAny (model X.prog X.w) X.A (call (.builtin "list.append") [.ref D, v]) Q E s := by
  obtain ⟨hz', its, n, ri, e⟩ := I.hok D _ hD
  have hl := ri.length
  refine append_at (hsz := by rw [List.size_toArray]; omega) e fun h' sb ho' => ?_
  refine h { s with heap := h' } (I.write (t' := s.toks) (by rw [hD]; trivial) (.inl rfl) (fun b u hb q => (sb.2 b hb).trans q) ⟨_, ho'⟩ ⟨by rw [List.length_append]; exact hz, its ++ [v], n + 1, ri.append (.cons r .nil), ?_⟩)
  rw [ho']
  simp

/-- a clause's tests -/
def PTs (X : Cx) (ifs : List Expr) (t : TT) : Prop :=
  ∀ (pins : List (Addr × Obj)) (s : Shared) (σ : St) (H : Hp) (Q : Bool → Hp → Prop), Inv X pins σ H s → t σ H Q →
    wpAny (model X.prog X.w) X.A (forIn ifs true fun c r => if r = true then do let ok ← isTrue c X.env (eval c X.env); pure (ForInStep.yield ok) else pure (ForInStep.yield r)) (TP X pins σ Q) X.xe s
def tYes : TT := fun _ H Q => Q true H
theorem pts_nil : PTs X [] tYes := fun _ _ _ H _ I h => wpAny_tests_nil ⟨H, I, h⟩
theorem pts_one {c : Expr} {t : TT} (h : PT X c t) : PTs X [c] t := fun pins s σ H Q I hw => wpAny_tests_one (h pins s σ H Q I hw)
end

theorem thnF {α : Type} {t : Sem α} {Q Q' : α → Shared → Prop} {M : Model} {A : Around} {E : Value → Shared → Prop} {s : Shared} (h : wpAny M A t Q (fun _ _ => False) s) (hQ : ∀ a s, Q a s → Q' a s) : wpAny M A t Q' E s := wpAny_mono h hQ fun _ _ z => False.elim z

/-- the loop of a list comprehension's block, the target of any form (codeAny_compLoop_tests asks a target that no tuple goes to; statement and proof follow it, PyProof/CompMap.lean:41-61, with the step letOwnedTupleGo kept) -/
theorem compLoop_any {prog : Program} {w : World} {A : Around} {R : Result → Shared → Prop} {s : Shared} {elt target iter : Expr} {ifs : List Expr} {scope : Scope} {pos : Pos} {it acc : Value} {env : Env} (I : Nat → Shared → Prop)
    (turn : ∀ n s, I n s → wpAny (model prog w) A (pyNext it) (fun r s₁ => match r with
      | none => R (.ok .next) s₁
      | some v => wpAny (model prog w) A (letOwnedTupleGo target it v) (fun _ s₁' => wpAny (model prog w) A (assign target env v) (fun _ s₂ =>
          wpAny (model prog w) A (forIn ifs true fun c r => if r = true then do let ok ← isTrue c env (eval c env); pure (ForInStep.yield ok) else pure (ForInStep.yield r)) (fun ok s₃ =>
            if ok = true then wpAny (model prog w) A (eval elt env) (fun x s₄ =>
              wpAny (model prog w) A (call (.builtin "list.append") [acc, x]) (fun _ s₅ => ∃ m, m < n ∧ I m s₅) (notedBy (model prog w) A env fun e s' => R (.error e) s') s₄) (notedBy (model prog w) A env fun e s' => R (.error e) s') s₃
            else ∃ m, m < n ∧ I m s₃) (notedBy (model prog w) A env fun e s' => R (.error e) s') s₂) (notedBy (model prog w) A env fun e s' => R (.error e) s') s₁') (notedBy (model prog w) A env fun e s' => R (.error e) s') s₁) (notedBy (model prog w) A env fun e s' => R (.error e) s') s)
    (n : Nat) (h : I n s) :
    codeAny (model prog w) A (.compLoop (.ListComp elt [⟨target, iter, ifs, 0⟩] scope pos) 0 it acc env) R s := by
  refine codeAny_loop rfl I (fun n s hI => ?_) n h
  show wpAny _ A ((compTurn (.ListComp elt [⟨target, iter, ifs, 0⟩] scope pos) 0 it acc env).onRaise (fun x => do noteFrame x env; theTreesLotGoes x)) _ _ s
  refine wpAny_noted ?_
  rw [compTurn_list]
  refine wpAny_bind (wpAny_standAt (wpAny_bind (wpAny_mono (turn n s hI) (fun r s₁ h₁ => ?_) fun _ _ h' => h')))
  cases r with
  | none => exact wpAny_pure h₁
  | some v =>
    refine wpAny_bind (wpAny_mono h₁ (fun _ s₁' h₁' => ?_) fun _ _ h' => h')
    refine wpAny_bind (wpAny_mono h₁' (fun _ s₂ h₂ => wpAny_bind (wpAny_mono h₂ (fun ok s₃ h₃ => ?_) fun _ _ h' => h')) fun _ _ h' => h')
    cases ok with
    | false => exact wpAny_pure ⟨rfl, h₃⟩
    | true =>
      exact wpAny_bind (wpAny_bind (wpAny_mono h₃ (fun x s₄ h₄ => wpAny_bind (wpAny_mono h₄ (fun _ s₅ h₅ => wpAny_pure (wpAny_pure ⟨rfl, h₅⟩)) fun _ _ h' => h')) fun _ _ h' => h'))

section
variable {X : Cx}
/-- [elt for target in iter if ..]: D the new list; W by the turn and a measure, Nx what a turn is to reach -/
def tLc (wi : TI) (g : TG) (tt : TT) (te : TE) (vs : List Nat) : TE := fun σ H Q => wi σ H fun J H1 => ∀ D, H1 D = none → ∃ W : Nat → Nat → Hp → Prop, (∃ m, W 0 m (upd H1 D (.lst []))) ∧ ∀ i m H, W i m H →
  (J.stop i H ∧ Q (.ref D) H) ∨ (J.go i H ∧ ∃ Nx : Hp → Prop, (∀ H', Nx H' → ∃ m', m' < m ∧ W (i + 1) m' H') ∧ ∀ x H', J.yld i H x H' → g x (wipe σ vs) H' fun σ2 H2 => wipe σ2 vs = wipe σ vs ∧ tt σ2 H2 fun b H3 =>
    if b = true then te σ2 H3 fun y H4 => ∃ acc, H4 D = some (.lst acc) ∧ acc.length < sizeLine ∧ Nx (upd H4 D (.lst (acc ++ [y]))) else Nx H3)
theorem lc_core {pins : List (Addr × Obj)} {s : Shared} {σ : St} {H : Hp} {Q : VK} {elt tg iter : Expr} {ifs : List Expr} {scope : Scope} {own : List (Str × Nat)} {pos pos' : Pos} {wi : TI} {g : TG} {tt : TT} {te : TE} {use : Option (Value → Sem Unit)} {Qf : Value → Shared → Prop}
    (hc : X.calm = true) (hN : X.N.Nodup) (I : Inv X pins σ H s) (hi : PI X tg iter wi) (ok : BlkOk X.N X.env.scope scope own)
    (hg : ∀ (s : Shared) (H : Hp) (C : Addr) (cl : List (Str × Addr)) (fp : List Addr), PG (X.blk s H scope (compEnvC scope cl C X.env) fp) tg g) (ht : ∀ (s : Shared) (H : Hp) (C : Addr) (cl : List (Str × Addr)) (fp : List Addr), PTs (X.blk s H scope (compEnvC scope cl C X.env) fp) ifs tt)
    (he : ∀ (s : Shared) (H : Hp) (C : Addr) (cl : List (Str × Addr)) (fp : List Addr), PE (X.blk s H scope (compEnvC scope cl C X.env) fp) elt te) (hs : ∀ x, foldedSetIterable iter X.env x = pure x)
    (h : tLc wi g tt te (own.map (·.2)) σ H Q)
    (hRR : ∀ D C s' m H', Inv X pins σ H' s' → Q (.ref D) H' → s'.heap.Ns C m → FpOk X pins H' C → compPost (model X.prog X.w) X.A X.xe use Qf (.ref D) C (.ok .next) s') :
    wpAny (model X.prog X.w) X.A (comprehension (.ListComp elt [⟨tg, iter, ifs, 0⟩] scope pos) scope X.env pos' (newList []) false (eval iter X.env) use) Qf X.xe s := by
  have hfree : ∀ y ∈ scope.names, y.2 = .free → ∃ c, X.env.cells.lookup y.1 = some c := fun y hy e => by
    rcases ok.free y hy e with k | k
    · exact I.ok.has _ (.inl k)
    · exact I.ok.has _ (.inr k)
  refine wpAny_comprehension_free (use := use) rfl hs (closure_ok hfree) ok.kind (fun y hy e => by rw [ok.uniq y hy, e])
    (thn (hi pins s σ H _ I h) fun xv s1 hx => thn hx fun itv s2 h2 => ?_)
  obtain ⟨it, fp, tn, J, H2, e, I2, T, st2, f2, q⟩ := h2
  subst e
  refine wpAny_newObj_type (newEnv_comp ?_) (by show 0 ≤ sizeLine; decide)
  generalize hD : s2.heap.objs.size = D
  have hDn : H2 D = none := I2.hok.fresh (Nat.le_of_eq hD)
  obtain ⟨W, ⟨m0, w0⟩, turn⟩ := q D hDn
  -- the new list
  generalize hs3 : ({ s2 with heap := s2.heap.push { cls := .type "list", data := .seq ([] : List Value).toArray } } : Shared) = s3
  have I3 : Inv X pins σ (upd H2 D (.lst [])) s3 := by
    rw [← hs3]
    refine I2.laid (t' := s2.toks) (fun b o e => Heap.get?_push_of_some _ e) (Nat.le_of_eq hD) ⟨Nat.zero_le _, [], 0, .nil, ?_⟩
    rw [← hD]
    exact Heap.get?_push_size _ rfl
  have h3 : s3.heap = s2.heap.push { cls := .type "list", data := .seq ([] : List Value).toArray } := by rw [← hs3]
  have sz : ∀ b ∈ fp, b < s2.heap.objs.size := fun b hb => by
    obtain ⟨o, e, _⟩ := T.obj _ _ st2 b hb
    exact Heap.lt_size e
  have f3 : ∀ b ∈ fp, FpOk X pins (upd H2 D (.lst [])) b ∧ b < s3.heap.objs.size := fun b hb => by
    have hlt := sz b hb
    refine ⟨⟨?_, (f2 b hb).2⟩, by rw [h3, Heap.size_push]; exact Nat.lt_succ_of_lt hlt⟩
    rw [upd_ne (by rw [← hD]; exact Nat.ne_of_lt hlt)]
    exact (f2 b hb).1
  have st3 : tn 0 s3.heap := T.keep _ _ _ st2 fun b _ o e => by rw [h3]; exact Heap.get?_push_of_some _ e
  have I4 := block_start I3 ok hN f3
  have pg := hg s3 (upd H2 D (.lst [])) s3.heap.objs.size (cellsFrom (s3.heap.objs.size + 1) scope.names (cloFrom X.env.cells scope.names [])) fp
  have pt := ht s3 (upd H2 D (.lst [])) s3.heap.objs.size (cellsFrom (s3.heap.objs.size + 1) scope.names (cloFrom X.env.cells scope.names [])) fp
  have pe := he s3 (upd H2 D (.lst [])) s3.heap.objs.size (cellsFrom (s3.heap.objs.size + 1) scope.names (cloFrom X.env.cells scope.names [])) fp
  show codeAny _ _ (.compStart (.ListComp elt [⟨tg, iter, ifs, 0⟩] scope pos) 0 (.ref it) (.ref D) (compEnvC scope (cellsFrom (s3.heap.objs.size + 1) scope.names (cloFrom X.env.cells scope.names [])) s3.heap.objs.size X.env)) (compPost (model X.prog X.w) X.A X.xe use Qf (.ref D) s3.heap.objs.size) { s3 with heap := pushCells (s3.heap.push { cls := .type "dict", data := .dict #[] }) scope.names }
  have nfp : ∀ b ∈ fp, (upd H2 D (.lst [])) b = none := fun b hb => (f3 b hb).1.1
  generalize hce : compEnvC scope (cellsFrom (s3.heap.objs.size + 1) scope.names (cloFrom X.env.cells scope.names [])) s3.heap.objs.size X.env = ce at I4 pg pt pe ⊢
  have cL : ce.locals = s3.heap.objs.size := by subst hce; rfl
  generalize hH3 : upd H2 D (.lst []) = H3 at I3 I4 pg pt pe w0 nfp f3
  generalize hs4 : ({ s3 with heap := pushCells (s3.heap.push { cls := .type "dict", data := .dict #[] }) scope.names } : Shared) = s4 at I4 ⊢
  have st4 : tn 0 s4.heap := T.keep _ _ _ st3 fun b _ o e => by rw [← hs4]; exact pushCells_keeps _ _ _ _ (Heap.get?_push_of_some _ e)
  have stat : ∀ {σ' : St} {H' : Hp} {s' : Shared}, Inv (X.blk s3 H3 scope ce fp) [] σ' H' s' → (∀ b ∈ fp, H' b = none) → ∀ b ∈ fp, FpOk (X.blk s3 H3 scope ce fp) [] H' b := fun {σ' H' s'} I' hn b hb =>
    ⟨hn b hb, (I'.ok.exf b hb).1, I'.ok.exfs b hb, .inl hb, fun x c e => (I'.ok.exf b hb).2 x c e, fun p hp => absurd (show p ∈ ([] : List (Addr × Obj)) ++ [] from hp) (by simp)⟩
  have loop : codeAny (model X.prog X.w) X.A (.compLoop (.ListComp elt [⟨tg, iter, ifs, 0⟩] scope pos) 0 (.ref it) (.ref D) ce) (compPost (model X.prog X.w) X.A X.xe use Qf (.ref D) s3.heap.objs.size) s4 := by
    refine compLoop_any (fun n s' => ∃ i H', Inv (X.blk s3 H3 scope ce fp) [] (wipe σ (own.map (·.2))) H' s' ∧ tn i s'.heap ∧ (∀ b ∈ fp, H' b = none) ∧ W i n H') ?_ m0 ⟨0, H3, I4, st4, nfp, w0⟩
    rintro n s5 ⟨i, H5, I5, st5, n5, w5⟩
    rcases turn i n H5 w5 with ⟨stop, qq⟩ | ⟨go, Nx, hNx, step⟩
    · have td := T.done (X.blk s3 H3 scope ce fp) rfl rfl rfl hc i [] s5 _ H5 (fun _ _ => False) I5 (stat I5 n5) st5 stop
      refine thnF td fun r s6 ⟨hr, I6⟩ => ?_
      subst hr
      -- back in the def's context
      have I7 : Inv X pins σ H5 s6 := I3.call' (ch := fp) I6.os I6.base I6.hok I6.bare fun b hb => ⟨(f3 b hb).1.2.2.2.1, (f3 b hb).1.2.1, (f3 b hb).1.2.2.2.2.1, (f3 b hb).1.2.2.2.2.2⟩
      have nC : H5 s3.heap.objs.size = none := by
        have z : H5 ce.locals = none := I6.free
        rw [cL] at z
        exact z
      obtain ⟨m, hn, _⟩ := I6.loc
      have hn : s6.heap.Ns ce.locals m := hn
      rw [cL] at hn
      exact hRR D s3.heap.objs.size s6 m H5 I7 qq hn (I3.fpOk (Nat.le_refl _) nC)
    · have ti := T.item (X.blk s3 H3 scope ce fp) rfl rfl rfl hc i [] s5 _ H5 (fun _ _ => False) I5 (stat I5 n5) st5 go
      refine thnF ti fun r s6 ⟨u, hr, h6⟩ => ?_
      subst hr
      refine thnF h6 fun _ s7 ⟨x, H7, I7, r7, y7, st7, n7⟩ => ?_
      have I7' := I7.pinned (stat I7 n7) (T.obj _ _ st7)
      refine thnF (pg _ s7 _ H7 x u _ I7' r7 (step x H7 y7)) fun _ s8 ⟨σ8, H8, I8, hw8, q8⟩ => ?_
      refine thnF (pt _ s8 σ8 H8 _ I8 q8) fun b s9 ⟨H9, I9, q9⟩ => ?_
      -- the turn's end
      have fin : ∀ {s' : Shared} {H' : Hp}, Inv (X.blk s3 H3 scope ce fp) ([] ++ pinsAt fp s7.heap) σ8 H' s' → Nx H' → ∃ m, m < n ∧ ∃ i H', Inv (X.blk s3 H3 scope ce fp) [] (wipe σ (own.map (·.2))) H' s' ∧ tn i s'.heap ∧ (∀ b ∈ fp, H' b = none) ∧ W i m H' := fun {s' H'} I' nx => by
        obtain ⟨m', hm, w'⟩ := hNx H' nx
        have pin' : ∀ b ∈ fp, ∀ o, s7.heap.get? b = some o → s'.heap.get? b = some o ∧ H' b = none := fun b hb o e =>
          let z := I'.pin (b, o) (List.mem_append_right _ (List.mem_append_right _ (mem_pinsAt hb e)))
          ⟨z.1, z.2.1⟩
        have hl : (wipe σ (own.map (·.2))).length = σ8.length := by rw [← hw8, wipe_length]
        refine ⟨m', hm, i + 1, H', (I'.unpinned (pins := [])).weak hl (fun j v e => ?_), T.keep _ _ _ st7 fun b hb o e => (pin' b hb o e).1, fun b hb => ?_, w'⟩
        · rw [← hw8] at e
          exact (wipe_some e).1
        · obtain ⟨o, e, _⟩ := T.obj _ _ st7 b hb
          exact (pin' b hb o e).2
      cases b with
      | false =>
        simp only [Bool.false_eq_true, if_false] at q9 ⊢
        exact fin I9 q9
      | true =>
        simp only [if_true] at q9 ⊢
        refine thnF (pe _ s9 σ8 H9 _ I9 q9) fun z s10 ⟨yv, H10, I10, r10, acc, hD10, hz10, nx⟩ => ?_
        exact app_ok (X := X.blk s3 H3 scope ce fp) I10 hD10 hz10 r10 fun s11 I11 => fin I11 nx
  exact codeAny_compStart_list loop (T.self X.A 0 _ _ _ st4 loop)
/-- as a value -/
theorem pe_lc {elt tg iter : Expr} {ifs : List Expr} {scope : Scope} {own : List (Str × Nat)} {pos : Pos} {wi : TI} {g : TG} {tt : TT} {te : TE} (hc : X.calm = true) (hN : X.N.Nodup) (hi : PI X tg iter wi) (ok : BlkOk X.N X.env.scope scope own)
    (hg : ∀ (s : Shared) (H : Hp) (C : Addr) (cl : List (Str × Addr)) (fp : List Addr), PG (X.blk s H scope (compEnvC scope cl C X.env) fp) tg g) (ht : ∀ (s : Shared) (H : Hp) (C : Addr) (cl : List (Str × Addr)) (fp : List Addr), PTs (X.blk s H scope (compEnvC scope cl C X.env) fp) ifs tt)
    (he : ∀ (s : Shared) (H : Hp) (C : Addr) (cl : List (Str × Addr)) (fp : List Addr), PE (X.blk s H scope (compEnvC scope cl C X.env) fp) elt te) (hs : ∀ x, foldedSetIterable iter X.env x = pure x := by intro _; rfl) :
    PE X (.ListComp elt [⟨tg, iter, ifs, 0⟩] scope pos) (tLc wi g tt te (own.map (·.2))) := by
  intro pins s σ H Q I h
  rw [eval_ListComp]
  refine lc_core hc hN I hi ok hg ht he hs h fun D C s' m H' I' q hn f => ⟨m, hn, fun h'' sb => ?_⟩
  obtain ⟨f0, f1, f2, f3, f4, f5⟩ := f
  exact ⟨.ref D, H', I'.turned (t' := s'.toks) (fun b o hb e => (sb.2 b hb).trans e) f0 f1 f3 f4 f5, rfl, q⟩
/-- name = [..] on one line, the name a local -/
theorem ps_setLc {i : Nat} {y : Str} {py : Pos} {elt tg iter : Expr} {ifs : List Expr} {scope : Scope} {own : List (Str × Nat)} {pos spos : Pos} {wi : TI} {g : TG} {tt : TT} {te : TE} (hc : X.calm = true) (hN : X.N.Nodup) (hy : X.N[i]? = some y) (hyl : X.env.scope.names.lookup y = some .local)
    (hsw : swapsWith (.ListComp elt [⟨tg, iter, ifs, 0⟩] scope pos) (some (.Name y py)) spos.line X.env = pure true) (hi : PI X tg iter wi) (ok : BlkOk X.N X.env.scope scope own)
    (hg : ∀ (s : Shared) (H : Hp) (C : Addr) (cl : List (Str × Addr)) (fp : List Addr), PG (X.blk s H scope (compEnvC scope cl C X.env) fp) tg g) (ht : ∀ (s : Shared) (H : Hp) (C : Addr) (cl : List (Str × Addr)) (fp : List Addr), PTs (X.blk s H scope (compEnvC scope cl C X.env) fp) ifs tt)
    (he : ∀ (s : Shared) (H : Hp) (C : Addr) (cl : List (Str × Addr)) (fp : List Addr), PE (X.blk s H scope (compEnvC scope cl C X.env) fp) elt te) (hs : ∀ x, foldedSetIterable iter X.env x = pure x := by intro _; rfl) :
    PS X (.Assign [.Name y py] (.ListComp elt [⟨tg, iter, ifs, 0⟩] scope pos) spos) (tAsg (tLc wi g tt te (own.map (·.2))) (gName i)) := by
  intro pins s σ H D I h
  rw [exec_Assign_Name_used _ _ _ _ hsw]
  refine wpAny_bind (wpAny_standAt (wpAny_bind ?_))
  show wpAny _ X.A (do let _ ← comprehension (.ListComp elt [⟨tg, iter, ifs, 0⟩] scope pos) scope X.env (firstIterPos [⟨tg, iter, ifs, 0⟩] pos) (newList []) false (eval iter X.env) (some (assign (.Name y py) X.env))) _ _ s
  have h : tLc wi g tt te (own.map (·.2)) σ H (fun x H1 => gName i x σ H1 D.nx) := h
  refine wpAny_bind (thn (lc_core (Qf := fun _ s' => SP X pins D .next s') hc hN I hi ok hg ht he hs h fun L C s' m H' I' q hn f => ?_) fun _ s' hq => wpAny_pure (wpAny_pure hq))
  show wpAny _ _ (assign (.Name y py) X.env (.ref L)) _ _ _
  refine wpAny_assign_Name (store_ok2 (v := V.ref L) I' hN hy (.inl hyl) rfl (fun s2 I2 ⟨a, sb, ha⟩ => ?_) (.inr hyl))
  obtain ⟨f0, f1, f2, f3, f4, f5⟩ := f
  have haC : C ≠ a := by
    rcases ha with z | z
    · rw [z]; exact f1
    · exact fun e => f4 y a z e.symm
  refine ⟨m, hn.sameBut sb haC, fun h3 sb3 => ?_⟩
  exact ⟨_, H', I2.turned (t' := s2.toks) (fun b o hb e => (sb3.2 b hb).trans e) f0 f1 f3 f4 f5, q⟩
theorem sw_true {elt : Expr} {gs : List Comprehension} {scope : Scope} {pos py : Pos} {y : Str} {l : Nat} {env : Env} (hk : env.scope.kind = .function) (hy : env.scope.names.lookup y = some .local) (hl : (py.line == pos.line) = true)
    (ha : (scope.names.any fun (n, k) => n == y && (k == .local || k == .cell)) = false) : swapsWith (.ListComp elt gs scope pos) (some (.Name y py)) l env = pure true := by
  have ky : env.kindOf y = some .local := hy
  have hb : env.blockKind = .function := by unfold Env.blockKind; rw [hk]; rfl
  unfold swapsWith
  simp only [hb, ky, ha, Expr.pos, hl]
  rfl
end

/-! ### the forms one uses -/
/-- over a range: Pv by the turn and the heap (the new list at D within) -/
theorem lc_range {lo : Int} {n : Nat} {g : TG} {tt : TT} {te : TE} {vs : List Nat} {σ : St} {H1 : Hp} {D : Addr} {Qd : Hp → Prop} (Pv : Nat → Hp → Prop) (h0 : Pv 0 (upd H1 D (.lst [])))
    (hs : ∀ i H, i < n → Pv i H → g (.int (lo + i)) (wipe σ vs) H fun σ2 H2 => wipe σ2 vs = wipe σ vs ∧ tt σ2 H2 fun b H3 =>
      if b = true then te σ2 H3 fun y H4 => ∃ acc, H4 D = some (.lst acc) ∧ acc.length < sizeLine ∧ Pv (i + 1) (upd H4 D (.lst (acc ++ [y]))) else Pv (i + 1) H3) (hd : ∀ H, Pv n H → Qd H) :
    ∃ W : Nat → Nat → Hp → Prop, (∃ m, W 0 m (upd H1 D (.lst []))) ∧ ∀ i m H, W i m H →
      ((Itr lo n).stop i H ∧ Qd H) ∨ ((Itr lo n).go i H ∧ ∃ Nx : Hp → Prop, (∀ H', Nx H' → ∃ m', m' < m ∧ W (i + 1) m' H') ∧ ∀ x H', (Itr lo n).yld i H x H' → g x (wipe σ vs) H' fun σ2 H2 => wipe σ2 vs = wipe σ vs ∧ tt σ2 H2 fun b H3 =>
        if b = true then te σ2 H3 fun y H4 => ∃ acc, H4 D = some (.lst acc) ∧ acc.length < sizeLine ∧ Nx (upd H4 D (.lst (acc ++ [y]))) else Nx H3) := by
  refine ⟨fun i m H => m = n - i ∧ i ≤ n ∧ Pv i H, ⟨n, by simp, Nat.zero_le _, h0⟩, ?_⟩
  rintro i m H ⟨rfl, hi, p⟩
  by_cases hlt : i < n
  · refine .inr ⟨hlt, Pv (i + 1), fun H' p' => ⟨n - (i + 1), by omega, rfl, hlt, p'⟩, fun x H' y => ?_⟩
    obtain ⟨e, y⟩ := y
    subst e y
    exact hs i _ hlt p
  · have e : i = n := by omega
    subst e
    exact .inl ⟨Nat.le_refl _, hd H p⟩
/-- over a list that the block leaves as it is -/
theorem lc_list {K : PySem.W.Frag} {a : Addr} {xs : List V} {g : TG} {tt : TT} {te : TE} {vs : List Nat} {σ : St} {H1 : Hp} {D : Addr} {Qd : Hp → Prop} (Pv : Nat → Hp → Prop) (h0 : Pv 0 (upd H1 D (.lst []))) (hl : ∀ i H, i ≤ xs.length → Pv i H → SqL K H a xs)
    (hs : ∀ i x H, xs[i]? = some x → Pv i H → g x (wipe σ vs) H fun σ2 H2 => wipe σ2 vs = wipe σ vs ∧ tt σ2 H2 fun b H3 =>
      if b = true then te σ2 H3 fun y H4 => ∃ acc, H4 D = some (.lst acc) ∧ acc.length < sizeLine ∧ Pv (i + 1) (upd H4 D (.lst (acc ++ [y]))) else Pv (i + 1) H3) (hd : ∀ H, Pv xs.length H → Qd H) :
    ∃ W : Nat → Nat → Hp → Prop, (∃ m, W 0 m (upd H1 D (.lst []))) ∧ ∀ i m H, W i m H →
      ((Itl K a).stop i H ∧ Qd H) ∨ ((Itl K a).go i H ∧ ∃ Nx : Hp → Prop, (∀ H', Nx H' → ∃ m', m' < m ∧ W (i + 1) m' H') ∧ ∀ x H', (Itl K a).yld i H x H' → g x (wipe σ vs) H' fun σ2 H2 => wipe σ2 vs = wipe σ vs ∧ tt σ2 H2 fun b H3 =>
        if b = true then te σ2 H3 fun y H4 => ∃ acc, H4 D = some (.lst acc) ∧ acc.length < sizeLine ∧ Nx (upd H4 D (.lst (acc ++ [y]))) else Nx H3) := by
  refine ⟨fun i m H => m = xs.length - i ∧ i ≤ xs.length ∧ Pv i H, ⟨xs.length, by simp, Nat.zero_le _, h0⟩, ?_⟩
  rintro i m H ⟨rfl, hi, p⟩
  have q := hl i H hi p
  by_cases hlt : i < xs.length
  · refine .inr ⟨⟨xs, xs[i], q, by simp [hlt]⟩, Pv (i + 1), fun H' p' => ⟨xs.length - (i + 1), by omega, rfl, hlt, p'⟩, fun x H' y => ?_⟩
    obtain ⟨e, y⟩ := y
    subst e
    exact hs i x _ (y xs q) p
  · have e : i = xs.length := by omega
    subst e
    exact .inl ⟨⟨xs, q, Nat.le_refl _⟩, hd H p⟩
def blkC (N : List Str) (sc scope : Scope) (own : List (Str × Nat)) : Bool :=
  (match scope.kind with | .function => true | _ => false) && (scope.names.all fun y => decide (scope.names.lookup y.1 = some y.2)) && (own.all fun p => decide (N[p.2]? = some p.1)) &&
    (scope.names.all fun y => match y.2 with
      | .free => (match sc.names.lookup y.1 with | some .cell => true | some .free => true | _ => false)
      | .local => decide (y.1 ∈ own.map (·.1)) || decide (y.1 ∉ N)
      | .cell => decide (y.1 ∈ own.map (·.1)) || decide (y.1 ∉ N)
      | _ => true)
theorem blkOk_by {N : List Str} {sc scope : Scope} {own : List (Str × Nat)} (h : blkC N sc scope own = true) : BlkOk N sc scope own := by
  unfold blkC at h
  simp only [Bool.and_eq_true, List.all_eq_true, decide_eq_true_eq] at h
  obtain ⟨⟨⟨h1, h2⟩, h3⟩, h4⟩ := h
  refine ⟨?_, h2, h3, fun y hy e => ?_, fun y hy e => ?_⟩
  · split at h1
    · assumption
    · cases h1
  · have q := h4 y hy
    simp only [e] at q
    split at q <;> first | exact .inl (by assumption) | exact .inr (by assumption) | cases q
  · have q := h4 y hy
    rcases e with e | e <;> (simp only [e, Bool.or_eq_true, decide_eq_true_eq] at q; exact q)
end L2

namespace L2
open PySem PySem.Spec PyProof.Rows

section
variable {prog : Program} {w : World} {A : Around} {R : Result → Shared → Prop} {s : Shared} {elt t0 i0 t1 i1 : Expr} {ifs0 ifs1 : List Expr} {scope : Scope} {pos : Pos} {it acc : Value} {env : Env}
end

section
variable {X : Cx}
/-- [elt for tg in iter if .. for tg1 in iter1 if ..]: behind the first clause's store and tests the second source's own loop, from which Nx is reached. vs: the block's names; vs1: those of the second target -/
def tLc2 (wi : TI) (g : TG) (tt : TT) (wi1 : TI) (g1 : TG) (tt1 : TT) (te : TE) (vs vs1 : List Nat) : TE := fun σ H Q => wi σ H fun J H1 => ∀ D, H1 D = none → ∃ W : Nat → Nat → Hp → Prop, (∃ m, W 0 m (upd H1 D (.lst []))) ∧ ∀ i m H, W i m H →
  (J.stop i H ∧ Q (.ref D) H) ∨ (J.go i H ∧ ∃ Nx : Hp → Prop, (∀ H', Nx H' → ∃ m', m' < m ∧ W (i + 1) m' H') ∧ ∀ x H', J.yld i H x H' → g x (wipe σ vs) H' fun σ2 H2 => wipe σ2 vs = wipe σ vs ∧ tt σ2 H2 fun b H3 =>
    if b = true then wi1 σ2 H3 fun J1 H4 => ∃ W1 : Nat → Nat → Hp → Prop, (∃ m, W1 0 m H4) ∧ ∀ j k H, W1 j k H →
      (J1.stop j H ∧ Nx H) ∨ (J1.go j H ∧ ∃ Nx1 : Hp → Prop, (∀ H', Nx1 H' → ∃ k', k' < k ∧ W1 (j + 1) k' H') ∧ ∀ x H', J1.yld j H x H' → g1 x (wipe σ2 vs1) H' fun σ3 H5 => wipe σ3 vs1 = wipe σ2 vs1 ∧ tt1 σ3 H5 fun b H6 =>
        if b = true then te σ3 H6 fun y H7 => ∃ acc, H7 D = some (.lst acc) ∧ acc.length < sizeLine ∧ Nx1 (upd H7 D (.lst (acc ++ [y]))) else Nx1 H6)
    else Nx H3)
end
end L2

namespace L2
open PySem PySem.Spec PyProof.Rows

/-! ### lists of pairs as tables -/
section
variable {κ : Type} [DecidableEq κ]
def valV (kvs : List (κ × V)) (k : κ) : Option V := (kvs.find? fun kv => decide (kv.1 = k)).map (·.2)
/-- in its place, or at the end -/
def putK (kvs : List (κ × V)) (k : κ) (v : V) : List (κ × V) :=
  if (kvs.any fun kv => decide (kv.1 = k)) = true then kvs.map (fun kv => if kv.1 = k then (kv.1, v) else kv) else kvs ++ [(k, v)]
def dropK (kvs : List (κ × V)) (k : κ) : List (κ × V) := kvs.filter fun kv => decide (kv.1 ≠ k)

end


/-! ### a tracked dict, its keys ints and texts or tuples of these -/
/-- raw entries of a dict with tuple keys -/
abbrev KT (H : Hp) : List (List Key × V) → List (List Key × Addr × Value) → Prop := Paired fun p q => p.1 = q.1 ∧ H q.2.1 = some (.tup (p.1.map kV)) ∧ RelV p.2 q.2.2
section
variable {P : Program} {w : World} {H : Hp} {h : Heap} {a : Addr}
end

/-- what the dict at a holds at the key y -/
def DGet (H : Hp) (a : Addr) (y : V) (r : Option V) : Prop :=
  (∃ kvs k, Rd H a (.dK kvs) ∧ y = kV k ∧ r = valV kvs k) ∨ ∃ kvs k b, Rd H a (.dT kvs) ∧ y = .ref b ∧ H b = some (.tup (k.map kV)) ∧ r = valV kvs k
/-- the heap behind a[y] = v -/
def DPut (H : Hp) (a : Addr) (y v : V) (H' : Hp) : Prop :=
  (∃ kvs k, H a = some (.dK kvs) ∧ y = kV k ∧ kvs.length < sizeLine ∧ H' = upd H a (.dK (putK kvs k v))) ∨
  ∃ kvs k b, H a = some (.dT kvs) ∧ y = .ref b ∧ H b = some (.tup (k.map kV)) ∧ kvs.length < sizeLine ∧ H' = upd H a (.dT (putK kvs k v))
section
variable {X : Cx} {pins : List (Addr × Obj)} {σ : St} {H : Hp} {s : Shared} {a : Addr} {y v : V} {u r : Value} {o : Option V} {A : Around} {E : Value → Shared → Prop}

end

section
variable {X : Cx} {pins : List (Addr × Obj)} {σ : St} {H : Hp} {s : Shared} {a : Addr} {kvs : List (Key × V)} {k : Key} {u : Value} {A : Around} {E : Value → Shared → Prop}
end


/-! ### readings and rules -/
/-- the element of a subscription, not a slice -/
def NoSl (i : Expr) : Prop := ∀ ov iv, subscripted i false ov iv = operate [ov, iv] (getItem ov iv)
/-- d[y] -/
def tDGet (td ty : TE) : TE := fun σ H Q => td σ H fun x H1 => ty σ H1 fun y H2 => ∃ a v, x = .ref a ∧ DGet H2 a y (some v) ∧ Q v H2
/-- y in d, y not in d -/
def tDIn (ty td : TE) : TE := fun σ H Q => ty σ H fun y H1 => td σ H1 fun x H2 => ∃ a o, x = .ref a ∧ DGet H2 a y o ∧ Q (.bl o.isSome) H2
def tDNotIn (ty td : TE) : TE := fun σ H Q => ty σ H fun y H1 => td σ H1 fun x H2 => ∃ a o, x = .ref a ∧ DGet H2 a y o ∧ Q (.bl (!o.isSome)) H2
/-- d[y] = v -/
def sDPut (td ty tv : TE) : TS := fun D σ H => tv σ H fun v H1 => td σ H1 fun x H2 => ty σ H2 fun y H3 => ∃ a H4, x = .ref a ∧ DPut H3 a y v H4 ∧ D.nx σ H4
/-- d[y] op= v -/
def sDAug (td ty tv : TE) (rd : V → V → Hp → VK → Prop) : TS := fun D σ H => td σ H fun x H1 => ty σ H1 fun y H2 => ∃ a v, x = .ref a ∧ DGet H2 a y (some v) ∧
  tv σ H2 fun y2 H3 => rd v y2 H3 fun z H4 => ∃ H5, DPut H4 a y z H5 ∧ D.nx σ H5
/-- del d[y] -/
def sDDel (td ty : TE) : TS := fun D σ H => td σ H fun x H1 => ty σ H1 fun y H2 => ∃ a kvs k, x = .ref a ∧ H2 a = some (.dK kvs) ∧ y = kV k ∧ (valV kvs k).isSome = true ∧ D.nx σ (upd H2 a (.dK (dropK kvs k)))

section
variable {X : Cx} {o i e value : Expr} {pos pos' tpos : Pos} {td ty tv : TE}
end


/-! ### displays -/
/-- {}, to be a dict of the kind that is wanted -/
def tDNewK : TE := fun _ H Q => ∀ p, H p = none → Q (.ref p) (upd H p (.dK []))
def tDNewT : TE := fun _ H Q => ∀ p, H p = none → Q (.ref p) (upd H p (.dT []))
section
variable {X : Cx} {pos : Pos}
end

/-- the pairs of a display, from the left -/
def tPairs : List (TE × TE) → St → Hp → (List (V × V) → Hp → Prop) → Prop
  | [], _, H, Q => Q [] H
  | (tk, tv) :: r, σ, H, Q => tk σ H fun x H1 => tv σ H1 fun y H2 => tPairs r σ H2 fun ps H3 => Q ((x, y) :: ps) H3
abbrev VV : List (V × V) → List (Value × Value) → Prop := Paired fun p q => RelV p.1 q.1 ∧ RelV p.2 q.2
def PPs (X : Cx) (pos : Pos) (keys : List (Option Expr)) (values : List Expr) (trs : List (TE × TE)) : Prop :=
  ∀ (pins : List (Addr × Obj)) (s : Shared) (σ : St) (H : Hp) (Q : List (V × V) → Hp → Prop), Inv X pins σ H s → tPairs trs σ H Q →
    wpAny (model X.prog X.w) X.A (evalPairs (pairTrees keys values X.env pos)) (fun vs s' => ∃ ps H', Inv X pins σ H' s' ∧ VV ps vs ∧ Q ps H') X.xe s
def mergeK (kvs more : List (Key × V)) : List (Key × V) := more.foldl (fun acc kv => putK acc kv.1 kv.2) kvs
/-- {k: v, ..} with keys ints and texts; the new dict stands empty while the pairs are made -/
def tDisp (trs : List (TE × TE)) : TE := fun σ H Q => ∀ p, H p = none → tPairs trs σ (upd H p (.dK [])) fun ps H2 => H2 p = some (.dK []) ∧ ∃ kvs : List (Key × V), ps = kvs.map (fun kv => (kV kv.1, kv.2)) ∧ kvs.length ≤ 15 ∧ Q (.ref p) (upd H2 p (.dK (mergeK [] kvs)))
/-! ### methods -/
/-- a method call o.m(e) of a built-in, with one argument: what must be seen of the text -/
structure M1 (X : Cx) (o : Expr) (m : Str) (apos : Pos) (e : Expr) (cpos : Pos) : Prop where
  base : attributeBase o m X.env (eval o X.env) = eval o X.env
  few : ((backTo cpos (starEach [e] X.env)).all (fun x => !x.1) && (backToKw cpos (keywordEach [] X.env)).all (fun x => x.1.isSome)
    && decide (([e] : List Expr).length + ([] : List Keyword).length + (if ([] : List Keyword).isEmpty then 0 else 1) < 30)) = true
  line : (apos.endLine == cpos.line) = true
  trees : backTo cpos (starEach [e] X.env) = [(false, eval e X.env)]
structure M2 (X : Cx) (o : Expr) (m : Str) (apos : Pos) (e f : Expr) (cpos : Pos) : Prop where
  base : attributeBase o m X.env (eval o X.env) = eval o X.env
  few : ((backTo cpos (starEach [e, f] X.env)).all (fun x => !x.1) && (backToKw cpos (keywordEach [] X.env)).all (fun x => x.1.isSome)
    && decide (([e, f] : List Expr).length + ([] : List Keyword).length + (if ([] : List Keyword).isEmpty then 0 else 1) < 30)) = true
  line : (apos.endLine == cpos.line) = true
  trees : backTo cpos (starEach [e, f] X.env) = [(false, eval e X.env), (false, eval f X.env)]

/-- a is a dict, whatever its keys -/
def IsD (H : Hp) (a : Addr) : Prop := (∃ kvs, Rd H a (.dK kvs)) ∨ ∃ kvs, Rd H a (.dT kvs)
section
variable {X : Cx} {pins : List (Addr × Obj)} {σ : St} {H : Hp} {s : Shared} {a : Addr} {y d : V} {u r : Value} {o : Option V} {A : Around} {E : Value → Shared → Prop}
end

def tDGet1 (td ty : TE) : TE := fun σ H Q => td σ H fun x H1 => ∃ a, x = .ref a ∧ IsD H1 a ∧ ty σ H1 fun y H2 => ∃ o, DGet H2 a y o ∧ Q (o.getD .non) H2
def tDGet2 (td ty tx : TE) : TE := fun σ H Q => td σ H fun x H1 => ∃ a, x = .ref a ∧ IsD H1 a ∧ ty σ H1 fun y H2 => tx σ H2 fun z H3 => ∃ o, DGet H3 a y o ∧ Q (o.getD z) H3
/-- d.pop(k): there; d.pop(k, x): there or not -/
def tDPop1 (td ty : TE) : TE := fun σ H Q => td σ H fun x H1 => ∃ a, x = .ref a ∧ IsD H1 a ∧ ty σ H1 fun y H2 => ∃ kvs k v, H2 a = some (.dK kvs) ∧ y = kV k ∧ valV kvs k = some v ∧ Q v (upd H2 a (.dK (dropK kvs k)))
def tDPop2 (td ty tx : TE) : TE := fun σ H Q => td σ H fun x H1 => ∃ a, x = .ref a ∧ IsD H1 a ∧ ty σ H1 fun y H2 => tx σ H2 fun z H3 => ∃ kvs k, H3 a = some (.dK kvs) ∧ y = kV k ∧
  (∀ v, valV kvs k = some v → Q v (upd H3 a (.dK (dropK kvs k)))) ∧ (valV kvs k = none → Q z H3)
section
variable {X : Cx} {o e f : Expr} {apos cpos : Pos} {td ty tx : TE}
end

/-! ### dict(d): a copy -/
section
variable {X : Cx} {pins : List (Addr × Obj)} {σ : St} {H : Hp} {s : Shared} {a : Addr} {kvs : List (Key × V)} {A : Around} {E : Value → Shared → Prop}
end


section
variable {X : Cx} {pins : List (Addr × Obj)} {σ : St} {H : Hp} {s : Shared} {a : Addr} {y : V} {u : Value} {A : Around} {E : Value → Shared → Prop}
end
end L2

namespace L2
open PySem PySem.Spec PyProof.Rows

section
variable {prog : Program} {w : World} {A : Around} {E : Value → Shared → Prop}
end

section
variable {X : Cx}
end
end L2

namespace L2
open PySem PySem.Spec PyProof.Rows

theorem boot_reversed5 : bootBuiltins "reversed" = some (.type "reversed") := by decide +kernel

section
variable {X : Cx} {pins : List (Addr × Obj)} {σ : St} {H : Hp} {s : Shared} {h' : Heap}
/-- .. and one new object is laid -/
theorem Inv.turnedNew {t' : Nat} {ch : List Addr} {T : Addr} {ob : HO} (I : Inv X pins σ H s) (k : ∀ b o, b ∉ ch → s.heap.get? b = some o → h'.get? b = some o) (hf : ∀ b ∈ ch, FpOk X pins H b) (hT : s.heap.objs.size ≤ T)
    (new : ObjOk X.prog X.w (upd H T ob) h' T ob) : Inv X pins σ (upd H T ob) { s with heap := h', toks := t' } := by
  have hn : H T = none := I.hok.fresh hT
  have nit : ∀ b u, H b = some u → b ∉ ch := fun b u e z => by
    have q := (hf b z).1
    rw [q] at e; cases e
  refine I.step (g' := s.gens) (d' := s.drawn) (ch := ch) (fun b hb => ⟨(hf b hb).2.2.2.1, (hf b hb).2.1, (hf b hb).2.2.2.2.1, (hf b hb).2.2.2.2.2⟩) (fun b o _ _ hc e _ => k b o hc e) (fun b o _ _ hc e _ => ⟨o.slots, k b o hc e⟩)
    (fun b o _ e n => ?_) (fun b o hc e => ⟨o, k b o hc e⟩) (fun b xs e => ?_) (fun b o u e => ?_) (fun b ps e => ⟨#[], ?_⟩) (fun m hm => ?_) (fun b u e => ?_) I.bare
  · rw [upd_ne (Nat.ne_of_lt (Nat.lt_of_lt_of_le (Heap.lt_size e) hT))]; exact n
  · rw [upd_ne (ne_of_none e hn)]; exact e
  · rw [upd_ne (ne_of_none e hn)]; exact e
  · rw [upd_ne (ne_of_none e hn), e]; simp
  · obtain ⟨o, es, ep, ho, r⟩ := hm
    exact ⟨o, es, ep, k _ o (fun z => (hf _ z).2.1 rfl) ho, r⟩
  · by_cases hb : b = T
    · subst hb
      rw [upd_same] at e
      cases e
      exact new
    · rw [upd_ne hb] at e
      refine (I.hok b u e).stay (fun c v hc q => k c v ?_ q) (fun c q => by rw [upd_ne (ne_of_none q hn)]; exact q) fun c xs q => by rw [upd_ne (ne_of_none q hn)]; exact q
      rcases hc with z | z
      · rw [z]; exact nit b u e
      · exact nit c _ z

/-! ### locking a thing while a statement runs -/
end
/-- the statement runs while the thing at d is locked (read, not written); d and what stands there are the reading's choice -/
def tLock (t : TS) : TS := fun D σ H => ∃ d u, H d = some u ∧ Mut (some u) ∧ ∀ od, t ⟨fun σ' H' => H' d = some (.frz od u) ∧ D.nx σ' (upd H' d u), fun v H' => H' d = some (.frz od u) ∧ D.rt v (upd H' d u), fun σ' H' => H' d = some (.frz od u) ∧ D.bk σ' (upd H' d u), fun σ' H' => H' d = some (.frz od u) ∧ D.ct σ' (upd H' d u)⟩ σ (upd H d (.frz od u))
def tLockE (t : TE) : TE := fun σ H Q => ∃ d u, H d = some u ∧ Mut (some u) ∧ ∀ od, t σ (upd H d (.frz od u)) fun v H' => H' d = some (.frz od u) ∧ Q v (upd H' d u)
section
variable {X : Cx}
/-! ### one iterator just laid -/
theorem pi_one {tg : Expr} {pins : List (Addr × Obj)} {σ : St} {H : Hp} {s : Shared} {R : It → Hp → Prop} {J : It} {tn : Nat → Heap → Prop} {tk : Nat} (I : Inv X pins σ H s) (o : Obj)
    (T : Turn X.prog X.w X.K tg J [s.heap.objs.size] s.heap.objs.size tn) (st : tn 0 (s.heap.push o)) (q : R J H) : PIE X pins σ tg R (.ref s.heap.objs.size) { s with heap := s.heap.push o, toks := tk } := by
  refine ⟨s.heap.objs.size, [s.heap.objs.size], tn, J, H, rfl, I.kept fun b ob e => Heap.get?_push_of_some _ e, T, st, fun b hb => ?_, q⟩
  have e : b = s.heap.objs.size := by simpa using hb
  subst e
  exact I.fpOk (Nat.le_refl _) (I.hok.fresh (Nat.le_refl _))
end

/-! ### range with a step -/
/-- lo, lo + c, .. (n of them) -/
def Itc (lo c : Int) (n : Nat) : It := ⟨fun i _ => i < n, fun i H x H' => H' = H ∧ x = .int (lo + (i : Nat) * c), fun i _ => n ≤ i⟩
/-- range(i, j, c): small bounds, n items -/
def RgC (i j c : Int) (n : Nat) : Prop := c ≠ 0 ∧ c.natAbs < 1073741824 ∧ Builtin.Range.small i j c = true ∧ Builtin.Range.rangeSize i j c = n
def iRng3 (ta : TA) : TI := fun σ H R => ta σ H fun vs H1 => ∃ (i j c : Int) (n : Nat), vs = [.int i, .int j, .int c] ∧ RgC i j c n ∧ R (Itc i c n) H1
section
variable {X : Cx} {tg : Expr}
end
/-! ### reversed(list) -/
/-- the list at a (n items at the start, which the loop leaves there), from its end -/
def Itv (K : PySem.W.Frag) (a : Addr) (n : Nat) : It :=
  ⟨fun i H => i < n ∧ ∃ (xs : List V) (x : V), SqL K H a xs ∧ xs[n - 1 - i]? = some x, fun i H x H' => H' = H ∧ ∀ xs, SqL K H a xs → xs[n - 1 - i]? = some x, fun i _ => n ≤ i⟩
theorem turn_rev {P : Program} {w : World} {K : PySem.W.Frag} {tg : Expr} (a it : Addr) (n : Nat) : Turn P w K tg (Itv K a n) [it] it (fun i h => i ≤ n ∧ h.IsRevIter it a ((n : Int) - 1 - (i : Nat))) where
  mem := by simp
  obj := fun i h st b hb => by
    have e : b = it := by simpa using hb
    subst e
    obtain ⟨_, o, e, c, d⟩ := st
    exact ⟨o, e, fun v z => by rw [d] at z; cases z⟩
  keep := fun i h h' st k => ⟨st.1, st.2.at fun o e => k it (by simp) o e⟩
  item := by
    intro X hP hw hK hc i pins s σ H E I hf st hg
    subst hP hw hK
    obtain ⟨hin, xs, x, hq, hx⟩ := hg
    obtain ⟨its, rv, p, hz⟩ := I.list hq
    obtain ⟨u, hu, ru⟩ := rv.get hx
    obtain ⟨f0, f1, f2, f3, f4, f5⟩ := hf it (by simp)
    obtain ⟨_, hit⟩ := st
    have e1 : (n : Int) - 1 - ((i : Nat) : Int) = ((n - 1 - i : Nat) : Int) := by omega
    rw [e1] at hit
    refine wpAny_pyNext_rev_item hit p.isList (x := u) (by simpa using hu) fun h' st' sb => ?_
    have e2 : ((n - 1 - i : Nat) : Int) - 1 = (n : Int) - 1 - ((i + 1 : Nat) : Int) := by omega
    rw [e2] at st'
    have I1 : Inv X pins σ H { s with heap := h' } := I.turned (t' := s.toks) (fun b o hb e => (sb.2 b hb).trans e) f0 f1 f3 f4 f5
    obtain ⟨o, e, c, d⟩ := id st'
    exact ⟨u, rfl, go_of (s := { s with heap := h' }) e c d (by decide) ⟨x, H, I1, ru, ⟨rfl, fun ys hy => by rw [I.list_inj hy hq]; exact hx⟩, ⟨hin, st'⟩, fun b hb => (hf b hb).1⟩⟩
  done := by
    intro X hP hw hK hc i pins s σ H E I hf st hg
    subst hP hw hK
    obtain ⟨f0, f1, f2, f3, f4, f5⟩ := hf it (by simp)
    obtain ⟨hin, hit⟩ := st
    have hge : n ≤ i := hg
    have e1 : (n : Int) - 1 - ((i : Nat) : Int) = -1 := by omega
    rw [e1] at hit
    exact wpAny_pyNext_rev_end (I.ok.hd hc) hit fun h' eb => ⟨rfl, I.turned (t' := s.toks) (fun b o hb e => eb b o hb e) f0 f1 f3 f4 f5⟩
  self := fun A i s Q E st h => wpAny_pyIter_revIter st.2 h
def iRev (K : PySem.W.Frag) (ta : TA) : TI := fun σ H R => ta σ H fun vs H1 => ∃ (a : Addr) (xs : List V), vs = [.ref a] ∧ SqL K H1 a xs ∧ R (Itv K a xs.length) H1
section
variable {X : Cx} {tg : Expr}
theorem pi_reversed {e : Expr} {ta : TA} {p pos : Pos} (hg : Gl X "reversed") (hm : X.mg "reversed" = none) (ha : PA X [e] ta) (hs : starEach [e] X.env = [(false, eval e X.env)] := by rfl) : PI X tg (.Call (.Name "reversed" p) [e] [] pos) (iRev X.K ta) := by
  intro pins s σ H R I h
  refine Call_ (ld_blt I hg hm boot_reversed5 (PyProof.Rows.callWith_type1 (thn (ha pos pins s σ H _ I h) fun us s1 ⟨vs, H1, I1, r1, q1⟩ => ?_) hs rfl))
  obtain ⟨a, xs, e, hq, q⟩ := q1
  subst e
  cases r1 with
  | cons r rr =>
    cases rr
    cases r
    obtain ⟨its, rv, p', hz⟩ := I1.list hq
    have hl := rv.length
    have e1 : ((its.toArray.size : Nat) : Int) - 1 = (xs.length : Int) - 1 - ((0 : Nat) : Int) := by simp only [List.size_toArray]; omega
    refine call_reversed_list p'.isList (wpAny_pyIter_revIter (l := a) (i := ((its.toArray.size : Nat) : Int) - 1) ⟨_, Heap.get?_push_size _ rfl, rfl, rfl⟩ ?_)
    refine pi_one (tk := s1.toks) I1 _ (turn_rev a _ xs.length) ⟨Nat.zero_le _, ?_⟩ q
    rw [← e1]
    exact ⟨_, Heap.get?_push_size _ rfl, rfl, rfl⟩
end

/-! ### a str -/
def Its (x : Str) : It := ⟨fun i _ => i < x.cps.size, fun i H v H' => H' = H ∧ ∃ c, x.cps[i]? = some c ∧ v = .str ⟨#[c]⟩, fun i _ => x.cps.size ≤ i⟩
theorem turn_str {P : Program} {w : World} {K : PySem.W.Frag} {tg : Expr} (it : Addr) (x : Str) (t : Tok) (ty : String) (hty : ty = "str_ascii_iterator" ∨ ty = "str_iterator") :
    Turn P w K tg (Its x) [it] it (fun i h => h.IsStrIter it ty x t i) where
  mem := by simp
  obj := fun i h st b hb => by
    have e : b = it := by simpa using hb
    subst e
    obtain ⟨o, e, c, d⟩ := st
    exact ⟨o, e, fun v z => by rw [d] at z; cases z⟩
  keep := fun i h h' st k => let ⟨o, ho, r⟩ := st; ⟨o, k it (by simp) o ho, r⟩
  item := by
    intro X hP hw hK hc i pins s σ H E I hf st hg
    subst hP hw hK
    obtain ⟨f0, f1, f2, f3, f4, f5⟩ := hf it (by simp)
    have W : Walks X.prog X.w X.A it [it] [it] x.cps.size (SignAt x) (fun i h => h.IsStrIter it ty x t i) := by
      rcases hty with e | e
      · rw [e]; exact Walks.strAscii (I.ok.hd hc) it x t
      · rw [e]; exact Walks.strWide (I.ok.hd hc) it x t
    have hno : ["enumerate", "zip", "dict_itemiterator", "dict_reverseitemiterator", "odict_iterator", "itertools.zip_longest", "itertools.pairwise"].contains ty = false := by
      rcases hty with e | e
      · rw [e]; decide
      · rw [e]; decide
    refine W.item i s _ _ hg st fun v h' tk hv st' kk => ?_
    obtain ⟨c, u, hcx, rfl⟩ := hv
    have I1 : Inv X pins σ H { s with heap := h', toks := tk } := I.turned (fun b o hb e => kk b o (by simpa using hb) e) f0 f1 f3 f4 f5
    obtain ⟨oi, e, cc, dd⟩ := id st'
    exact ⟨_, rfl, go_of (s := { s with heap := h', toks := tk }) e cc dd hno ⟨.str ⟨#[c]⟩, H, I1, ⟨u, rfl⟩, ⟨rfl, c, hcx, rfl⟩, st', fun b hb => (hf b hb).1⟩⟩
  done := by
    intro X hP hw hK hc i pins s σ H E I hf st hg
    subst hP hw hK
    obtain ⟨f0, f1, f2, f3, f4, f5⟩ := hf it (by simp)
    have hx : x.cps[i]? = none := Array.getElem?_eq_none hg
    rcases hty with e | e
    · rw [e] at st
      exact wpAny_pyNext_ascii_end (I.ok.hd hc) st hx fun h' eb => ⟨rfl, I.turned (t' := s.toks) (fun b o hb e => eb b o hb e) f0 f1 f3 f4 f5⟩
    · rw [e] at st
      exact wpAny_pyNext_wide_end (I.ok.hd hc) st hx fun h' eb => ⟨rfl, I.turned (t' := s.toks) (fun b o hb e => eb b o hb e) f0 f1 f3 f4 f5⟩
  self := fun A i s Q E st h => by
    rcases hty with e | e
    · rw [e] at st; exact wpAny_pyIter_striter_ascii st h
    · rw [e] at st; exact wpAny_pyIter_striter_wide st h
def iStr (te : TE) : TI := fun σ H R => te σ H fun v H1 => ∃ x, v = .str x ∧ R (Its x) H1
theorem pi_str {X : Cx} {tg e : Expr} {te : TE} (he : PE X e te) : PI X tg e (iStr te) := by
  intro pins s σ H R I h
  refine thn (he pins s σ H _ I h) fun v s1 ⟨y, H1, I1, r1, x, ex, q⟩ => ?_
  subst ex
  obtain ⟨t, rfl⟩ := r1
  cases ha : x.cps.all (· < 128)
  · exact wpAny_pyIter_wide ha (pi_one (tk := s1.toks) I1 _ (turn_str _ x t "str_iterator" (.inr rfl)) ⟨_, Heap.get?_push_size _ rfl, rfl, rfl⟩ q)
  · exact wpAny_pyIter_ascii ha (pi_one (tk := s1.toks) I1 _ (turn_str _ x t "str_ascii_iterator" (.inl rfl)) ⟨_, Heap.get?_push_size _ rfl, rfl, rfl⟩ q)

/-! ### a dict's keys: any dict's entries -/
section
variable {prog : Program} {w : World} {A : Around} {E : Value → Shared → Prop} {s : Shared}
end

/-! ### a locked dict -/
section
variable {X : Cx} {pins : List (Addr × Obj)} {σ : St} {H : Hp} {s : Shared} {d : Addr} {o : Obj}
end

/-- the keys of the locked dict at d, in their order -/
def Itk (d : Addr) (o : Obj) (kvs : List (Key × V)) : It :=
  ⟨fun i H => H d = some (.frz o (.dK kvs)) ∧ i < kvs.length, fun i H x H' => H' = H ∧ ∃ k v, kvs[i]? = some (k, v) ∧ x = kV k, fun i H => H d = some (.frz o (.dK kvs)) ∧ kvs.length ≤ i⟩
/-- .. of tuple keys: the key's own tuple -/
def Itkt (d : Addr) (o : Obj) (kvs : List (List Key × V)) : It :=
  ⟨fun i H => H d = some (.frz o (.dT kvs)) ∧ i < kvs.length, fun i H x H' => H' = H ∧ ∃ (k : List Key) (v : V) (q : Addr), kvs[i]? = some (k, v) ∧ x = .ref q ∧ H q = some (.tup (k.map kV)), fun i H => H d = some (.frz o (.dT kvs)) ∧ kvs.length ≤ i⟩
/-- the values -/
def Itd (d : Addr) (o : Obj) (kvs : List (Key × V)) : It :=
  ⟨fun i H => H d = some (.frz o (.dK kvs)) ∧ i < kvs.length, fun i H x H' => H' = H ∧ ∃ k, kvs[i]? = some (k, x), fun i H => H d = some (.frz o (.dK kvs)) ∧ kvs.length ≤ i⟩
/-- the pairs, each a new tuple -/
def Iti (d : Addr) (o : Obj) (kvs : List (Key × V)) : It :=
  ⟨fun i H => H d = some (.frz o (.dK kvs)) ∧ i < kvs.length, fun i H x H' => ∃ T k v, kvs[i]? = some (k, v) ∧ x = .ref T ∧ H T = none ∧ H' = upd H T (.tup [kV k, v]), fun i H => H d = some (.frz o (.dK kvs)) ∧ kvs.length ≤ i⟩
section
variable {P : Program} {w : World} {K : PySem.W.Frag} {tg : Expr} {d : Addr} {o : Obj} {es : Array DictEntry} {ep : Nat}
end

/-! ### for k in d, d.keys(), d.values(), d.items() -/
/-- the dict is locked (tLock, or by the caller) -/
def iKeys (td : TE) : TI := fun σ H R => td σ H fun x H1 => ∃ d o, x = .ref d ∧ ((∃ kvs, H1 d = some (.frz o (.dK kvs)) ∧ R (Itk d o kvs) H1) ∨ ∃ kvs, H1 d = some (.frz o (.dT kvs)) ∧ R (Itkt d o kvs) H1)
def iVals (td : TE) : TI := fun σ H R => td σ H fun x H1 => ∃ d o kvs, x = .ref d ∧ H1 d = some (.frz o (.dK kvs)) ∧ R (Itd d o kvs) H1
def iItems (td : TE) : TI := fun σ H R => td σ H fun x H1 => ∃ d o kvs, x = .ref d ∧ H1 d = some (.frz o (.dK kvs)) ∧ R (Iti d o kvs) H1
def iKeysM (td : TE) : TI := fun σ H R => td σ H fun x H1 => ∃ d o kvs, x = .ref d ∧ H1 d = some (.frz o (.dK kvs)) ∧ R (Itk d o kvs) H1
section
variable {X : Cx} {tg e : Expr} {td : TE} {apos cpos : Pos}
end

/-! ### enumerate(list) -/
/-- the list at a as it stands at each turn, each item in a new pair -/
def Ite (K : PySem.W.Frag) (a : Addr) : It :=
  ⟨fun i H => ∃ (xs : List V) (x : V), SqL K H a xs ∧ xs[i]? = some x, fun i H v H' => ∃ T x, v = .ref T ∧ H T = none ∧ H' = upd H T (.tup [.int (i : Nat), x]) ∧ ∀ xs, SqL K H a xs → xs[i]? = some x, fun i H => ∃ xs : List V, SqL K H a xs ∧ xs.length ≤ i⟩
theorem turn_enum {P : Program} {w : World} {K : PySem.W.Frag} {elts : List Expr} {kk : Nat} {tpos : Pos} (a e it : Addr) :
    Turn P w K (.Tuple elts kk tpos) (Ite K a) [e, it] e (fun i h => (∃ old, IsEnum h e it ((i : Nat) : Int) old) ∧ h.IsListIter it a i ∧ e ≠ it) where
  mem := by simp
  obj := fun i h st b hb => by
    obtain ⟨⟨old, he⟩, ⟨o, ho, hc, hd⟩, _⟩ := st
    have e' : b = e ∨ b = it := by simpa using hb
    rcases e' with z | z
    · rw [z]; exact ⟨_, he, fun v q => nomatch q⟩
    · rw [z]; exact ⟨o, ho, fun v q => by rw [hd] at q; cases q⟩
  keep := fun i h h' st k => let ⟨⟨old, he⟩, hi, hne⟩ := st; ⟨⟨old, k e (by simp) _ he⟩, hi.at fun o q => k it (by simp) o q, hne⟩
  item := by
    intro X hP hw hK hc i pins s σ H E I hf st hg
    subst hP hw hK
    obtain ⟨⟨old, he⟩, hit, hne⟩ := st
    obtain ⟨xs, x, hq, hx⟩ := hg
    obtain ⟨its, rv, p, hz⟩ := I.list hq
    obtain ⟨u, hu, ru⟩ := rv.get hx
    have hel : e < s.heap.objs.size := Heap.lt_size he
    have hil : it < s.heap.objs.size := by obtain ⟨_, q, _⟩ := hit; exact Heap.lt_size q
    refine wpAny_pyNext_enum_item he hit p.isList (x := u) (by simpa using hu) hne fun h' ho hit' hT hsz hk => ?_
    refine ⟨_, rfl, wpAny_letOwnedTupleGo_enum (s := { s with heap := h', toks := s.toks + 1 }) ho fun h'' he' sb => ?_⟩
    have hT2 : h''.get? s.heap.objs.size = some { cls := .type "tuple", data := .seq #[.int i s.toks, u] } := (sb.2 _ (Nat.ne_of_gt hel)).trans hT
    have new : ObjOk X.prog X.w (upd H s.heap.objs.size (.tup [.int (i : Nat), x])) h'' s.heap.objs.size (.tup [.int (i : Nat), x]) :=
      ⟨by show 2 ≤ sizeLine; decide, [.int i s.toks, u], .cons ⟨_, rfl⟩ (.cons ru .nil), ⟨_, hT2, rfl, _, rfl⟩⟩
    have I1 : Inv X pins σ (upd H s.heap.objs.size (.tup [.int (i : Nat), x])) { s with heap := h'', toks := s.toks + 1 } :=
      I.turnedNew (ch := [e, it]) (fun b ob hb q => (sb.2 b (fun z => hb (by simp [z]))).trans (hk b ob (fun z => hb (by simp [z])) (fun z => hb (by simp [z])) q)) hf (Nat.le_refl _) new
    refine ⟨.ref s.heap.objs.size, _, I1, rfl, ⟨_, x, rfl, I.hok.fresh (Nat.le_refl _), rfl, fun ys hy => by rw [I.list_inj hy hq]; exact hx⟩, ⟨⟨u, ?_⟩, hit'.at fun o q => (sb.2 it (Ne.symm hne)).trans q, hne⟩, fun b hb => ?_⟩
    · have e1 : ((i + 1 : Nat) : Int) = (i : Int) + 1 := by omega
      rw [e1]; exact he'
    · have hb' : b < s.heap.objs.size := by
        have e' : b = e ∨ b = it := by simpa using hb
        rcases e' with z | z
        · rw [z]; exact hel
        · rw [z]; exact hil
      rw [upd_ne (Nat.ne_of_lt hb')]
      exact (hf b hb).1
  done := by
    intro X hP hw hK hc i pins s σ H E I hf st hg
    subst hP hw hK
    obtain ⟨⟨old, he⟩, hit, hne⟩ := st
    obtain ⟨xs, hq, hx⟩ := hg
    obtain ⟨its, rv, p, hz⟩ := I.list hq
    obtain ⟨f0, f1, f2, f3, f4, f5⟩ := hf it (by simp)
    have hl := rv.length
    exact wpAny_pyNext_enum_end (I.ok.hd hc) he hit p.isList (by simp; omega) fun h' eb => ⟨rfl, I.turned (t' := s.toks) (fun b o hb q => eb b o hb q) f0 f1 f3 f4 f5⟩
  self := fun A i s Q E st h => let ⟨⟨_, he⟩, _⟩ := st; wpAny_pyIter_enum he h
def iEnum (K : PySem.W.Frag) (ta : TA) : TI := fun σ H R => ta σ H fun vs H1 => ∃ a xs, vs = [.ref a] ∧ SqL K H1 a xs ∧ R (Ite K a) H1
theorem pi_enum {X : Cx} {e : Expr} {ta : TA} {p pos tpos : Pos} {elts : List Expr} {kk : Nat} (hg : Gl X "enumerate") (hm : X.mg "enumerate" = none) (ha : PA X [e] ta) (hs : starEach [e] X.env = [(false, eval e X.env)] := by rfl) :
    PI X (.Tuple elts kk tpos) (.Call (.Name "enumerate" p) [e] [] pos) (iEnum X.K ta) := by
  intro pins s σ H R I h
  refine Call_ (ld_blt I hg hm boot_enumerate (PyProof.Rows.callWith_type1 (thn (ha pos pins s σ H _ I h) fun us s1 ⟨vs, H1, I1, r1, q1⟩ => ?_) hs rfl))
  obtain ⟨a, xs, ex, hq, q⟩ := q1
  subst ex
  cases r1 with
  | cons r rr =>
    cases rr
    cases r
    obtain ⟨its, rv, p', hz⟩ := I1.list hq
    refine call_enumerate_list p'.isList fun h' he hit hsz hk => wpAny_pyIter_enum he ?_
    have I2 : Inv X pins σ H1 { s1 with heap := h' } := I1.kept (t' := s1.toks) hk
    refine ⟨s1.heap.objs.size + 1, [s1.heap.objs.size + 1, s1.heap.objs.size], _, _, H1, rfl, I2, turn_enum a (s1.heap.objs.size + 1) s1.heap.objs.size, ⟨⟨.none, he⟩, hit, Nat.succ_ne_self _⟩, fun b hb => ?_, q⟩
    have e' : b = s1.heap.objs.size + 1 ∨ b = s1.heap.objs.size := by simpa using hb
    have hle : s1.heap.objs.size ≤ b := by
      rcases e' with z | z
      · rw [z]; exact Nat.le_add_right _ _
      · rw [z]; exact Nat.le_refl _
    exact I1.fpOk hle (I1.hok.fresh hle)
/-! ### zip(list, list) -/
/-- the lists at a and b as they stand at each turn, the items in new pairs -/
def Itz (K : PySem.W.Frag) (a b : Addr) : It :=
  ⟨fun i H => ∃ (xs ys : List V) (x y : V), SqL K H a xs ∧ SqL K H b ys ∧ xs[i]? = some x ∧ ys[i]? = some y,
    fun i H v H' => ∃ T x y, v = .ref T ∧ H T = none ∧ H' = upd H T (.tup [x, y]) ∧ (∀ xs, SqL K H a xs → xs[i]? = some x) ∧ ∀ ys, SqL K H b ys → ys[i]? = some y,
    fun i H => ∃ xs ys : List V, SqL K H a xs ∧ SqL K H b ys ∧ (xs.length ≤ i ∨ ys.length ≤ i)⟩
def iZip (K : PySem.W.Frag) (ta : TA) : TI := fun σ H R => ta σ H fun vs H1 => ∃ a b xs ys, vs = [.ref a, .ref b] ∧ SqL K H1 a xs ∧ SqL K H1 b ys ∧ R (Itz K a b) H1
end L2

section 
namespace Bits
open PySem PyProof.Rows

end Bits
end 

section 
namespace TL
open PySem PySem.Builtin PySem.Builtin.Str PySem.StrLaws

abbrev tl (x : Str) : List Nat := x.cps.toList
theorem ext_tl {x y : Str} (h : tl x = tl y) : x = y := Str.ext' (Array.toList_inj.mp h)
theorem tl_append (x y : Str) : tl (x ++ y) = tl x ++ tl y := by
  show (x ++ y).cps.toList = _
  rw [Str.cps_append, Array.toList_append]
/-! ### the list functions -/
/-- S stands at the head of l -/
def pre (S l : List Nat) : Bool := l.take S.length == S
/-- l cut at each S from the left; k signs are still to be passed over -/
def spl (S : List Nat) : Nat → List Nat → List Nat → List (List Nat)
  | _, acc, [] => [acc]
  | 0, acc, c :: r => if pre S (c :: r) = true then acc :: spl S (S.length - 1) [] r else spl S 0 (acc ++ [c]) r
  | k + 1, acc, _ :: r => spl S k acc r
/-- what stands before the first S, and behind it -/
def par (S : List Nat) : List Nat → List Nat → Option (List Nat × List Nat)
  | _, [] => none
  | acc, c :: r => if pre S (c :: r) = true then some (acc, (c :: r).drop S.length) else par S (acc ++ [c]) r

/-! ### the model's split and partition are these -/
/-! ### computing spl and par -/
/-- joined lists -/
def joinL (S : List Nat) : List (List Nat) → List Nat
  | [] => []
  | [p] => p
  | p :: q :: r => p ++ (S ++ joinL S (q :: r))
theorem tl_join (y : Str) : ∀ parts : List Str, tl (Str.join y parts) = joinL (tl y) (parts.map tl)
  | [] => rfl
  | [_] => rfl
  | x :: z :: r => by
    show tl (x ++ y ++ Str.join y (z :: r)) = tl x ++ (tl y ++ joinL (tl y) ((z :: r).map tl))
    rw [tl_append, tl_append, tl_join y (z :: r), List.append_assoc]
theorem join_eq (y : Str) (parts : List Str) : Txt.join y parts = Str.join y parts := glued_eq_join y parts
/-! ### digits -/
/-- the signs of a number -/
def numL (n : Nat) : List Nat := (Nat.toDigits 10 n).map Char.toNat
/-! ### words: x.split() -/
def wstep (st : List (List Nat) × List Nat) (c : Nat) : List (List Nat) × List Nat :=
  if Unicode.isSpace c = true then (if st.2 = [] then st else (st.1 ++ [st.2], [])) else (st.1, st.2 ++ [c])
def wfin (st : List (List Nat) × List Nat) : List (List Nat) := if st.2 = [] then st.1 else st.1 ++ [st.2]
end TL
end 

namespace L2
open PySem PySem.Spec PyProof.Rows

theorem strs_of_vals : ∀ {ys : List Str} {us : List Value}, Vals (ys.map V.str) us → StrsAre us ys
  | [], _, .nil => .nil
  | y :: ys, _, .cons r t => by
    obtain ⟨k, rfl⟩ := r
    exact .cons y k (strs_of_vals t)

/-- a new list of texts, tracked -/
def rNewStrs (ys : List Str) : Hp → VK → Prop := fun H Q => ∀ p, H p = none → Q (.ref p) (upd H p (.lst (ys.map V.str)))

section
variable {X : Cx} {pins : List (Addr × Obj)} {σ : St} {H : Hp} {s : Shared} {Q : VK}
end

section
variable {X : Cx}

/-- sep.join(a list | a tuple of texts) -/
theorem mt_join : MtR X "str.join" (fun x xs H Q => ∃ a p, ∃ ys : List Str, x = .str a ∧ xs = [.ref p] ∧ (SqL X.K H p (ys.map V.str) ∨ SqT X.K H p (ys.map V.str)) ∧
    (ys.map (·.length)).sum + ys.length * a.length ≤ 16777216 ∧ Q (.str (Txt.join a ys)) H) := by
  intro pins s σ H x xs v us Q I rx rs h
  obtain ⟨a, p, ys, rfl, rfl, hp, hz, h⟩ := h
  obtain ⟨t, rfl⟩ := rx
  cases rs with
  | cons r1 rs =>
    cases rs
    cases r1
    rcases hp with hp | hp
    · obtain ⟨its, r, ⟨o, n, ho, hc, _, hd⟩, _⟩ := I.list hp
      exact PyProof.Rows.join_list (items := its.toArray) ⟨o, ho, hc, n, hd⟩ (by rw [List.toList_toArray]; exact strs_of_vals r) hz fun t' k => ⟨.str _, H, I.tok k, ⟨t', rfl⟩, h⟩
    · obtain ⟨its, r, ht, _⟩ := I.tuple hp
      exact PyProof.Rows.join_tuple (items := its.toArray) ht (by rw [List.toList_toArray]; exact strs_of_vals r) hz fun t' k => ⟨.str _, H, I.tok k, ⟨t', rfl⟩, h⟩

/-! ### of a text alone -/
/-! ### of a text and a text -/
end

section
variable {X : Cx} {o e : Expr} {to te : TE}
def tM0 (r : V → List V → Hp → VK → Prop) (to : TE) : TE := fun σ H Q => to σ H fun x H1 => (∃ a, x = .str a) ∧ r x [] H1 Q
def tM1 (r : V → List V → Hp → VK → Prop) (to te : TE) : TE := fun σ H Q => to σ H fun x H1 => (∃ a, x = .str a) ∧ te σ H1 fun y H2 => r x [y] H2 Q
theorem pe_m1 {id : String} {name : Str} {apos pos : Pos} {r : V → List V → Hp → VK → Prop} (slot : Slot "str" name id) (ty : typeOf (.builtin id) = pure (.type "method_descriptor")) (rule : MtR X id r) (ho : PE X o to) (he : PE X e te)
    (hs : starEach [e] X.env = [(false, eval e X.env)] := by rfl) (hbase : attributeBase o name X.env (eval o X.env) = eval o X.env := by rfl) (hline : (apos.endLine == pos.line) = true := by rfl) :
    PE X (.Call (.Attribute o name apos) [e] [] pos) (tM1 r to te) := by
  intro pins s σ H Q I h
  refine PySem.Call_method1 hbase hs hline (thn (ho pins s σ H _ I h) fun v s1 ⟨x, H1, I1, r1, q1⟩ => ?_)
  obtain ⟨⟨a, rfl⟩, q1⟩ := q1
  obtain ⟨t, rfl⟩ := _root_.id r1
  refine ⟨"str", _, F.plainAttrs_str, slot, ty, typeIs_str _ _ _, (fun _ e => nomatch e), Calls.callWith_builtin rfl (Calls.evalArgs_plain (Calls.spliced_cons ?_))⟩
  exact thn (he pins s1 σ H1 _ I1 q1) fun u s2 ⟨y, H2, I2, r2, q2⟩ => Calls.spliced_nil (rule pins s2 σ H2 _ [y] _ [u] Q I2 r1 (.cons r2 .nil) q2)

theorem pe_join {apos pos : Pos} (ho : PE X o to) (he : PE X e te) (hs : starEach [e] X.env = [(false, eval e X.env)] := by rfl) (hbase : attributeBase o "join" X.env (eval o X.env) = eval o X.env := by rfl) (hline : (apos.endLine == pos.line) = true := by rfl) :
    PE X (.Call (.Attribute o "join" apos) [e] [] pos) (tM1 (fun x xs H Q => ∃ a p, ∃ ys : List Str, x = .str a ∧ xs = [.ref p] ∧ (SqL X.K H p (ys.map V.str) ∨ SqT X.K H p (ys.map V.str)) ∧
      (ys.map (·.length)).sum + ys.length * a.length ≤ 16777216 ∧ Q (.str (Txt.join a ys)) H) to te) :=
  pe_m1 F.slot_str_join F.type_str_join mt_join ho he hs hbase hline
end
end L2

namespace L2
open PySem PySem.Spec PyProof.Rows

section
variable {X : Cx}
theorem op_le_str : OpR X (compareOp .LtE) (fun x y H Q => ∃ i j, x = .str i ∧ y = .str j ∧ Q (.bl (!decide (j.cps.toList < i.cps.toList))) H) := by
  intro pins s σ H x y v u Q I rx ry h
  obtain ⟨i, j, rfl, rfl, q⟩ := h
  obtain ⟨t, rfl⟩ := rx
  obtain ⟨t', rfl⟩ := ry
  exact PySem.P.le_str (fin_bl I q rfl)
/-- one sign in a text -/
theorem op_in_sign : OpR X (compareOp .In) (fun x y H Q => ∃ (c : Nat) (z : Str), x = .str ⟨#[c]⟩ ∧ y = .str z ∧ Q (.bl (decide (c ∈ z.cps.toList))) H) := by
  intro pins s σ H x y v u Q I rx ry h
  obtain ⟨c, z, rfl, rfl, q⟩ := h
  obtain ⟨t, rfl⟩ := rx
  obtain ⟨t', rfl⟩ := ry
  exact PyProof.Rows.in_str (fin_bl I q (PySem.StrLaws.found_one z c).symm)
theorem op_notIn_sign : OpR X (compareOp .NotIn) (fun x y H Q => ∃ (c : Nat) (z : Str), x = .str ⟨#[c]⟩ ∧ y = .str z ∧ Q (.bl (!decide (c ∈ z.cps.toList))) H) := by
  intro pins s σ H x y v u Q I rx ry h
  obtain ⟨c, z, rfl, rfl, q⟩ := h
  obtain ⟨t, rfl⟩ := rx
  obtain ⟨t', rfl⟩ := ry
  exact PyProof.Rows.notIn_str (fin_bl I q (congrArg Bool.not (PySem.StrLaws.found_one z c).symm))
end

/-! ### slices of a text -/
theorem IsPart.raw {v : Value} {o : Option Int} (p : IsPart v o) : ∃ l : Option (Int × Tok), v = partValue l ∧ l.map (·.1) = o := by
  cases p with
  | none => exact ⟨none, rfl, rfl⟩
  | int i t => exact ⟨some (i, t), rfl, rfl⟩

/-- a part, clipped, as the text's slice reckons it -/
def clipS (n d : Nat) : Option Int → Int
  | none => (d : Int)
  | some i => max 0 (min (if i < 0 then i + (n : Int) else i) (n : Int))
theorem clipS_eq (n d : Nat) (o : Option Int) : clipS n d o = ((HT.sIx n d o : Nat) : Int) := by
  cases o with
  | none => rfl
  | some v =>
    show max (0 : Int) (min (if v < 0 then v + (n : Int) else v) (n : Int)) = (((if v < 0 then (v + (n : Int)).toNat else min v.toNat n) : Nat) : Int)
    by_cases hv : v < 0
    · simp only [if_pos hv]
      omega
    · simp only [if_neg hv]
      omega
theorem sidx_clip (a b : Option Int) (n : Nat) : Builtin.Str.strSliceIndices a b 1 n = sliceRange (clipS n 0 a) (clipS n n b) 1 := by
  have h1 : ((1 : Int) > 0) = True := by simp
  cases a <;> cases b <;> first
    | rfl
    | (simp only [Builtin.Str.strSliceIndices, clipS, h1, if_true]; rfl)
    | simp [Builtin.Str.strSliceIndices, clipS]
theorem sidx (a b : Option Int) (n : Nat) : Builtin.Str.strSliceIndices a b 1 n = (List.range (HT.sIx n n b - HT.sIx n 0 a)).map (fun k => HT.sIx n 0 a + k) := by
  rw [sidx_clip, clipS_eq, clipS_eq]
  generalize HT.sIx n 0 a = p
  generalize HT.sIx n n b = q
  simp only [sliceRange, show ((1 : Int) > 0) = True from by simp, if_true]
  by_cases hlt : (p : Int) < q
  · have e3 : (((q : Int) - p + 1 - 1) / 1).toNat = q - p := by first | omega | (simp; done) | (simp; omega)
    simp only [hlt, if_true, e3]
    refine List.map_congr_left fun k _ => ?_
    omega
  · have : q - p = 0 := by omega
    simp [hlt, this]

/-- z[lo:hi] -/
def cutS (z : Str) (lo hi : Option Int) : Str :=
  ⟨((z.cps.toList.drop (HT.sIx z.length 0 lo)).take (HT.sIx z.length z.length hi - HT.sIx z.length 0 lo)).toArray⟩
theorem sliceText_cut (z : Str) (lo hi : Option Int) : PySem.StrLaws.sliceText z lo hi = cutS z lo hi := by
  have h1 : HT.sIx z.length 0 lo ≤ z.length := HT.sIx_le _ _ (Nat.zero_le _) _
  have h2 : HT.sIx z.length z.length hi ≤ z.length := HT.sIx_le _ _ (Nat.le_refl _) _
  have hp : HT.sIx z.length 0 lo ≤ max (HT.sIx z.length 0 lo) (HT.sIx z.length z.length hi) := Nat.le_max_left _ _
  have hq : max (HT.sIx z.length 0 lo) (HT.sIx z.length z.length hi) ≤ z.length := Nat.max_le.mpr ⟨h1, h2⟩
  have hd : max (HT.sIx z.length 0 lo) (HT.sIx z.length z.length hi) - HT.sIx z.length 0 lo = HT.sIx z.length z.length hi - HT.sIx z.length 0 lo := by omega
  have e : Builtin.Str.strSliceIndices lo hi 1 z.length =
      Builtin.Str.strSliceIndices (some ((HT.sIx z.length 0 lo : Nat) : Int)) (some ((max (HT.sIx z.length 0 lo) (HT.sIx z.length z.length hi) : Nat) : Int)) 1 z.length := by
    rw [PySem.StrLaws.strSliceIndices_plain hp hq, hd, sidx]
  have e2 : PySem.StrLaws.sliceText z lo hi =
      PySem.StrLaws.sliceText z (some ((HT.sIx z.length 0 lo : Nat) : Int)) (some ((max (HT.sIx z.length 0 lo) (HT.sIx z.length z.length hi) : Nat) : Int)) := by
    unfold PySem.StrLaws.sliceText
    rw [e]
  rw [e2, PySem.StrLaws.sliceText_nat z hp hq, hd]
  rfl
theorem cutS_length (z : Str) (lo hi : Option Int) : (cutS z lo hi).length ≤ z.length := by
  show (((z.cps.toList.drop (HT.sIx z.length 0 lo)).take (HT.sIx z.length z.length hi - HT.sIx z.length 0 lo)).toArray).size ≤ z.cps.size
  rw [List.size_toArray, List.length_take, List.length_drop, Array.length_toList]
  omega
def rSlS : V → Option Int → Option Int → Hp → VK → Prop := fun x lo hi H Q => ∃ z, x = .str z ∧ z.length ≤ sizeLine ∧ Q (.str (cutS z lo hi)) H
theorem sl_str {X : Cx} : SlR X rSlS := by
  intro pins s σ H x v vl vu lo hi sl Q I rx hs pl pu h
  obtain ⟨z, rfl, hz, q⟩ := h
  obtain ⟨t, rfl⟩ := rx
  obtain ⟨os, hos, hcs, hds⟩ := hs
  obtain ⟨l, rfl, rfl⟩ := IsPart.raw pl
  obtain ⟨u, rfl, rfl⟩ := IsPart.raw pu
  refine ⟨"str", _, F.slot_str_getitem.lookup, typeIs_str _ _ _, ?_⟩
  refine wpAny_getItem_str_slice (l := l) (u := u) (st := none) ⟨os, hos, hcs, hds⟩ rfl ?_
  have hl : (PySem.StrLaws.sliceText z (l.map (·.1)) (u.map (·.1))).length ≤ sizeLine := by
    rw [sliceText_cut]
    exact Nat.le_trans (cutS_length z _ _) hz
  rw [← sliceText_cut] at q
  unfold PySem.StrLaws.sliceText at q hl
  show Made.post (if ((1 : Int) == 1 && (Builtin.Str.strSliceIndices (l.map (·.1)) (u.map (·.1)) 1 z.length).length == z.length) = true then Made.val (.str z t)
    else Made.str ⟨((Builtin.Str.strSliceIndices (l.map (·.1)) (u.map (·.1)) 1 z.length).filterMap (z.cps[·]?)).toArray⟩) (EP X pins σ Q) s
  by_cases c : ((1 : Int) == 1 && (Builtin.Str.strSliceIndices (l.map (·.1)) (u.map (·.1)) 1 z.length).length == z.length) = true
  · rw [if_pos c] at q ⊢
    exact ⟨.str z, H, I, ⟨t, rfl⟩, q⟩
  · rw [if_neg c] at q hl ⊢
    exact ⟨hl, .str _, H, I.tok _, ⟨_, rfl⟩, q⟩
end L2

namespace Att
open PySem PySem.W PySem.Calls PyProof.Rows

/-! ### the script -/
theorem ints_of_wellAll {P : Params} {h : Heap} : ∀ (ns : List Int) (vs : List Value), WellAll P h vs (ns.map WData.int) → IntsAre vs ns := by
  intro ns
  induction ns with
  | nil =>
    intro vs w
    rw [List.map_nil] at w
    cases w
    exact .nil
  | cons n ns ih =>
    intro vs w
    rw [List.map_cons] at w
    cases w with
    | cons a b =>
      cases a
      exact .cons _ _ (ih _ b)

theorem script_of {l : OpenLaw} {n : Nat} (hn : l.most = some n) {P : Params} {h : Heap} {args : List WData} {vals : List Value}
    (hpre : l.row.toRowW.claim.pre args = true) (hwl : WellAll P h vals args) :
    ∃ a vs ns, vals = [Value.ref a] ∧ args = [WData.list (ns.map WData.int)] ∧ h.get? a = some { cls := .type "list", data := .seq vs.toArray } ∧ IntsAre vs ns ∧ ns.length ≤ n := by
  have hsh : WShape.hasAll [] args [.list .int] = true := (pre_splitW hpre).1
  have hc : l.pre.holds [] { args := args } = true := (pre_splitW hpre).2
  obtain ⟨d, r, rfl, h1, h2⟩ := hasAllW_cons hsh
  obtain rfl := hasAllW_nil h2
  obtain ⟨xs, rfl, h3⟩ := hasW_list h1
  obtain ⟨ns, rfl⟩ := items_int h3
  have hlen : ns.length ≤ n := by
    unfold OpenLaw.pre at hc
    have h4 : (WTm.not (.lt (.lit (.int (n : Int))) (.len (.arg 0)))).holds [] { args := [.list (ns.map .int)] } = true := by
      have h4 := (holds_andW hc).1
      rw [hn] at h4
      exact h4
    have h5 := condW_of h4 (w_not (w_lt w_lit (w_len_list (w_arg rfl))))
    rw [List.length_map] at h5
    refine Nat.le_of_not_lt fun q => ?_
    have q' : (n : Int) < ((ns.length : Nat) : Int) := by omega
    first
      | (rw [decide_eq_true q'] at h5; exact absurd h5 (by decide))
      | (simp at h5; omega)
  cases hwl with
  | cons w1 w2 =>
    cases w2
    cases w1 with
    | list ho hall => exact ⟨_, _, ns, rfl, rfl, ho, ints_of_wellAll ns _ hall, hlen⟩

theorem post_true (l : OpenLaw) (args : List WData) : l.row.toRowW.claim.post args (.bool true) args = true :=
  postW_of (r := l.row.toRowW) (X := (true == true))
    (show WShape.has [] (.bool true) .bool = true by first | rfl | decide | simp [WShape.has, WShape.arms, WShape.armsAll])
    (show (WTm.eq .res (.lit (.bool true))).value [] { args := args, res := some (.bool true), after := args } = some (.bool (true == true)) from w_eq_bool (w_res rfl) w_lit) rfl

/-! ### the attachment: holds_open's last premise (the goal 'hc' behind k_head) from a wpAny of the law's body -/
/-- the same from a codeAny of the CALL (for a layer whose function contracts speak of calls) -/
theorem attach_call {l : OpenLaw} {n : Nat} {q : Program} {loose : List Str} {XP : (Str → Option Value) → Heap → Prop} {YP : World → Heap → Prop} {d : DefRec}
    (hn : l.most = some n) (hdf : d.params.defaults = [])
    (call : ∀ (w : World) (s₀ s₁ : Shared) (mg mb : Str → Option Value) (fa : Addr) (o : Obj) (pm cd doc : Value) (a : Addr) (vs : List Value) (ns : List Int),
      Ground q loose [] XP w s₀ mg mb s₁.heap → YP w s₁.heap →
      s₁.heap.get? fa = some o → o.data = .func (docDef d.name d.params d.body d.scope pm cd doc) → s₁.heap.CodeRec cd d.name → mg d.name = some (.ref fa) →
      s₁.heap.get? a = some { cls := .type "list", data := .seq vs.toArray } → IntsAre vs ns → ns.length ≤ n → s₁.gens = #[] →
      codeAny (model l.prog w) callerA (.call (.ref fa) ⟨[.ref a], []⟩) (fun r s' => r = .ok (.ret (.bool true)) ∧ OldK s₁.heap s'.heap ∧ s'.os = s₁.os ∧ AllBare s'.gens) s₁) :
    WalkO q loose XP YP l.row.toRowW d [] (fun f vs => PySem.call f vs) := by
  intro w s₀ s₁ mg mb G Y fa o pm cd doc dV kV ho hd hcd hD hmg hg args vals as hpre hlay hrd hwl hlo
  obtain rfl : dV = .none := Dflts.none hD hdf
  obtain rfl : kV = .none := Dflts.noKw hD
  obtain ⟨a, vs, ns, rfl, rfl, hobj, hints, hlen⟩ := script_of hn hpre hwl
  refine enter_call (codeAny_mono (call w s₀ s₁ mg mb fa o pm cd doc a vs ns G Y ho (fd_plain hd) hcd hmg hobj hints hlen hg) fun r s' hq => ?_)
  obtain ⟨rfl, h2, h3, h4⟩ := hq
  exact ⟨.inl ⟨.bool true, .bool true, [], rfl, fun _ => rfl, .bool true, post_true l _, fun _ => ⟨List.Pairwise.nil, fun _ hm => (nomatch hm)⟩⟩, h2, h3, h4⟩

/-! ### rules over ANY heap (no ledger) from facts about the written part K: the library's own take a ledger (News) for what they write -/
section
variable {prog : Program} {w : World} {A : Around} {E : Value → Shared → Prop} {s : Shared} {K : Frag}

/-! the whole heap as the ledger: makes every rule that writes through a ledger a rule over any heap -/
def noObjs (h : Heap) : Heap := { h with objs := #[] }
def ledger (h : Heap) (L d : Addr) : List (Addr × Obj) := (List.range h.objs.size).filterMap fun a => if a = L ∨ a = d then none else (h.get? a).map fun o => (a, o)
end
end Att

namespace L2
open PySem PySem.Spec PyProof.Rows

theorem vals_ints : ∀ {vs : List Value} {ns : List Int}, IntsAre vs ns → Vals (ns.map V.int) vs
  | _, _, .nil => .nil
  | _, _, .cons n t h => .cons ⟨t, rfl⟩ (vals_ints h)

/-- nothing is tracked but the script, known to the object (or it is an object of the module) -/
def Only (H : Hp) : Prop := ∀ b, H b = none ∨ ∃ o xs, H b = some (.frz o (.lst xs))

/-- THE HEAD: the law's promise, at the heap behind the top. F, the promise of the law's def, may use that base is part of the heap (so K.In base, base.Ns mainGlobals mg stand in Mod) -/
theorem law_call {P : Program} {w : World} {K : PySem.W.Frag} {mg mb : Str → Option Value} {CX : CXT} {k : Nat} {fa a : Addr} {fd : FuncData} {x : Str} {sp : Sp} {s₁ : Shared} {vs : List Value} {ns : List Int}
    (KX : K.In s₁.heap) (hns : s₁.heap.Ns mainGlobals mg) (hb : s₁.heap.Ns builtinsNs mb) (hbb : ∀ x : Str, x ≠ "__name__" → mb x = bootBuiltins x) (hlim : s₁.heap.NoLimit) (hg : s₁.gens = #[])
    (ha : s₁.heap.get? a = some { cls := .type "list", data := .seq vs.toArray }) (hi : IntsAre vs ns) (hl : ns.length ≤ sizeLine) (hr : Room k callerA)
    (F : ∀ base : Heap, K.In base → base.Ns mainGlobals mg → FnOk P w K mg base CX k fa fd [x] sp) (hbind : ∀ (s : Shared) (u : Value), BindsTo s fd ⟨[u], []⟩ [(x, u)])
    (hsp : ∀ H : Hp, Only H → SqL K H a (ns.map V.int) → sp [.ref a] H (fun v _ => v = .bl true) fun _ _ _ => False)
    (hCX : ∀ H e s', CX [] H s₁ (fun _ _ _ => False) e s' → False) :
    codeAny (model P w) callerA (.call (.ref fa) ⟨[.ref a], []⟩) (fun r s' => r = .ok (.ret (.bool true)) ∧ OldK s₁.heap s'.heap ∧ s'.os = s₁.os ∧ AllBare s'.gens) s₁ := by
  have rv := vals_ints hi
  have lenV := hi.length
  -- from an abstract heap in which nothing but the script may be tracked
  have core : ∀ H : Hp, Only H → SqL K H a (ns.map V.int) → HOk P w H s₁.heap → (∀ b, H b ≠ none → b = a) → (H a ≠ none → K.lookup a = none) →
      codeAny (model P w) callerA (.call (.ref fa) ⟨[.ref a], []⟩) (fun r s' => r = .ok (.ret (.bool true)) ∧ OldK s₁.heap s'.heap ∧ s'.os = s₁.os ∧ AllBare s'.gens) s₁ := by
    intro H hO hS hok hA hK
    have base_of : ∀ {b : Addr} {o : Obj}, s₁.heap.get? b = some o → H b = none → (hidT s₁.heap H).get? b = some o := fun e n => hidT_get e n
    have noA : ∀ {b : Addr} {o : Obj} {es : Array DictEntry} {ep : Nat}, s₁.heap.get? b = some o → o.data = .dict es ep → H b = none := fun {b o es ep} e d => by
      cases q : H b with
      | none => rfl
      | some u =>
        have e' : b = a := hA b (by rw [q]; simp)
        subst e'
        rw [ha] at e; cases e
        have d' : Data.seq vs.toArray _ = Data.dict es ep := d
        cases d'
    have nsK : ∀ {b : Addr} {m : Str → Option Value}, s₁.heap.Ns b m → (hidT s₁.heap H).Ns b m := fun {b m} ⟨o, es, ep, e, d, r⟩ => ⟨o, es, ep, base_of e (noA e d), d, r⟩
    have hKb : K.In (hidT s₁.heap H) := fun b o e => base_of (KX b o e) (by
      cases q : H b with
      | none => rfl
      | some u =>
        have e' : b = a := hA b (by rw [q]; simp)
        subst e'
        rw [hK (by rw [q]; simp)] at e; cases e)
    have hM : Mod K mg (hidT s₁.heap H) := ⟨hKb, nsK hns, ⟨mb, nsK hb, hbb⟩, let ⟨mc, h1, h2⟩ := hlim; ⟨mc, nsK h1, h2⟩⟩
    have e0 : Env0 P w K mg (hidT s₁.heap H) callerA [] s₁ H := ⟨rfl, hM, fun b o e => of_hidT e, Nat.le_of_eq (hidT_size _ _), trivial, fun b hb => absurd (show b ∈ ([] : List Addr) from hb) (by simp), hok, .of_eq hg⟩
    refine codeAny_mono ((F _ hKb (nsK hns)).run callerA [] s₁ H ⟨[.ref a], []⟩ [.ref a] [.ref a] _ _ hr e0 (hbind s₁ (.ref a)) (.cons rfl .nil) (hsp H hO hS)) fun r s' h => ?_
    cases r with
    | error e => exact (hCX H e s' h).elim
    | ok fl =>
      cases fl with
      | next => exact False.elim h
      | brk => exact False.elim h
      | cont => exact False.elim h
      | ret u =>
        obtain ⟨v, H', os, bare, un, hok', r', q⟩ := h
        have q' : v = .bl true := q
        subst q'
        obtain rfl : u = Value.bool true := r'
        refine ⟨rfl, OldK.of_keep fun b o e => ?_, os, bare⟩
        cases q : H b with
        | none => exact un.keep b o e q (by intro z; exact absurd (show b ∈ ([] : List Addr) from z) (by simp)) (by simp)
        | some u =>
          rcases hO b with z | ⟨ob, xs, z⟩
          · rw [q] at z; cases z
          · have z2 := un.frzs b ob _ z
            obtain ⟨e1, _⟩ := hok b _ z
            obtain ⟨e2, _⟩ := hok' b _ z2
            rw [e] at e1; cases e1
            exact e2
  cases hk : K.lookup a with
  | some o =>
    -- the script is one of the module's own objects
    have e := KX a o hk
    rw [ha] at e
    cases e
    refine core (fun _ => none) (fun _ => .inl rfl) (.inr ⟨_, vs.toArray, _, hk, rfl, rfl, rfl, by rw [List.size_toArray, lenV]; exact hl, by simpa using rv⟩) (fun b u z => by have z' : (none : Option HO) = some u := z; cases z') (fun b z => absurd rfl z) fun z => absurd rfl z
  | none =>
    refine core (fun b => if b = a then some (.frz { cls := .type "list", data := .seq vs.toArray } (.lst (ns.map V.int))) else none) (fun b => ?_) (.inl (.inr ⟨{ cls := .type "list", data := .seq vs.toArray }, if_pos rfl⟩)) (fun b u z => ?_) (fun b z => ?_) fun _ => hk
    · by_cases hb : b = a
      · exact .inr ⟨_, _, if_pos hb⟩
      · exact .inl (if_neg hb)
    · by_cases hb : b = a
      · have z' := (if_pos hb).symm.trans z
        cases z'
        subst hb
        exact ⟨ha, by rw [List.length_map]; exact hl, vs, _, rv, ha⟩
      · have z' := (if_neg hb).symm.trans z
        cases z'
    · by_cases hb : b = a
      · exact hb
      · exact absurd (if_neg hb) z
end L2

namespace L2
open PySem PySem.Spec PyProof.Rows

abbrev KOf {K : PySem.W.Frag} {h : Heap} (_ : K.In h) : PySem.W.Frag := K

/-- the goal that k_head leaves (case hc), from the law's promise. F gives the function object fd (K's own) once, then the promise over every base -/
theorem walk_of {l : PySem.W.OpenLaw} {n k : Nat} {q : Program} {loose : List Str} {XP : (Str → Option Value) → Heap → Prop} {YP : World → Heap → Prop} {d : DefRec} {K : Params → PySem.W.Frag} {CX : World → CXT} {sp : World → Sp} {x : Str}
    (hn : l.most = some n) (hn2 : n ≤ sizeLine) (hdf : d.params.defaults = []) (hr : Room k callerA)
    (hY : ∀ (w : World) (h : Heap), YP w h → (K w.params).In h)
    (F : ∀ (w : World) (mg : Str → Option Value) (fa : Addr) (h : Heap), (K w.params).In h → h.Ns mainGlobals mg → mg d.name = some (.ref fa) →
      ∃ fd : FuncData, (∀ (s : Shared) (u : Value), BindsTo s fd ⟨[u], []⟩ [(x, u)]) ∧
        ∀ base : Heap, (K w.params).In base → base.Ns mainGlobals mg → FnOk l.prog w (K w.params) mg base (CX w) k fa fd [x] (sp w))
    (hsp : ∀ (w : World) (H : Hp) (a : Addr) (ns : List Int), ns.length ≤ n → Only H → SqL (K w.params) H a (ns.map V.int) → sp w [.ref a] H (fun v _ => v = .bl true) fun _ _ _ => False)
    (hCX : ∀ (w : World) (H : Hp) (s : Shared) (e : Value) (s' : Shared), CX w [] H s (fun _ _ _ => False) e s' → False) :
    PySem.W.WalkO q loose XP YP l.row.toRowW d [] (fun f vs => PySem.call f vs) := by
  refine Att.attach_call hn hdf fun w s₀ s₁ mg mb fa o pm cd doc a vs ns G Y ho hd hcd hmg hobj hints hlen hg => ?_
  have KX := hY w _ Y
  obtain ⟨fd, hb, hF⟩ := F w mg fa _ KX G.T.g hmg
  exact law_call KX G.T.g G.T.b G.T.builtins G.T.nolimit hg hobj hints (Nat.le_trans hlen hn2) hr hF hb (fun H hO hS => hsp w H a ns hlen hO hS) fun H e s' => hCX w H s₁ e s'
end L2

/- THE LAST THEOREM (shape; LID, My.* are yours):
   My.Adr: a structure of the addresses that your layer names (classes, functions); My.Txt K t: a structure (Prop) of the equations over K;
   My.txt_mk : {K} {implicit addresses ..} (e1 : nsIn K mainGlobals "law" = some (some (.ref f))) (e2 : K.lookup f = some ⟨oc, od, .func (fnOf "law" "law" params body scope dV kV doc pm an cdv ct), sl⟩) (e3 : codeIn K cdv "law" = true) .. : ∃ t, My.Txt K t

set_option maxRecDepth 100000 in
set_option maxHeartbeats 0 in
theorem PySem.Challenge.cw_LID_holds : PySem.Challenge.rw_LID.Holds := by
  w_on; o_law; k_head; (case hw => w_witness2)
  k_fill
  refine L2.walk_of (l := PySem.Challenge.rw_LID) (n := 63) (k := 40) (x := "script") (CX := fun w => ..) (sp := fun _ => My.sp_law) rfl (by decide) rfl ⟨rfl, by decide, by decide⟩ (fun w h Y => PySem.W.kIn_of Y) ?F ?S ?C
  case F =>
    intro w mg fa h KX G hmg
    have T : ∃ t, My.Txt (L2.KOf KX) t := by
      dsimp only [L2.KOf]                          -- K must stand as «<heap const> w.params» for k_is
      refine' My.txt_mk ?e1 ?e2 ?e3 ..
      (case e1 => PySem.W.k_is)                    -- in the order: a name -> its address -> its object -> its parts
      (case e2 => PySem.W.k_is)
      ..
    obtain ⟨t, T⟩ := T
    have e0 := hmg.symm.trans (PySem.W.mg_of KX G T.law)
    cases e0                                       -- fa is the law's own address
    exact ⟨_, fun s u => .of_eq rfl, fun base kb nb => My.law_fn T kb nb⟩     -- if «.of_eq rfl» comes too early: refine' ⟨_, ?b, fun base kb nb => My.law_fn T kb nb⟩; exact fun s u => .of_eq rfl
  case S => exact fun w H a ns hl hO hS => ..
  case C => exact ..
(the tactic k_is has no namespace: write k_is) -/

/-! SHORT WORDS over the layer: a def of the text, its body, what a loop and a test want. -/
namespace L2
open PySem PySem.Spec PyProof.Rows

/-! ### the text by places -/
/-- the j-th statement of a class's body -/
def inClass (s : Stmt) (j : Nat) : Stmt := match s with
  | .ClassDef _ _ _ body _ _ _ _ _ _ _ => body.getD j (.Pass ⟨0, 0, 0, 0⟩)
  | _ => .Pass ⟨0, 0, 0, 0⟩
def defArgs (s : Stmt) : Arguments := match s with
  | .FunctionDef _ a _ _ _ _ _ _ _ _ => a
  | _ => { posonlyargs := [], args := [], vararg := none, kwonlyargs := [], kw_defaults := [], kwarg := none, defaults := [] }
def defBody (s : Stmt) : List Stmt := match s with
  | .FunctionDef _ _ b _ _ _ _ _ _ _ => b
  | _ => []
def defScope (s : Stmt) : Scope := match s with
  | .FunctionDef _ _ _ _ _ _ sc _ _ _ => sc
  | _ => { kind := .function, names := [], isGenerator := false, isCoroutine := false }

/-! ### no exception leaves a def -/
abbrev CX0 : CXT := fun _ _ _ _ _ _ => False
abbrev E0 : XK := fun _ _ _ => False
theorem pass0 {X : Cx} : Passes CX0 X E0 := fun _ _ _ _ _ _ _ h => h.elim

/-! ### a def (or method) of the text as it stands behind the top -/
structure Fun (K : PySem.W.Frag) (x qual : Str) (st : Stmt) (f : Addr) (fd : FuncData) : Prop where
  ex : ∃ (oc : Value) (od : Option Addr) (kV doc pm : Value) (an : Option Addr) (cdv ct : Value) (osl : Array (Option Value)),
    fd = PySem.W.fnOf x qual (defArgs st) (defBody st) (defScope st) .none kV doc pm an cdv ct ∧ K.lookup f = some ⟨oc, od, .func fd, osl⟩ ∧ PySem.W.codeIn K cdv qual = true
  kp : PySem.W.keepIn K (.ref f) = true
section
variable {P : Program} {w : World} {K : PySem.W.Frag} {mg : Str → Option Value} {base : Heap}
/-- THE RULE for a def: its body as a term of rules, and the reading of that term -/
theorem Fun.ok {x qual : Str} {st : Stmt} {f : Addr} {fd : FuncData} {N ps : List Str} {k : Nat} {sp : Sp} (F : Fun K x qual st f fd) (S : FnScope N ps (defScope st)) (len : ∀ vs H Q E, sp vs H Q E → vs.length = ps.length)
    (hbody : ∀ (cdv : Value) (A : Around) (outer : List Env) (s : Shared) (H : Hp) (vs : List V) (Q : VK) (E : XK), Room k (A.deeper (envOfC qual (defScope st) s.heap.objs.size f cdv)) → sp vs H Q E →
      ∃ t, PSs (cxOf CX0 P w K mg base N qual (defScope st) f cdv A outer s H E).nox (defBody st) t ∧ t { nx := fun _ H' => Q .non H', rt := Q } (start N vs) H) : FnOk P w K mg base CX0 (k + 1) f fd ps sp := by
  obtain ⟨oc, od, kV, doc, pm, an, cdv, ct, osl, rfl, lk, hcd⟩ := F.ex
  refine fn_of lk hcd S len fun A outer s H vs Q E hr hsp => ?_
  obtain ⟨t, h, q⟩ := hbody cdv A outer s H vs Q E hr hsp
  exact ⟨t, h.nox, q⟩
/-- how its arguments bind (no defaults): h is «fun _ _ _ _ _ _ us hl => match us, hl with | [_, _], _ => rfl», one _ a parameter -/
theorem Fun.binds {x qual : Str} {st : Stmt} {f : Addr} {fd : FuncData} {ps : List Str} (F : Fun K x qual st f fd)
    (h : ∀ (kV doc pm : Value) (an : Option Addr) (cdv ct : Value) (us : List Value), us.length = ps.length → bindArgs (PySem.W.fnOf x qual (defArgs st) (defBody st) (defScope st) .none kV doc pm an cdv ct) ⟨us, []⟩ = pure (ps.zip us)) : Binds K fd ps [] := by
  obtain ⟨oc, od, kV, doc, pm, an, cdv, ct, osl, rfl, lk, hcd⟩ := F.ex
  exact .all (h kV doc pm an cdv ct)
theorem fun_mk {x qual : Str} {st : Stmt} {f : Addr} {oc : Value} {od an : Option Addr} {osl : Array (Option Value)} {kV doc pm cdv ct : Value} (l : K.lookup f = some ⟨oc, od, .func (PySem.W.fnOf x qual (defArgs st) (defBody st) (defScope st) .none kV doc pm an cdv ct), osl⟩)
    (c : PySem.W.codeIn K cdv qual = true) (k : PySem.W.keepIn K (.ref f) = true) : Fun K x qual st f (PySem.W.fnOf x qual (defArgs st) (defBody st) (defScope st) .none kV doc pm an cdv ct) := ⟨⟨oc, od, kV, doc, pm, an, cdv, ct, osl, rfl, l, c⟩, k⟩
end
theorem hu_of {A : Around} {k : Nat} (hr : Room k A) : A.units + 1 < cLine := Nat.lt_of_le_of_lt (Nat.add_le_add_left (by decide : 1 ≤ 64) _) hr.units
theorem small1000 {n : Nat} (h : n ≤ 1000) : n < sizeLine := Nat.lt_of_le_of_lt h (by decide)

/-! ### expressions in short: the name that stands in the i-th slot -/
section
variable {X : Cx}
theorem pv (i : Nat) {x : Str} {pos : Pos} (hN : X.N[i]? = some x := by rfl) (hv : Vis X.env.scope x := by first | exact Or.inl rfl | exact Or.inr (Or.inl rfl) | exact Or.inr (Or.inr rfl)) (hd : (x == ("__debug__" : Str)) = false := by decide)
    (hcd : (x == ("__classdict__" : Str)) = false := by decide) : PE X (.Name x pos) (tVar i) := pe_var hN hv hd hcd
end

/-! ### tests -/
theorem iteF {A B : Prop} (h : B) : if false = true then A else B := by
  rw [if_neg Bool.false_ne_true]
  exact h
theorem iteT {A B : Prop} (h : A) : if true = true then A else B := by
  rw [if_pos rfl]
  exact h
theorem ite2 {c A B : Prop} [Decidable c] (h1 : c → A) (h2 : ¬ c → B) : if c then A else B := by
  by_cases h : c
  · rw [if_pos h]
    exact h1 h
  · rw [if_neg h]
    exact h2 h
/-! ### heaps -/
/-- all that was tracked is as it was -/
def Same (H H' : Hp) : Prop := ∀ b o, H b = some o → H' b = some o
theorem Same.refl (H : Hp) : Same H H := fun _ _ h => h
theorem Same.trans {H H1 H2 : Hp} (a : Same H H1) (b : Same H1 H2) : Same H H2 := fun c o h => b c o (a c o h)
theorem Same.free {H H' : Hp} (e : Same H H') {l : Addr} (h : H' l = Option.none) : H l = Option.none := by
  cases q : H l with
  | none => rfl
  | some o =>
    rw [e l o q] at h
    cases h
theorem Same.seq {K : PySem.W.Frag} {H H' : Hp} {a : Addr} {xs : List V} (e : Same H H') (h : SqL K H a xs) : SqL K H' a xs := by
  rcases h with (h | ⟨o, h⟩) | h
  · exact .inl (.inl (e _ _ h))
  · exact .inl (.inr ⟨o, e _ _ h⟩)
  · exact .inr h

/-! ### a dict's pairs: keys that differ -/
section
variable {κ : Type} [DecidableEq κ]
end
/-! ### lists -/
end L2


set_option Elab.async false
set_option linter.all false
set_option maxRecDepth 100000
set_option maxHeartbeats 4000000
namespace L2
open PySem PySem.Spec PyProof.Rows
/-! own rules beside the layer -/
section
variable {X : Cx}
/-- a comprehension over a text, sign by sign -/
theorem lc_str {x : Str} {g : TG} {tt : TT} {te : TE} {vs : List Nat} {σ : St} {H1 : Hp} {D : Addr} {Qd : Hp → Prop} (Pv : Nat → Hp → Prop) (h0 : Pv 0 (upd H1 D (.lst [])))
    (hs : ∀ i c H, x.cps[i]? = some c → Pv i H → g (.str ⟨#[c]⟩) (wipe σ vs) H fun σ2 H2 => wipe σ2 vs = wipe σ vs ∧ tt σ2 H2 fun b H3 =>
      if b = true then te σ2 H3 fun y H4 => ∃ acc, H4 D = some (.lst acc) ∧ acc.length < sizeLine ∧ Pv (i + 1) (upd H4 D (.lst (acc ++ [y]))) else Pv (i + 1) H3) (hd : ∀ H, Pv x.cps.size H → Qd H) :
    ∃ W : Nat → Nat → Hp → Prop, (∃ m, W 0 m (upd H1 D (.lst []))) ∧ ∀ i m H, W i m H →
      ((Its x).stop i H ∧ Qd H) ∨ ((Its x).go i H ∧ ∃ Nx : Hp → Prop, (∀ H', Nx H' → ∃ m', m' < m ∧ W (i + 1) m' H') ∧ ∀ y H', (Its x).yld i H y H' → g y (wipe σ vs) H' fun σ2 H2 => wipe σ2 vs = wipe σ vs ∧ tt σ2 H2 fun b H3 =>
        if b = true then te σ2 H3 fun y H4 => ∃ acc, H4 D = some (.lst acc) ∧ acc.length < sizeLine ∧ Nx (upd H4 D (.lst (acc ++ [y]))) else Nx H3) := by
  refine ⟨fun i m H => m = x.cps.size - i ∧ i ≤ x.cps.size ∧ Pv i H, ⟨x.cps.size, by simp, Nat.zero_le _, h0⟩, ?_⟩
  rintro i m H ⟨rfl, hi, p⟩
  by_cases hlt : i < x.cps.size
  · refine .inr ⟨hlt, Pv (i + 1), fun H' p' => ⟨x.cps.size - (i + 1), by omega, rfl, hlt, p'⟩, fun y H' z => ?_⟩
    obtain ⟨e, c, hc, hv⟩ := z
    subst e hv
    exact hs i c _ hc p
  · have e : i = x.cps.size := by omega
    subst e
    exact .inl ⟨Nat.le_refl _, hd H p⟩

/-- isinstance(x, c) as a call by values -/
def clsV : V → Option Value
  | .ty n => some (.type n)
  | .ref a => some (.ref a)
  | _ => none
def rIsi (K : PySem.W.Frag) : List V → Hp → VK → Prop := fun xs H Q => ∃ (x y : V) (t c : Value) (b : Bool), xs = [x, y] ∧ TyOf K H x t ∧ clsV y = some c ∧ PySem.W.kitOne K t c = some b ∧ Q (.bl b) H
theorem cr_isi : CallR X (.builtin "isinstance") (rIsi X.K) := by
  intro pins s σ H xs us Q I r h
  obtain ⟨x, y, t, c, b, rfl, ty, hy, hk, q⟩ := h
  cases r with
  | cons rx r1 =>
    cases r1 with
    | cons ry r2 =>
      cases r2
      rename_i u v
      have e : v = c := by
        cases y with
        | ty n => cases (show v = Value.type n from ry); exact Option.some.inj hy
        | ref a => cases (show v = Value.ref a from ry); exact Option.some.inj hy
        | non => cases hy
        | bl _ => cases hy
        | int _ => cases hy
        | str _ => cases hy
        | byt _ => cases hy
        | flt _ => cases hy
      subst e
      exact isinst_ok I rx ty hk fun tk => ⟨.bl b, H, I.tok tk, rfl, q⟩

/-- products of any two ints whose bits are few -/
theorem op_mulX : OpR X (binaryOp .Mult) (rI IntMulOk fun i j => .int (i * j)) := opI fun _ _ _ _ _ _ _ hc q => mul_int q hc

/-- a text's slice with a step other than 1 and 0 -/
def cutSt (z : Str) (lo hi : Option Int) (st : Int) : Str := ⟨((Builtin.Str.strSliceIndices lo hi st z.length).filterMap (z.cps[·]?)).toArray⟩
def tSlSt (te : TE) (tl th ts : TO) : TE := fun σ H Q => te σ H fun x H1 => tl σ H1 fun l H2 => th σ H2 fun u H3 => ts σ H3 fun st H4 =>
  ∃ z k, x = .str z ∧ st = some k ∧ (k == 0) = false ∧ (k == 1) = false ∧ (cutSt z l u k).length ≤ sizeLine ∧ Q (.str (cutSt z l u k)) H4
/-- a statement, an expression, a test: what is known behind it, then the rest once -/
def tCut (t : TS) : TS := fun D σ H => ∃ R : St → Hp → Prop, t { D with nx := R } σ H ∧ ∀ σ' H', R σ' H' → D.nx σ' H'
theorem ps_cut {st : Stmt} {t : TS} (h : PS X st t) : PS X st (tCut t) := by
  intro pins s σ H D I hw
  obtain ⟨R, hq, hm⟩ := hw
  refine thn (h pins s σ H _ I hq) fun f s' q => ?_
  cases f with
  | next => obtain ⟨σ', H', I', r⟩ := q; exact ⟨σ', H', I', hm _ _ r⟩
  | brk => exact q
  | cont => exact q
  | ret u => exact q
def tCutE (t : TE) : TE := fun σ H Q => ∃ R : V → Hp → Prop, t σ H R ∧ ∀ v H', R v H' → Q v H'
def tCutT (t : TT) : TT := fun σ H Q => ∃ R : Bool → Hp → Prop, t σ H R ∧ ∀ b H', R b H' → Q b H'
end
end L2

set_option Elab.async false
set_option linter.all false
set_option maxRecDepth 100000
set_option maxHeartbeats 4000000
namespace L2X
open PySem PySem.W PySem.Spec PySem.Calls PyProof.Rows
/-- what of the text a class of exceptions must have -/
structure ExcK (K : Frag) (C : Addr) : Prop where
  ga : findIn K (.ref C) "__getattribute__" = some (some (.builtin "BaseException.__getattribute__"))
  gt : findIn K (.ref C) "__getattr__" = some none
  cl : findIn K (.ref C) "__class__" = some (some (.builtin "object.__class__"))
  get : specialIn K (.builtin "object.__class__") "__get__" = some (some (.builtin "getset_descriptor.__get__"))
  tk : takesIn K (.builtin "object.__class__") = some true
  mo : mroIn K C (.type "object") = some true
  mb : mroIn K C (.type "BaseException") = some true
  cls : (clsIn K C).isSome = true
section
variable {prog : Program} {w : World} {A : Around} {E : Value → Shared → Prop} {s : Shared} {K : Frag} {x C : Addr} {ox : Obj}
theorem exc_entry {tk : Tok} {Q : Fin → Shared → Prop} (Z : ExcK K C) (X : K.In s.heap) (I : InstAt s.heap x ox C none) (hq : Q (.done (.ret (.ref C))) s) :
    wpAny (model prog w) A (Builtin.«object.__getattribute__» ⟨[.ref x, .str "__class__" tk], []⟩) Q E s := by
  have hf : findObj K C none "__class__" = some (.bind (.builtin "getset_descriptor.__get__") (.builtin "object.__class__")) := by
    obtain ⟨cd, hc⟩ := Option.isSome_iff_exists.mp Z.cls
    unfold findObj
    rw [hc, Option.bind_some, Z.cl, Option.bind_some]
    simp [Z.get, Z.tk]
  have L0 := I.type (M := model prog w)
  have L1 := looks_find (M := model prog w) X I hf
  obtain ⟨h, g, d, t, os⟩ := s
  unfold Builtin.«object.__getattribute__»
  repeat (first | (with_reducible refine wpAny_call (class_get (ox := ox) (od := none) X I Z.mo ?_)) | lk)
  exact hq
theorem exc_call {tk : Tok} {R : Result → Shared → Prop} (Z : ExcK K C) (X : K.In s.heap) (I : InstAt s.heap x ox C none) (hq : R (.ok (.ret (.ref C))) s) :
    codeAny (model prog w) A (.call (.builtin "BaseException.__getattribute__") ⟨[.ref x, .str "__class__" tk], []⟩) R s := by
  have hk : builtinKind "BaseException.__getattribute__" = some .slot := by decide +kernel
  have hsplit : splitId "BaseException.__getattribute__" = some ("BaseException", "__getattribute__") := by decide +kernel
  have ha := F.args_bexc_ga (.ref x) (.str "__class__" tk)
  have L0 := I.type (M := model prog w)
  have L2 := looks_mroIn (M := model prog w) X Z.mb
  refine codeAny_call_builtin F.excAttr_ValueError.ga.plain F.entry_bexc_ga ?_
  obtain ⟨h, g, d, t, os⟩ := s
  simp only [checkBuiltinCall, hk, hsplit]
  refine wpAny_bind ?_
  unfold isInstance
  repeat (first | (with_reducible exact exc_entry Z X I hq) | lk)
theorem exc_attr {Q : Option Value → Shared → Prop} (Z : ExcK K C) (X : K.In s.heap) (I : InstAt s.heap x ox C none) (hq : Q (some (.ref C)) { s with toks := s.toks + 1 }) :
    wpAny (model prog w) A (getAttr? (.ref x) "__class__") Q E s := by
  have L0 := I.type (M := model prog w)
  have L1 := looks_findIn (M := model prog w) X Z.ga
  have L2 := looks_findIn (M := model prog w) X Z.gt
  have f3 := F.excAttr_ValueError.ga.bind (.ref x)
  obtain ⟨h, g, d, t, os⟩ := s
  unfold getAttr? getAttrBy? getAttrBy
  refine wpAny_bind (wpAny_mkText (wpAny_bind (wpAny_attempt (wpAny_holding (wpAny_bind (L0.at (wpAny_bind (L1.at ?_))))))))
  have hx2 : (Value.builtin "BaseException.__getattribute__" == Value.builtin "object.__getattribute__") = false := by decide +kernel
  have hx1 : (onTheHeap (Value.ref C) && Value.builtin "BaseException.__getattribute__" == Value.builtin "object.__getattribute__") = false := by rw [hx2]; rfl
  simp only [hx1, Bool.false_eq_true, if_false]
  unfold getAttrByItsOwn hookBefore callGetattribute boundAndCalled
  refine wpAny_bind ?_
  rw [if_pos (show onTheHeap (Value.ref C) = true from rfl)]
  refine L2.at ?_
  refine wpAny_bind (wpAny_attempt (wpAny_holding ?_))
  rw [if_neg (by simp), f3]
  refine wpAny_bind (wpAny_pure ?_)
  show wpAny _ _ (call (.builtin "BaseException.__getattribute__") [.ref x, .str "__class__" t]) _ _ _
  refine wpAny_call (exc_call (s := ⟨h, g, d, t + 1, os⟩) (ox := ox) Z X I ?_)
  exact handed_on (s := ⟨h, g, d, t + 1, os⟩) rfl (wpAny_pure hq)
theorem isType_cls {K : Frag} {M : Model} {h : Heap} {C : Addr} (X : K.In h) (hc : (clsIn K C).isSome = true) : Looks M h (isType (.ref C)) true := by
  obtain ⟨cd, hcD⟩ := Option.isSome_iff_exists.mp hc
  unfold clsIn at hcD
  split at hcD
  · rename_i c' d' cd' sl' ho
    intro A' Q' E' s' k q
    unfold isType loadHead
    exact wpAny_bind (wpAny_loadPart (k _ _ (X _ _ ho)) (wpAny_pure q))
  · cases hcD
theorem kitx_exc (Z : ExcK K C) : KitX K (.ref x) (.ref C) (fun h => InstAt h x ox C none) where
  ty := fun _ _ _ I => I.type
  it := fun _ _ X _ => isType_cls X Z.cls
  ne := fun h tp dd its n sl X htp => by
    obtain ⟨cd, hcD⟩ := Option.isSome_iff_exists.mp Z.cls
    refine Bool.eq_false_iff.mpr fun q => ?_
    have e : C = tp := Value.ref.inj (beq_iff_eq.mp q)
    subst e
    unfold clsIn at hcD
    split at hcD
    · rename_i c' d' cd' sl' ho
      cases (X _ _ ho).symm.trans htp
    · cases hcD
  ca := fun X I k => exc_attr Z X I k
end
end L2X

set_option Elab.async false
set_option linter.all false
set_option maxRecDepth 100000
set_option maxHeartbeats 4000000
namespace L2
open PySem PySem.Spec PyProof.Rows
/-! exceptions in flight -/
/-- objects are kept; at the frames fr the slots may change; of ex nothing is said -/
def Ch (fr ex : List Addr) (h h' : Heap) : Prop :=
  (∀ b o, h.get? b = some o → b ∉ ex → b ∉ fr → h'.get? b = some o) ∧ ∀ b o, h.get? b = some o → b ∉ ex → b ∈ fr → ∃ sl, h'.get? b = some { o with slots := sl }
section
variable {fr ex ex' : List Addr} {h h1 h2 : Heap} {b : Addr} {o : Obj}
theorem Ch.any (c : Ch fr ex h h1) (q : h.get? b = some o) (hx : b ∉ ex) : ∃ sl, h1.get? b = some { o with slots := sl } := by
  by_cases hb : b ∈ fr
  · exact c.2 b o q hx hb
  · exact ⟨o.slots, c.1 b o q hx hb⟩
theorem Ch.same (k : ∀ b o, h.get? b = some o → b ∉ ex → h1.get? b = some o) : Ch fr ex h h1 :=
  ⟨fun b o q hx _ => k b o q hx, fun b o q hx _ => ⟨o.slots, k b o q hx⟩⟩
end
/-- an exception at x, of the class at C, its newest entry at T -/
structure XO (h : Heap) (x C T : Addr) (fl : Value) : Prop where
  ob : ∃ oe vs, h.get? x = some oe ∧ oe.cls = .ref C ∧ oe.dict = none ∧ oe.data = .fields vs ∧ vs[1]? = some (.ref T) ∧ vs[2]? = some .none
  tb : ∃ oT ts, h.get? T = some oT ∧ oT.data = .fields ts ∧ ts[3]? = some fl
  ne : T ≠ x
theorem dict_mapFields {o : Obj} (f : Array Value → Array Value) : (o.mapFields f).dict = o.dict := by
  unfold Obj.mapFields
  split <;> rfl
section
variable {M : Model} {A : Around} {E : Value → Shared → Prop} {s : Shared} {base : Heap} {env : Env} {outer : List Env} {L x C T : Addr} {Q : Unit → Shared → Prop}
theorem not_frame {l : List Env} {o : Obj} {vs : Array Value} (hl : s.heap.FunFrames base l) (he : s.heap.get? x = some o) (hd : o.data = .fields vs) : x ∉ frs l := fun hm => by
  obtain ⟨_, ob, ho, hnf⟩ := hl.mem hm
  rw [he] at ho
  cases ho
  exact hnf vs hd
theorem note_new {oe : Obj} {vs : Array Value} {head : Value} {hadNext : Bool} (hfr : A.frames = some (env :: outer)) (hl : s.heap.FunFrames base (env :: outer)) (hf : env.frame = some L)
    (he : s.heap.get? x = some oe) (hc : oe.cls = .ref C) (hdn : oe.dict = none) (hd : oe.data = .fields vs) (hsz : 1 < vs.size) (h2 : vs[2]? = some .none)
    (k : ∀ h' T, s.heap.objs.size ≤ T → Ch (frs (env :: outer)) [x] s.heap h' → XO h' x C T (rawInt L) → Q () { s with heap := h' }) :
    wpAny M A (do let a ← frameOf env; let pl ← entryPlaceOf L hadNext; let b ← EntryCells.newEntry head a .none (rawInt L) .none pl; setField (.ref x) 1 b) Q E s := by
  have hx : x ∉ frs (env :: outer) := not_frame hl he hd
  refine wpAny_bind (wpAny_frameOf_fun hfr hl hf fun h1 s1 => wpAny_bind (wpAny_entryPlaceOf fun pl hpl => ?_))
  unfold EntryCells.newEntry newFields
  refine wpAny_bind (wpAny_newObj_type ?_ (hpl.sizeOk5 _ _ _ _ _))
  have he1 : h1.get? x = some oe := (s1.2.1 x hx).trans he
  generalize hto : ({ cls := .type "traceback", dict := none, data := .fields ([head, .ref L, .none, rawInt L, .none] ++ (if pl.isEmpty then List.replicate 6 Value.none else pl)).toArray } : Obj) = to
  have htod : to.data = .fields ([head, .ref L, .none, rawInt L, .none] ++ (if pl.isEmpty then List.replicate 6 Value.none else pl)).toArray := by rw [← hto]
  have he2 : (h1.push to).get? x = some oe := Heap.get?_push_of_some _ he1
  have hTx : h1.objs.size ≠ x := Nat.ne_of_gt (Heap.lt_size he1)
  have hd3 := Obj.data_mapFields hd (·.setIfInBounds 1 (Value.ref h1.objs.size))
  refine wpAny_setField he2 hd hsz (k _ h1.objs.size (Nat.le_of_eq s1.1.symm) ⟨fun b o q hb hfb => ?_, fun b o q hb hfb => ?_⟩ ⟨?_, ?_, hTx⟩)
  · rw [Heap.get?_update_other _ _ (by intro z; exact hb (by simp [z]))]
    exact Heap.get?_push_of_some _ ((s1.2.1 b hfb).trans q)
  · obtain ⟨sl, e⟩ := s1.2.2 b o q
    refine ⟨sl, ?_⟩
    rw [Heap.get?_update_other _ _ (by intro z; exact hb (by simp [z]))]
    exact Heap.get?_push_of_some _ e
  · refine ⟨_, _, Heap.get?_update_self _ he2 (Obj.isFreed_of_fields hd3), (Obj.cls_mapFields _ _).trans hc, (dict_mapFields _).trans hdn, hd3, by simp [hsz], ?_⟩
    rw [Array.getElem?_setIfInBounds_ne (by decide)]
    exact h2
  · refine ⟨to, _, ?_, htod, ?_⟩
    · rw [Heap.get?_update_other _ _ (Ne.symm hTx)]
      exact Heap.get?_push_size _ (by rw [← hto]; rfl)
    · first | (simp; done) | (rcases hpl with rfl | ⟨_, _, _, _, _, _, _, rfl⟩ <;> simp)
/-- an exception that lies elsewhere comes by this frame -/
theorem note_on (hfr : A.frames = some (env :: outer)) (hl : s.heap.FunFrames base (env :: outer)) (hf : env.frame = some L) (X : XO s.heap x C T .none)
    (k : ∀ h' T', s.heap.objs.size ≤ T' → Ch (frs (env :: outer)) [x, T] s.heap h' → XO h' x C T' (rawInt L) → Q () { s with heap := h' }) : wpAny M A (noteFrame (.ref x) env) Q E s := by
  obtain ⟨⟨oe, vs, he, hc, hdn, hd, h1, h2⟩, ⟨oT, ts, hT, hdT, h3⟩, ne⟩ := X
  unfold noteFrame
  simp only [hf]
  refine wpAny_bind (wpAny_field he hd h1 ?_)
  rw [if_pos (show (Value.ref T != Value.none) = true by simp)]
  refine wpAny_bind (wpAny_field hT hdT h3 ?_)
  rw [if_neg (show ¬ ((Value.none == rawInt L) = true) by simp [rawInt])]
  refine wpAny_bind (wpAny_setField hT hdT (Array.getElem?_eq_some_iff.mp h3).1 ?_)
  have oth : ∀ b, b ≠ T → (s.heap.update T (Obj.mapFields (·.setIfInBounds 3 Value.none))).get? b = s.heap.get? b := fun b hb => Heap.get?_update_other _ _ (Ne.symm hb)
  have hsz : (s.heap.update T (Obj.mapFields (·.setIfInBounds 3 Value.none))).objs.size = s.heap.objs.size := by simp [Heap.update]
  refine note_new (s := { s with heap := s.heap.update T (Obj.mapFields (·.setIfInBounds 3 Value.none)) }) hfr (hl.of_keeps fun b o hb hnf => ⟨o, (oth b fun z => ?_).trans hb, rfl⟩) hf ((oth x (Ne.symm ne)).trans he) hc hdn hd (Array.getElem?_eq_some_iff.mp h1).1 h2 fun h' T' l c z => ?_
  · rw [z, hT] at hb
    cases hb
    exact hnf ts hdT
  · refine k h' T' (by rw [← hsz]; exact l) ⟨fun b o q hb hfb => c.1 b o ((oth b fun z => hb (by simp [z])).trans q) (fun z => hb (by simp at z; simp [z])) hfb, fun b o q hb hfb => c.2 b o ((oth b fun z => hb (by simp [z])).trans q) (fun z => hb (by simp at z; simp [z])) hfb⟩ z
theorem note_first {oe : Obj} {vs : Array Value} (hfr : A.frames = some (env :: outer)) (hl : s.heap.FunFrames base (env :: outer)) (hf : env.frame = some L)
    (he : s.heap.get? x = some oe) (hc : oe.cls = .ref C) (hdn : oe.dict = none) (hd : oe.data = .fields vs) (h1 : vs[1]? = some .none) (h2 : vs[2]? = some .none)
    (k : ∀ h' T, s.heap.objs.size ≤ T → Ch (frs (env :: outer)) [x] s.heap h' → XO h' x C T (rawInt L) → Q () { s with heap := h' }) : wpAny M A (noteFrame (.ref x) env) Q E s := by
  unfold noteFrame
  simp only [hf]
  refine wpAny_bind (wpAny_field he hd h1 ?_)
  rw [if_neg (by decide)]
  exact note_new hfr hl hf he hc hdn hd (Array.getElem?_eq_some_iff.mp h1).1 h2 k
theorem flight_off {fl : Value} (X : XO s.heap x C T fl) (k : ∀ h' : Heap, (∀ b, b ≠ T → h'.get? b = s.heap.get? b) → h'.objs.size = s.heap.objs.size → XO h' x C T .none → Q () { s with heap := h' }) : wpAny M A (setFlight (.ref x) none) Q E s := by
  obtain ⟨⟨oe, vs, he, hc, hdn, hd, h1, h2⟩, ⟨oT, ts, hT, hdT, h3⟩, ne⟩ := X
  have oth : ∀ b, b ≠ T → (s.heap.update T (Obj.mapFields (·.setIfInBounds 3 Value.none))).get? b = s.heap.get? b := fun b hb => Heap.get?_update_other _ _ (Ne.symm hb)
  have hs3 := (Array.getElem?_eq_some_iff.mp h3).1
  refine wpAny_setFlight_none he hd h1 hT hdT hs3 (k _ oth (by simp [Heap.update]) ⟨⟨oe, vs, (oth x (Ne.symm ne)).trans he, hc, hdn, hd, h1, h2⟩, ⟨_, _, Heap.get?_update_self _ hT (Obj.isFreed_of_fields (Obj.data_mapFields hdT _)), Obj.data_mapFields hdT _, by simp [hs3]⟩, ne⟩)
/-- it leaves a frame -/
theorem leave_on (hfr : A.frames = some (env :: outer)) (hl : s.heap.FunFrames base (env :: outer)) (hf : env.frame = some L) (X : XO s.heap x C T .none)
    (k : ∀ h' T', s.heap.objs.size ≤ T' → Ch (frs (env :: outer)) [x, T] s.heap h' → XO h' x C T' .none → Q () { s with heap := h' }) : wpAny M A (leaving env (.ref x)) Q E s := by
  unfold leaving
  refine wpAny_bind (note_on hfr hl hf X fun h1 T1 l c X1 => ?_)
  refine flight_off (s := { s with heap := h1 }) X1 fun h2 oth sz X2 => k h2 T1 l ?_ X2
  exact ⟨fun b o q hb hfb => (oth b (Nat.ne_of_lt (Nat.lt_of_lt_of_le (Heap.lt_size q) l))).trans (c.1 b o q hb hfb), fun b o q hb hfb => by
    obtain ⟨sl, e⟩ := c.2 b o q hb hfb
    exact ⟨sl, (oth b (Nat.ne_of_lt (Nat.lt_of_lt_of_le (Heap.lt_size q) l))).trans e⟩⟩
theorem leave_first {oe : Obj} {vs : Array Value} (hfr : A.frames = some (env :: outer)) (hl : s.heap.FunFrames base (env :: outer)) (hf : env.frame = some L)
    (he : s.heap.get? x = some oe) (hc : oe.cls = .ref C) (hdn : oe.dict = none) (hd : oe.data = .fields vs) (h1 : vs[1]? = some .none) (h2 : vs[2]? = some .none)
    (k : ∀ h' T', s.heap.objs.size ≤ T' → Ch (frs (env :: outer)) [x] s.heap h' → XO h' x C T' .none → Q () { s with heap := h' }) : wpAny M A (leaving env (.ref x)) Q E s := by
  unfold leaving
  refine wpAny_bind (note_first hfr hl hf he hc hdn hd h1 h2 fun h1 T1 l c X1 => ?_)
  refine flight_off (s := { s with heap := h1 }) X1 fun h2 oth sz X2 => k h2 T1 l ?_ X2
  exact ⟨fun b o q hb hfb => (oth b (Nat.ne_of_lt (Nat.lt_of_lt_of_le (Heap.lt_size q) l))).trans (c.1 b o q hb hfb), fun b o q hb hfb => by
    obtain ⟨sl, e⟩ := c.2 b o q hb hfb
    exact ⟨sl, (oth b (Nat.ne_of_lt (Nat.lt_of_lt_of_le (Heap.lt_size q) l))).trans e⟩⟩
end
end L2

set_option Elab.async false
set_option linter.all false
set_option maxRecDepth 100000
set_option maxHeartbeats 4000000
namespace L2
open PySem PySem.Spec PyProof.Rows
section
variable {fs fr ex exU : List Addr} {H H1 : Hp} {h0 h1 h2 h h' : Heap} {P : Program} {w : World}
theorem Un.ch (U : Un fs exU H H1 h0 h1) (c : Ch fr ex h1 h2) (hx : ∀ b o, h0.get? b = some o → b ∉ ex) (hf : ∀ b o, h0.get? b = some o → b ∈ fr → b ∈ fs) : Un fs exU H H1 h0 h2 where
  keep := fun b o q n hb he => c.1 b o (U.keep b o q n hb he) (hx b o q) fun z => hb (hf b o q z)
  slot := fun b o q n hb he => by
    obtain ⟨sl, e⟩ := U.slot b o q n hb he
    obtain ⟨sl2, e2⟩ := c.any e (hx b o q)
    exact ⟨sl2, e2⟩
  free := U.free
  there := fun b o q he => by
    obtain ⟨o', e⟩ := U.there b o q he
    obtain ⟨sl, e2⟩ := c.any e (hx b o q)
    exact ⟨_, e2⟩
  tups := U.tups
  frzs := U.frzs
  tbls := U.tbls
theorem HOk.ch (x : HOk P w H h) (c : Ch fr ex h h') (hf : ∀ b ∈ fr, H b = none) (he : ∀ b ∈ ex, H b = none) : HOk P w H h' := fun a o e =>
  (x a o e).stay (fun b u hb q => by
    have nn : H b ≠ none := by
      rcases hb with z | z
      · rw [z, e]; exact fun z => nomatch z
      · rw [z]; exact fun z => nomatch z
    exact c.1 b u q (fun z => nn (he b z)) fun z => nn (hf b z)) (fun _ q => q) fun _ _ q => q
end
/-- an address that the context does not know -/
structure FB (X : Cx) (pins : List (Addr × Obj)) (H : Hp) (b : Addr) : Prop where
  s0 : X.s_0.heap.get? b = none
  nt : H b = none
  nl : b ≠ X.env.locals
  nc : ∀ y c, X.env.cells.lookup y = some c → c ≠ b
  np : ∀ p ∈ X.pn ++ pins, p.1 ≠ b
section
variable {X : Cx} {pins : List (Addr × Obj)} {σ : St} {H H1 : Hp} {s s' : Shared} {h' : Heap} {ex : List Addr} {b : Addr}
theorem Inv.ch {t' : Nat} (I : Inv X pins σ H s) (c : Ch (frs X.stack) ex s.heap h') (hx : ∀ b ∈ ex, FB X pins H b) : Inv X pins σ H { s with heap := h', toks := t' } := by
  have nL : X.env.locals ∉ ex := fun z => (hx _ z).nl rfl
  have cellK : ∀ x a, X.env.cells.lookup x = some a → ∀ v, s.heap.IsCell a v → h'.IsCell a v := fun x a e v ⟨o, ho, hd⟩ => by
    obtain ⟨sl, q⟩ := c.any ho fun z => (hx _ z).nc x a e rfl
    exact ⟨_, q, hd⟩
  refine ⟨I.ok, I.os, I.bare, I.base.ch c (fun b o q z => ?_) (fun b o q z => ?_), ?_, fun x a e => ?_, I.free, I.freeC, fun p hp => ?_, I.hok.ch c I.stkFree fun b hb => (hx b hb).nt, I.len⟩
  · rw [(hx b z).s0] at q; cases q
  · rcases List.mem_cons.mp (I.stkSub b z) with e | e
    · rw [e] at q
      exact absurd (Nat.lt_of_lt_of_le (Heap.lt_size q) I.ok.above) (Nat.lt_irrefl _)
    · exact e
  · obtain ⟨m, ⟨o, es, ep, ho, r⟩, hl⟩ := I.loc
    obtain ⟨sl, q⟩ := c.any ho nL
    refine ⟨m, ⟨_, es, ep, q, r⟩, fun i x v e1 e2 e3 => ?_⟩
    obtain ⟨u, ru, l⟩ := hl i x v e1 e2 e3
    refine ⟨u, ru, ?_⟩
    rcases l with l | ⟨kk, a, e, z⟩
    · exact .inl l
    · exact .inr ⟨kk, a, e, cellK x a e _ z⟩
  · obtain ⟨v, z⟩ := I.cell x a e
    exact ⟨v, cellK x a e v z⟩
  · obtain ⟨e, n, ne, nf, d⟩ := I.pin p hp
    refine ⟨c.1 p.1 p.2 e (fun z => (hx _ z).np p hp rfl) fun z => ?_, n, ne, nf, d⟩
    rcases List.mem_cons.mp (I.stkSub _ z) with q | q
    · exact ne q
    · exact nf q
/-- what was not there at a call is not known to the caller -/
theorem Inv.fb (I : Inv X pins σ H s) (hex : X.ex = []) (h : s.heap.get? b = none) (hn : H1 b = none) : FB X pins H1 b := by
  refine ⟨?_, hn, ?_, fun y c e z => ?_, fun p hp z => ?_⟩
  · cases q : X.s_0.heap.get? b with
    | none => rfl
    | some o =>
      obtain ⟨o', e⟩ := I.base.there b o q (by rw [hex]; simp)
      rw [h] at e; cases e
  · rintro rfl
    obtain ⟨m, ⟨o, es, ep, ho, r⟩, hl⟩ := I.loc
    rw [h] at ho; cases ho
  · obtain ⟨v, o, ho, hd⟩ := I.cell y c e
    rw [z, h] at ho; cases ho
  · have q := (I.pin p hp).1
    rw [z, h] at q; cases q
theorem Inv.fbSize (I : Inv X pins σ H s) (hb : s.heap.objs.size ≤ b) (hn : H1 b = none) : FB X pins H1 b := by
  obtain ⟨f0, f1, f2, f3, f4, f5⟩ := I.fpOk (H' := H1) hb hn
  exact ⟨Heap.get?_none_of_le (Nat.le_trans I.sz hb), hn, f1, f4, f5⟩
end
/-- how an exception lies behind a call -/
def CX1 (P : Program) (w : World) : CXT := fun outer H s E e s' => ∃ (x C T : Addr) (H1 : Hp), e = .ref x ∧ s'.os = s.os ∧ AllBare s'.gens ∧ Un (frs outer) [] H H1 s.heap s'.heap ∧ HOk P w H1 s'.heap ∧
  XO s'.heap x C T .none ∧ s.heap.get? x = none ∧ s.heap.get? T = none ∧ H1 x = none ∧ H1 T = none ∧ E (.ref C) none H1
section
variable {P : Program} {w : World} {K : PySem.W.Frag} {mg : Str → Option Value} {base : Heap} {N : List Str} {qual : Str} {scope : Scope} {f : Addr} {cd : Value} {A : Around} {outer : List Env} {s0 : Shared} {H0 : Hp} {E : XK}
/-- a callee's exception leaves this def too -/
theorem pass_up : Passes (CX1 P w) (cxOf (CX1 P w) P w K mg base N qual scope f cd A outer s0 H0 E) E := by
  intro pins σ H s e s' I q
  obtain ⟨x, C, T, H1, rfl, os, bare, un, hok, XX, hx, hT, nx, nT, hE⟩ := q
  have I1 := I.call' (ch := []) os un hok bare (fun b z => absurd z (by simp))
  have fx := I.fb (H1 := H1) rfl hx nx
  have fT := I.fb (H1 := H1) rfl hT nT
  show wpAny _ _ (leaving _ (.ref x)) _ _ _
  refine leave_on (base := base) (outer := outer) I1.ok.frames I1.stack rfl XX fun h' T' l c X' => ?_
  have I2 := I1.ch (t' := s'.toks) c fun b hb => by
    rcases List.mem_cons.mp hb with z | z
    · rw [z]; exact fx
    · rw [List.mem_singleton.mp z]; exact fT
  exact ⟨x, C, T', H1, rfl, I2.os, I2.bare, I2.base, I2.hok, X', fx.s0, (I1.fbSize l (I1.hok.fresh l)).s0, nx, I1.hok.fresh l, hE⟩
/-- a def raises -/
def Up (X : Cx) (E : XK) : Prop := ∀ (pins : List (Addr × Obj)) (σ : St) (H : Hp) (s : Shared) (x C : Addr) (args : List Value) (h' : Heap), Inv X pins σ H s → Heap.MadeExcOf s.heap h' x (.ref C) args → E (.ref C) none H → X.xe (.ref x) { s with heap := h' }
theorem up_of : Up (cxOf (CX1 P w) P w K mg base N qual scope f cd A outer s0 H0 E) E := by
  intro pins σ H s x C args h' I hm hE
  have I1 : Inv (cxOf (CX1 P w) P w K mg base N qual scope f cd A outer s0 H0 E) pins σ H { s with heap := h' } := I.kept (t' := s.toks) hm.keeps
  obtain ⟨t, he, _, _⟩ := hm.there
  have nx : H x = none := by
    cases q : H x with
    | none => rfl
    | some u =>
      have z := (I.hok x u q).lt
      cases qq : s.heap.get? x with
      | none => 
        exfalso
        have hk := hm.new
        cases u with
        | lst xs => obtain ⟨_, _, _, _, e⟩ := I.hok x _ q; rw [hk] at e; cases e
        | tup xs => obtain ⟨_, _, _, o, e, _⟩ := I.hok x _ q; rw [hk] at e; cases e
        | dK kvs => obtain ⟨_, _, _, _, o, _, _, e, _⟩ := I.hok x _ q; rw [hk] at e; cases e
        | dT kvs => obtain ⟨_, _, _, _, o, _, _, e, _⟩ := I.hok x _ q; rw [hk] at e; cases e
        | set S n => obtain ⟨o, _, _, _, e, _⟩ := I.hok x _ q; rw [hk] at e; cases e
        | ins C dx fs => obtain ⟨_, _, _, e, _⟩ := I.hok x _ q; rw [hk] at e; cases e
        | own y => obtain ⟨_, e⟩ := I.hok x _ q; rw [hk] at e; cases e
        | xd fs => obtain ⟨_, ⟨_, _, _, e, _⟩, _⟩ := I.hok x _ q; rw [hk] at e; cases e
        | rng lo hi => obtain ⟨_, _, _, e⟩ := I.hok x _ q; rw [hk] at e; cases e
        | frz ob u => obtain ⟨e, _⟩ := I.hok x _ q; rw [hk] at e; cases e
        | tbl ps => have e : s.heap.get? x = some _ := I.hok x _ q; rw [hk] at e; cases e
        | met f y => have e : s.heap.get? x = some _ := I.hok x _ q; rw [hk] at e; cases e
        | ext φ => obtain ⟨_, ⟨_, e⟩, _⟩ := I.hok x _ q; rw [hk] at e; cases e
      | some o => rw [hm.new] at qq; cases qq
  have fx := I.fb (H1 := H) rfl hm.new nx
  show wpAny _ _ (leaving _ (.ref x)) _ _ _
  refine leave_first (s := { s with heap := h' }) (base := base) (outer := outer) (C := C) I1.ok.frames I1.stack rfl he rfl rfl rfl rfl rfl fun h2 T' l c X' => ?_
  have I2 := I1.ch (t' := s.toks) c fun b hb => by rw [List.mem_singleton.mp hb]; exact fx
  exact ⟨x, C, T', H, rfl, I2.os, I2.bare, I2.base, I2.hok, X', fx.s0, (I1.fbSize l (I1.hok.fresh l)).s0, nx, I1.hok.fresh l, hE⟩
end
end L2

set_option Elab.async false
set_option linter.all false
set_option maxRecDepth 100000
set_option maxHeartbeats 4000000
namespace L2
open PySem PySem.Spec PyProof.Rows
/-- nothing is handled, or an exception without a context -/
def HdS (A : Around) (h : Heap) : Prop := A.handled = none ∨ ∃ (e0 : Addr) (oe : Obj) (vs : Array Value), A.handled = some (.ref e0) ∧ h.get? e0 = some oe ∧ oe.data = .fields vs ∧ vs[2]? = some .none
theorem entry_unchain : entryFor table "proto.unchain" = some Builtin.«proto.unchain» := entryFor_of_tree (by kernel_rfl)
section
variable {prog : Program} {w : World} {A : Around} {E : Value → Shared → Prop} {s : Shared}
theorem raise_hd {α : Type} {a : Addr} {o : Obj} {us : Array Value} {Q : α → Shared → Prop} (hd : HdS A s.heap) (ha : s.heap.get? a = some o) (hu : o.data = .fields us) (hsz : 2 < us.size) (hne : ∀ e0, A.handled = some (.ref e0) → e0 ≠ a)
    (h : ∀ h' : Heap, (∀ b, b ≠ a → h'.get? b = s.heap.get? b) → (∃ o', h'.get? a = some o' ∧ o'.cls = o.cls) → E (.ref a) { s with heap := h' }) : wpAny (model prog w) A (raiseNew (.ref a) : Sem α) Q E s := by
  rcases hd with hd | ⟨e0, oe, vs, hh, he, hv, h2⟩
  · exact wpAny_raiseNew_none hd (h s.heap (fun _ _ => rfl) ⟨o, ha, rfl⟩)
  · unfold raiseNew
    refine wpAny_bind (wpAny_handled ?_)
    rw [hh]
    have n1 : (Value.ref e0 != Value.ref a) = true := by
      have := hne e0 hh
      simp [this]
    simp only [n1, if_true]
    refine wpAny_bind (wpAny_holding (wpAny_runValue (codeAny_builtin entry_unchain ?_)))
    unfold Builtin.«proto.unchain»
    dsimp only
    refine wpAny_bind (wpAny_field he hv h2 ?_)
    rw [if_pos (by decide)]
    refine wpAny_bind (wpAny_pure (wpAny_pure ?_))
    refine wpAny_bind ?_
    unfold updateField
    refine wpAny_bind (wpAny_load ha ?_)
    rw [hu]
    dsimp only
    rw [if_pos hsz]
    refine wpAny_update ha (wpAny_throw (h _ (fun b hb => Heap.get?_update_other _ _ (Ne.symm hb)) ⟨_, Heap.get?_update_self _ ha (Obj.isFreed_of_fields (Obj.data_mapFields hu _)), Obj.cls_mapFields _ _⟩))
theorem range_end {it : Addr} {x left step : Int} {Q : Option Value → Shared → Prop} (hd : HdS A s.heap) (hit : IsRangeIter s.heap it x left step) (hleft : left ≤ 0)
    (hQ : ∀ h', Heap.ExtBut it s.heap h' → Q none { s with heap := h' }) : wpAny (model prog w) A (pyNext (.ref it)) Q E s := by
  have hT : s.TypeIs (.ref it) "range_iterator" := ⟨_, hit, rfl⟩
  unfold pyNext
  refine wpAny_bind (wpAny_attempt (wpAny_callSpecial?_slot (name := Str.ofString "__next__") hT F.slot_range_iterator_next (wpAny_call_entry F.slot_range_iterator_next hT F.entry_range_iterator_next ?_ (F.args_range_iterator_next_1 _))))
  (show wpAny _ _ (field (.ref it) 0 >>= _) _ _ s); refine wpAny_bind (wpAny_field hit rfl (x := rawInt x) rfl ?_)
  (show wpAny _ _ (field (.ref it) 1 >>= _) _ _ s); refine wpAny_bind (wpAny_field hit rfl (x := rawInt left) rfl ?_)
  (show wpAny _ _ (field (.ref it) 2 >>= _) _ _ s); refine wpAny_bind (wpAny_field hit rfl (x := rawInt step) rfl ?_)
  (show wpAny _ _ (if left ≤ 0 then _ else _) _ _ s); rw [if_pos hleft]
  refine wpAny_bind (wpAny_rule (wpAny_bind ?_))
  (show wpAny _ _ (newExc (.type "StopIteration") [] >>= _) _ _ _); refine wpAny_bind ?_
  simp only [newExc, newTuple]; refine wpAny_bind (wpAny_newObj_type ?_ (by size_fits))
  refine wpAny_bind (m := firstArgMember _ _) (wpAny_of_eq (a := Value.none) (by first | rfl | (simp only [firstArgMember]; rfl)) ?_); refine wpAny_newObj_type ?_ (by size_fits)
  generalize hg : s.heap.push { cls := Value.type "tuple", data := Data.seq ([] : List Value).toArray } = h1
  have k1 : ∀ b o, s.heap.get? b = some o → h1.get? b = some o := fun b o e => by rw [← hg]; exact Heap.get?_push_of_some _ e
  refine raise_hd (s := { s with heap := h1.push _ }) (a := h1.objs.size) ?_ (Heap.get?_push_size _ rfl) rfl (by first | decide | (simp; omega)) (fun e0 he0 => ?_) fun h' oth hx => ?_
  · rcases hd with hd | ⟨e0, oe, vs, hh, he, hv, h2⟩
    · exact .inl hd
    · exact .inr ⟨e0, oe, vs, hh, Heap.get?_push_of_some _ (k1 _ _ he), hv, h2⟩
  · rcases hd with hd | ⟨e1, oe, vs, hh, he, hv, h2⟩
    · have z : A.handled = some (.ref e0) := he0
      rw [hd] at z; cases z
    · have z : A.handled = some (.ref e0) := he0
      rw [hh] at z
      cases z
      exact Nat.ne_of_lt (Heap.lt_size (k1 _ _ he))
  · obtain ⟨o', e1, e2⟩ := hx
    refine wpAny_bind (wpAny_isInstance (T := "StopIteration") (b := true) ⟨o', e1, e2⟩ isSubtype_stop ?_)
    refine wpAny_pure (hQ _ fun b o hb e => ?_)
    rw [oth b (Nat.ne_of_lt (Heap.lt_size (k1 _ _ e)))]
    exact Heap.get?_push_of_some _ (k1 _ _ e)
end
end L2

set_option Elab.async false
set_option linter.all false
set_option maxRecDepth 100000
set_option maxHeartbeats 4000000
namespace L2
open PySem PySem.Spec PyProof.Rows
/-- the exception that is handled: at x, of the class at C -/
def HdE (A : Around) (x C : Addr) (H : Hp) (h : Heap) : Prop := A.handled = some (.ref x) ∧ H x = none ∧ ∃ (ox : Obj) (vs : Array Value), h.get? x = some ox ∧ ox.cls = .ref C ∧ ox.dict = none ∧ ox.data = .fields vs ∧ vs[2]? = some .none
def HdX (X : Cx) (x C : Addr) : Prop := HdE X.A x C X.H_0 X.s_0.heap ∧ x ∉ X.fs ∧ x ∉ X.ex
theorem HdX.at {X : Cx} {x C : Addr} {pins : List (Addr × Obj)} {σ : St} {H : Hp} {s : Shared} (h : HdX X x C) (I : Inv X pins σ H s) : HdE X.A x C H s.heap := by
  obtain ⟨⟨hh, n, ox, vs, e, r⟩, nf, nx⟩ := h
  exact ⟨hh, I.base.free x ox e n nx, ox, vs, I.base.keep x ox e n nf nx, r⟩
structure TurnR (P : Program) (w : World) (K : PySem.W.Frag) (tg : Expr) (J : It) (fp : List Addr) (it : Addr) (tn : Nat → Heap → Prop) : Prop where
  mem : it ∈ fp
  obj : ∀ i h, tn i h → ∀ b ∈ fp, ∃ o, h.get? b = some o ∧ ∀ v, o.data ≠ .cell v
  keep : ∀ i h h', tn i h → (∀ b ∈ fp, ∀ o, h.get? b = some o → h'.get? b = some o) → tn i h'
  item : ∀ (X : Cx), X.prog = P → X.w = w → X.K = K → ∀ (i : Nat) (pins : List (Addr × Obj)) (s : Shared) (σ : St) (H : Hp) (E : Value → Shared → Prop), Inv X pins σ H s → HdS X.A s.heap → (∀ b ∈ fp, FpOk X pins H b) → tn i s.heap → J.go i H →
    wpAny (model P w) X.A (pyNext (.ref it)) (fun r s1 => ∃ u, r = some u ∧
      wpAny (model P w) X.A (letOwnedTupleGo tg (.ref it) u) (fun _ s2 => ∃ x H', Inv X pins σ H' s2 ∧ RelV x u ∧ J.yld i H x H' ∧ tn (i + 1) s2.heap ∧ ∀ b ∈ fp, H' b = none) E s1) E s
  done : ∀ (X : Cx), X.prog = P → X.w = w → X.K = K → ∀ (i : Nat) (pins : List (Addr × Obj)) (s : Shared) (σ : St) (H : Hp) (E : Value → Shared → Prop), Inv X pins σ H s → HdS X.A s.heap → (∀ b ∈ fp, FpOk X pins H b) → tn i s.heap → J.stop i H →
    wpAny (model P w) X.A (pyNext (.ref it)) (fun r s1 => r = none ∧ Inv X pins σ H s1) E s
  self : ∀ (A : Around) (i : Nat) (s : Shared) (Q : Value → Shared → Prop) (E : Value → Shared → Prop), tn i s.heap → Q (.ref it) s → wpAny (model P w) A (pyIter (.ref it)) Q E s
/-- an iterator has come -/
def PIER (X : Cx) (pins : List (Addr × Obj)) (σ : St) (tg : Expr) (R : It → Hp → Prop) (itv : Value) (s2 : Shared) : Prop :=
  ∃ (it : Addr) (fp : List Addr) (tn : Nat → Heap → Prop) (J : It) (H' : Hp), itv = .ref it ∧ Inv X pins σ H' s2 ∧ TurnR X.prog X.w X.K tg J fp it tn ∧ tn 0 s2.heap ∧ (∀ b ∈ fp, FpOk X pins H' b) ∧ R J H'
def PIR (X : Cx) (tg iter : Expr) (wi : TI) : Prop :=
  ∀ (pins : List (Addr × Obj)) (s : Shared) (σ : St) (H : Hp) (R : It → Hp → Prop), Inv X pins σ H s → wi σ H R →
    wpAny (model X.prog X.w) X.A (eval iter X.env) (fun v s1 => wpAny (model X.prog X.w) X.A (pyIter v) (PIER X pins σ tg R) X.xe s1) X.xe s

theorem turn_rangeR {P : Program} {w : World} {K : PySem.W.Frag} {tg : Expr} (it : Addr) (lo : Int) (n : Nat) : TurnR P w K tg (Itr lo n) [it] it (fun i h => IsRangeIter h it (lo + (i : Nat) * 1) ((n : Int) - (i : Nat)) 1) where
  mem := by simp
  obj := fun i h st b hb => by
    have e : b = it := by simpa using hb
    subst e
    exact ⟨_, st, fun v z => by
      have z' : Data.fields _ = Data.cell v := z
      cases z'⟩
  keep := fun i h h' st k => k it (by simp) _ st
  item := by
    intro X hP hw hK i pins s σ H E I hd hf st hg
    subst hP hw hK
    obtain ⟨f0, f1, f2, f3, f4, f5⟩ := hf it (by simp)
    refine wpAny_pyNext_range_item st (by have : i < n := hg; omega) fun h' st' sb => ?_
    have I1 : Inv X pins σ H { s with heap := h', toks := s.toks + 1 } := I.turned (fun b o hb e => (sb.2 b hb).trans e) f0 f1 f3 f4 f5
    have st2 : IsRangeIter h' it (lo + ((i + 1 : Nat) : Int) * 1) ((n : Int) - ((i + 1 : Nat) : Int)) 1 := by
      have e1 : lo + ((i + 1 : Nat) : Int) * 1 = lo + (i : Int) * 1 + 1 := by omega
      have e2 : (n : Int) - ((i + 1 : Nat) : Int) = (n : Int) - (i : Int) - 1 := by omega
      rw [e1, e2]; exact st'
    refine ⟨_, rfl, go_of (s := { s with heap := h', toks := s.toks + 1 }) (n := "range_iterator") st2 rfl rfl (by decide) ⟨.int (lo + i), H, I1, ⟨s.toks, ?_⟩, ⟨rfl, rfl⟩, st2, fun b hb => (hf b hb).1⟩⟩
    rw [Int.mul_one]
  done := by
    intro X hP hw hK i pins s σ H E I hd hf st hg
    subst hP hw hK
    obtain ⟨f0, f1, f2, f3, f4, f5⟩ := hf it (by simp)
    exact range_end hd st (by have : n ≤ i := hg; omega) fun h' eb => ⟨rfl, I.turned (t' := s.toks) (fun b o hb e => eb b o hb e) f0 f1 f3 f4 f5⟩
  self := fun _ _ _ _ _ st h => wpAny_pyIter_rangeiter st h
section
variable {X : Cx} {tg : Expr}
/-- a range object just made, walked -/
theorem range_itR {pins : List (Addr × Obj)} {σ : St} {H : Hp} {s : Shared} {R : It → Hp → Prop} {E : Value → Shared → Prop} {lo hi : Int} {t u v : Tok} {tk : Nat} (I : Inv X pins σ H s) (h1 : -(2 ^ 62) ≤ lo) (h2 : lo < 2 ^ 62) (h3 : -(2 ^ 62) ≤ hi) (h4 : hi < 2 ^ 62)
    (q : R (Itr lo (hi - lo).toNat) H) : wpAny (model X.prog X.w) X.A (pyIter (.ref s.heap.objs.size)) (PIER X pins σ tg R) E { s with heap := s.heap.push { cls := .type "range", data := .fields #[.int lo t, .int hi u, .int 1 v] }, toks := tk } := by
  refine wpAny_pyIter_range (IsRange.new ..) (small_one h1 h2 h3 h4) ?_
  have I1 : Inv X pins σ H { s with heap := s.heap.push { cls := .type "range", data := .fields #[.int lo t, .int hi u, .int 1 v] }, toks := tk } := I.kept fun b o e => Heap.get?_push_of_some _ e
  refine ⟨(s.heap.push { cls := .type "range", data := .fields #[.int lo t, .int hi u, .int 1 v] }).objs.size, [(s.heap.push { cls := .type "range", data := .fields #[.int lo t, .int hi u, .int 1 v] }).objs.size], _, _, H, rfl,
    I1.kept (t' := tk) fun b o e => Heap.get?_push_of_some _ e, turn_rangeR _ lo (hi - lo).toNat, ?_, fun b hb => ?_, q⟩
  · have e1 : lo + ((0 : Nat) : Int) * 1 = lo := by simp
    have e2 : (((hi - lo).toNat : Nat) : Int) - ((0 : Nat) : Int) = Builtin.Range.rangeSize lo hi 1 := by rw [rangeSize_one]; split <;> omega
    show IsRangeIter _ _ (lo + ((0 : Nat) : Int) * 1) ((((hi - lo).toNat : Nat) : Int) - ((0 : Nat) : Int)) 1
    rw [e1, e2]
    exact Heap.get?_push_size _ rfl
  · have e : b = (s.heap.push { cls := .type "range", data := .fields #[.int lo t, .int hi u, .int 1 v] }).objs.size := by simpa using hb
    subst e
    exact I1.fpOk (Nat.le_refl _) (I1.hok.fresh (Nat.le_refl _))
theorem pi_range1R {a : Expr} {ta : TA} {p pos : Pos} (hg : Gl X "range") (hm : X.mg "range" = none) (ha : PA X [a] ta) (hs : starEach [a] X.env = [(false, eval a X.env)] := by rfl) : PIR X tg (.Call (.Name "range" p) [a] [] pos) (iRng1 ta) := by
  intro pins s σ H R I h
  refine Call_ (ld_blt I hg hm boot_range (PyProof.Rows.callWith_type1 (thn (ha pos pins s σ H _ I h) fun us s1 ⟨vs, H1, I1, r1, q1⟩ => ?_) hs rfl))
  obtain ⟨j, e, q1, q2, q⟩ := q1
  subst e
  cases r1 with
  | cons r rr =>
    cases rr
    obtain ⟨t, rfl⟩ := r
    exact call_range_1 (range_itR I1 (by omega) (by omega) q1 q2 (by simpa using q))
end
section
variable {X : Cx}
theorem lc_coreR {pins : List (Addr × Obj)} {s : Shared} {σ : St} {H : Hp} {Q : VK} {elt tg iter : Expr} {ifs : List Expr} {scope : Scope} {own : List (Str × Nat)} {pos pos' : Pos} {wi : TI} {g : TG} {tt : TT} {te : TE} {use : Option (Value → Sem Unit)} {Qf : Value → Shared → Prop}
    {xe Ce : Addr} (hX : HdX X xe Ce) (hN : X.N.Nodup) (I : Inv X pins σ H s) (hi : PIR X tg iter wi) (ok : BlkOk X.N X.env.scope scope own)
    (hg : ∀ (s : Shared) (H : Hp) (C : Addr) (cl : List (Str × Addr)) (fp : List Addr), PG (X.blk s H scope (compEnvC scope cl C X.env) fp) tg g) (ht : ∀ (s : Shared) (H : Hp) (C : Addr) (cl : List (Str × Addr)) (fp : List Addr), PTs (X.blk s H scope (compEnvC scope cl C X.env) fp) ifs tt)
    (he : ∀ (s : Shared) (H : Hp) (C : Addr) (cl : List (Str × Addr)) (fp : List Addr), PE (X.blk s H scope (compEnvC scope cl C X.env) fp) elt te) (hs : ∀ x, foldedSetIterable iter X.env x = pure x)
    (h : tLc wi g tt te (own.map (·.2)) σ H Q)
    (hRR : ∀ D C s' m H', Inv X pins σ H' s' → Q (.ref D) H' → s'.heap.Ns C m → FpOk X pins H' C → compPost (model X.prog X.w) X.A X.xe use Qf (.ref D) C (.ok .next) s') :
    wpAny (model X.prog X.w) X.A (comprehension (.ListComp elt [⟨tg, iter, ifs, 0⟩] scope pos) scope X.env pos' (newList []) false (eval iter X.env) use) Qf X.xe s := by
  have hfree : ∀ y ∈ scope.names, y.2 = .free → ∃ c, X.env.cells.lookup y.1 = some c := fun y hy e => by
    rcases ok.free y hy e with k | k
    · exact I.ok.has _ (.inl k)
    · exact I.ok.has _ (.inr k)
  refine wpAny_comprehension_free (use := use) rfl hs (closure_ok hfree) ok.kind (fun y hy e => by rw [ok.uniq y hy, e])
    (thn (hi pins s σ H _ I h) fun xv s1 hx => thn hx fun itv s2 h2 => ?_)
  obtain ⟨it, fp, tn, J, H2, e, I2, T, st2, f2, q⟩ := h2
  subst e
  refine wpAny_newObj_type (newEnv_comp ?_) (by show 0 ≤ sizeLine; decide)
  generalize hD : s2.heap.objs.size = D
  have hDn : H2 D = none := I2.hok.fresh (Nat.le_of_eq hD)
  obtain ⟨W, ⟨m0, w0⟩, turn⟩ := q D hDn
  -- the new list
  generalize hs3 : ({ s2 with heap := s2.heap.push { cls := .type "list", data := .seq ([] : List Value).toArray } } : Shared) = s3
  have I3 : Inv X pins σ (upd H2 D (.lst [])) s3 := by
    rw [← hs3]
    refine I2.laid (t' := s2.toks) (fun b o e => Heap.get?_push_of_some _ e) (Nat.le_of_eq hD) ⟨Nat.zero_le _, [], 0, .nil, ?_⟩
    rw [← hD]
    exact Heap.get?_push_size _ rfl
  have h3 : s3.heap = s2.heap.push { cls := .type "list", data := .seq ([] : List Value).toArray } := by rw [← hs3]
  have sz : ∀ b ∈ fp, b < s2.heap.objs.size := fun b hb => by
    obtain ⟨o, e, _⟩ := T.obj _ _ st2 b hb
    exact Heap.lt_size e
  have f3 : ∀ b ∈ fp, FpOk X pins (upd H2 D (.lst [])) b ∧ b < s3.heap.objs.size := fun b hb => by
    have hlt := sz b hb
    refine ⟨⟨?_, (f2 b hb).2⟩, by rw [h3, Heap.size_push]; exact Nat.lt_succ_of_lt hlt⟩
    rw [upd_ne (by rw [← hD]; exact Nat.ne_of_lt hlt)]
    exact (f2 b hb).1
  have st3 : tn 0 s3.heap := T.keep _ _ _ st2 fun b _ o e => by rw [h3]; exact Heap.get?_push_of_some _ e
  have I4 := block_start I3 ok hN f3
  have pg := hg s3 (upd H2 D (.lst [])) s3.heap.objs.size (cellsFrom (s3.heap.objs.size + 1) scope.names (cloFrom X.env.cells scope.names [])) fp
  have pt := ht s3 (upd H2 D (.lst [])) s3.heap.objs.size (cellsFrom (s3.heap.objs.size + 1) scope.names (cloFrom X.env.cells scope.names [])) fp
  have pe := he s3 (upd H2 D (.lst [])) s3.heap.objs.size (cellsFrom (s3.heap.objs.size + 1) scope.names (cloFrom X.env.cells scope.names [])) fp
  show codeAny _ _ (.compStart (.ListComp elt [⟨tg, iter, ifs, 0⟩] scope pos) 0 (.ref it) (.ref D) (compEnvC scope (cellsFrom (s3.heap.objs.size + 1) scope.names (cloFrom X.env.cells scope.names [])) s3.heap.objs.size X.env)) (compPost (model X.prog X.w) X.A X.xe use Qf (.ref D) s3.heap.objs.size) { s3 with heap := pushCells (s3.heap.push { cls := .type "dict", data := .dict #[] }) scope.names }
  have nfp : ∀ b ∈ fp, (upd H2 D (.lst [])) b = none := fun b hb => (f3 b hb).1.1
  generalize hce : compEnvC scope (cellsFrom (s3.heap.objs.size + 1) scope.names (cloFrom X.env.cells scope.names [])) s3.heap.objs.size X.env = ce at I4 pg pt pe ⊢
  have cL : ce.locals = s3.heap.objs.size := by subst hce; rfl
  generalize hH3 : upd H2 D (.lst []) = H3 at I3 I4 pg pt pe w0 nfp f3
  generalize hs4 : ({ s3 with heap := pushCells (s3.heap.push { cls := .type "dict", data := .dict #[] }) scope.names } : Shared) = s4 at I4 ⊢
  have st4 : tn 0 s4.heap := T.keep _ _ _ st3 fun b _ o e => by rw [← hs4]; exact pushCells_keeps _ _ _ _ (Heap.get?_push_of_some _ e)
  have stat : ∀ {σ' : St} {H' : Hp} {s' : Shared}, Inv (X.blk s3 H3 scope ce fp) [] σ' H' s' → (∀ b ∈ fp, H' b = none) → ∀ b ∈ fp, FpOk (X.blk s3 H3 scope ce fp) [] H' b := fun {σ' H' s'} I' hn b hb =>
    ⟨hn b hb, (I'.ok.exf b hb).1, I'.ok.exfs b hb, .inl hb, fun x c e => (I'.ok.exf b hb).2 x c e, fun p hp => absurd (show p ∈ ([] : List (Addr × Obj)) ++ [] from hp) (by simp)⟩
  have hh5 : ∀ {σ' : St} {H' : Hp} {s' : Shared}, Inv (X.blk s3 H3 scope ce fp) [] σ' H' s' → HdS X.A s'.heap := fun {σ' H' s'} I' => by
    obtain ⟨hh, n3, ox, vs, e3, hcl, hdn, hdt, h2⟩ := hX.at I3
    have nf : xe ∉ frs X.stack := not_frame I3.stack e3 hdt
    have nfp : xe ∉ fp := fun z => by
      rcases (f3 xe z).1.2.2.2.1 with q | q
      · exact hX.2.2 q
      · obtain ⟨_, _, _, _, e0, _⟩ := hX.1
        exact absurd (Nat.lt_of_lt_of_le (Heap.lt_size e0) q) (Nat.lt_irrefl _)
    exact .inr ⟨xe, ox, vs, hh, I'.base.keep xe ox e3 n3 nf nfp, hdt, h2⟩
  have loop : codeAny (model X.prog X.w) X.A (.compLoop (.ListComp elt [⟨tg, iter, ifs, 0⟩] scope pos) 0 (.ref it) (.ref D) ce) (compPost (model X.prog X.w) X.A X.xe use Qf (.ref D) s3.heap.objs.size) s4 := by
    refine compLoop_any (fun n s' => ∃ i H', Inv (X.blk s3 H3 scope ce fp) [] (wipe σ (own.map (·.2))) H' s' ∧ tn i s'.heap ∧ (∀ b ∈ fp, H' b = none) ∧ W i n H') ?_ m0 ⟨0, H3, I4, st4, nfp, w0⟩
    rintro n s5 ⟨i, H5, I5, st5, n5, w5⟩
    rcases turn i n H5 w5 with ⟨stop, qq⟩ | ⟨go, Nx, hNx, step⟩
    · have td := T.done (X.blk s3 H3 scope ce fp) rfl rfl rfl i [] s5 _ H5 (fun _ _ => False) I5 (hh5 I5) (stat I5 n5) st5 stop
      refine thnF td fun r s6 ⟨hr, I6⟩ => ?_
      subst hr
      -- back in the def's context
      have I7 : Inv X pins σ H5 s6 := I3.call' (ch := fp) I6.os I6.base I6.hok I6.bare fun b hb => ⟨(f3 b hb).1.2.2.2.1, (f3 b hb).1.2.1, (f3 b hb).1.2.2.2.2.1, (f3 b hb).1.2.2.2.2.2⟩
      have nC : H5 s3.heap.objs.size = none := by
        have z : H5 ce.locals = none := I6.free
        rw [cL] at z
        exact z
      obtain ⟨m, hn, _⟩ := I6.loc
      have hn : s6.heap.Ns ce.locals m := hn
      rw [cL] at hn
      exact hRR D s3.heap.objs.size s6 m H5 I7 qq hn (I3.fpOk (Nat.le_refl _) nC)
    · have ti := T.item (X.blk s3 H3 scope ce fp) rfl rfl rfl i [] s5 _ H5 (fun _ _ => False) I5 (hh5 I5) (stat I5 n5) st5 go
      refine thnF ti fun r s6 ⟨u, hr, h6⟩ => ?_
      subst hr
      refine thnF h6 fun _ s7 ⟨x, H7, I7, r7, y7, st7, n7⟩ => ?_
      have I7' := I7.pinned (stat I7 n7) (T.obj _ _ st7)
      refine thnF (pg _ s7 _ H7 x u _ I7' r7 (step x H7 y7)) fun _ s8 ⟨σ8, H8, I8, hw8, q8⟩ => ?_
      refine thnF (pt _ s8 σ8 H8 _ I8 q8) fun b s9 ⟨H9, I9, q9⟩ => ?_
      -- the turn's end
      have fin : ∀ {s' : Shared} {H' : Hp}, Inv (X.blk s3 H3 scope ce fp) ([] ++ pinsAt fp s7.heap) σ8 H' s' → Nx H' → ∃ m, m < n ∧ ∃ i H', Inv (X.blk s3 H3 scope ce fp) [] (wipe σ (own.map (·.2))) H' s' ∧ tn i s'.heap ∧ (∀ b ∈ fp, H' b = none) ∧ W i m H' := fun {s' H'} I' nx => by
        obtain ⟨m', hm, w'⟩ := hNx H' nx
        have pin' : ∀ b ∈ fp, ∀ o, s7.heap.get? b = some o → s'.heap.get? b = some o ∧ H' b = none := fun b hb o e =>
          let z := I'.pin (b, o) (List.mem_append_right _ (List.mem_append_right _ (mem_pinsAt hb e)))
          ⟨z.1, z.2.1⟩
        have hl : (wipe σ (own.map (·.2))).length = σ8.length := by rw [← hw8, wipe_length]
        refine ⟨m', hm, i + 1, H', (I'.unpinned (pins := [])).weak hl (fun j v e => ?_), T.keep _ _ _ st7 fun b hb o e => (pin' b hb o e).1, fun b hb => ?_, w'⟩
        · rw [← hw8] at e
          exact (wipe_some e).1
        · obtain ⟨o, e, _⟩ := T.obj _ _ st7 b hb
          exact (pin' b hb o e).2
      cases b with
      | false =>
        simp only [Bool.false_eq_true, if_false] at q9 ⊢
        exact fin I9 q9
      | true =>
        simp only [if_true] at q9 ⊢
        refine thnF (pe _ s9 σ8 H9 _ I9 q9) fun z s10 ⟨yv, H10, I10, r10, acc, hD10, hz10, nx⟩ => ?_
        exact app_ok (X := X.blk s3 H3 scope ce fp) I10 hD10 hz10 r10 fun s11 I11 => fin I11 nx
  exact codeAny_compStart_list loop (T.self X.A 0 _ _ _ st4 loop)
/-- as a value -/
theorem pe_lcR {elt tg iter : Expr} {ifs : List Expr} {scope : Scope} {own : List (Str × Nat)} {pos : Pos} {wi : TI} {g : TG} {tt : TT} {te : TE} {xe Ce : Addr} (hX : HdX X xe Ce) (hN : X.N.Nodup) (hi : PIR X tg iter wi) (ok : BlkOk X.N X.env.scope scope own)
    (hg : ∀ (s : Shared) (H : Hp) (C : Addr) (cl : List (Str × Addr)) (fp : List Addr), PG (X.blk s H scope (compEnvC scope cl C X.env) fp) tg g) (ht : ∀ (s : Shared) (H : Hp) (C : Addr) (cl : List (Str × Addr)) (fp : List Addr), PTs (X.blk s H scope (compEnvC scope cl C X.env) fp) ifs tt)
    (he : ∀ (s : Shared) (H : Hp) (C : Addr) (cl : List (Str × Addr)) (fp : List Addr), PE (X.blk s H scope (compEnvC scope cl C X.env) fp) elt te) (hs : ∀ x, foldedSetIterable iter X.env x = pure x := by intro _; rfl) :
    PE X (.ListComp elt [⟨tg, iter, ifs, 0⟩] scope pos) (tLc wi g tt te (own.map (·.2))) := by
  intro pins s σ H Q I h
  rw [eval_ListComp]
  refine lc_coreR hX hN I hi ok hg ht he hs h fun D C s' m H' I' q hn f => ⟨m, hn, fun h'' sb => ?_⟩
  obtain ⟨f0, f1, f2, f3, f4, f5⟩ := f
  exact ⟨.ref D, H', I'.turned (t' := s'.toks) (fun b o hb e => (sb.2 b hb).trans e) f0 f1 f3 f4 f5, rfl, q⟩
end
end L2

set_option Elab.async false
set_option linter.all false
set_option maxRecDepth 100000
set_option maxHeartbeats 4000000
namespace L2
open PySem PySem.Spec PyProof.Rows
abbrev bmVE : List Value := [.type "ValueError", .type "Exception", .type "BaseException", .type "object"]
theorem excCls_of {K : PySem.W.Frag} {h : Heap} {C : Addr} {newId : String} (X : K.In h) (q : PySem.W.excIn K C bmVE newId = true) :
    ∃ bm N nm qn bs hd sn sub ab col dd k0 k1 k2 k3 k5 mN, h.get? C = some (excClassObj nm qn C N bs bm hd sn sub ab col dd k0 k1 k2 k3 k5 newId) ∧ h.Ns N mN ∧ mN "__init__" = none ∧ OwnTail h bmVE bm := by
  unfold PySem.W.excIn at q
  split at q
  case h_2 => cases q
  case h_1 dd cd sl ho =>
    split at q
    case h_2 => cases q
    case h_1 C' bm k0 k1 k2 k3 n k5 hm hs =>
      simp only [Bool.and_eq_true, beq_iff_eq, Bool.not_eq_true'] at q
      obtain ⟨⟨⟨⟨⟨e1, e2⟩, hdel⟩, ht⟩, hok⟩, hni⟩ := q
      subst e1 e2
      obtain ⟨nm, bs, mro, ns, qn, hd, sn, sub, ab, col, del⟩ := cd
      dsimp only at hm hdel hok hni
      subst hm hdel
      obtain ⟨l⟩ := sl
      dsimp only at hs
      subst hs
      exact ⟨bm, ns, nm, qn, bs, hd, sn, sub, ab, col, dd, k0, k1, k2, k3, k5, _, X _ _ ho, .of_isNs (PySem.W.isNs_of_in X hok), PySem.W.nsMap_none_of_in X hok hni, PySem.W.tail_of_in X ht⟩
/-! raise X(..) -/
def tRaise (C : Addr) (E : XK) (t : TA) : TS := fun _ σ H => t σ H fun vs H1 => vs.length ≤ sizeLine ∧ E (.ref C) none H1
theorem ps_raise {X : Cx} {E : XK} {x : Str} {np cpos pos : Pos} {e : Expr} {es : List Expr} {t : TA} {C : Addr} (hup : Up X E) (hcalm : X.calm = true) (hg : Gl X x) (hm : X.mg x = some (.ref C)) (q : PySem.W.excIn X.K C bmVE "ValueError.__new__" = true) (ha : PA X (e :: es) t)
    (hdb : (x == ("__debug__" : Str)) = false := by decide) (he : starEach (e :: es) X.env = (false, eval e X.env) :: starEach es X.env := by rfl) (hpl : (backTo cpos (starEach (e :: es) X.env)).any (·.1) = false := by rfl) :
    PS X (.Raise (some (.Call (.Name x np) (e :: es) [] cpos)) none pos) (tRaise C E t) := by
  intro pins s σ H D I h
  obtain ⟨bm, N, nm, qn, bs, hd, sn, sub, ab, col, dd, k0, k1, k2, k3, k5, mN, hC, hN, hni, hT⟩ := excCls_of I.ok.mod.kin q
  refine wpAny_Raise_call_subT (C := C) (N := N) (nm := nm) (q := qn) (bs := bs) (bm := bm) (hdct := hd) (sn := sn) (sub := sub) (ab := ab) (col := col) (dd := dd) (k0 := k0) (k1 := k1) (k2 := k2) (k3 := k3) (k5 := k5) (mN := mN) F.excBase_ValueError (hT.hasType (by decide)) (I.ok.hd hcalm) hpl hni (ld_glob I hg hm ⟨rfl, ?_⟩ hdb)
  have hA := ha cpos pins s σ H _ I h
  rw [he] at hA ⊢
  refine Calls.evalArgs_plain (thn hA fun us s1 ⟨vs, H1, I1, r, hz, q1⟩ => ?_)
  exact ⟨rfl, by rw [← r.length]; exact hz, I1.bk _ _ hC, hN.keeps I1.bk, hT.keeps I1.bk, fun h' x' hmade => hup pins σ H1 s1 x' C us h' I1 hmade q1⟩
section
variable {P : Program} {w : World} {K : PySem.W.Frag} {mg : Str → Option Value} {base : Heap}
/-- a def that may raise -/
theorem Fun.okX {x qual : Str} {st : Stmt} {f : Addr} {fd : FuncData} {N ps : List Str} {k : Nat} {sp : Sp} (F : Fun K x qual st f fd) (S : FnScope N ps (defScope st)) (len : ∀ vs H Q E, sp vs H Q E → vs.length = ps.length)
    (hbody : ∀ (cdv : Value) (A : Around) (outer : List Env) (s : Shared) (H : Hp) (vs : List V) (Q : VK) (E : XK), Room k (A.deeper (envOfC qual (defScope st) s.heap.objs.size f cdv)) → sp vs H Q E →
      ∃ t, PSs (cxOf (CX1 P w) P w K mg base N qual (defScope st) f cdv A outer s H E) (defBody st) t ∧ t { nx := fun _ H' => Q .non H', rt := Q } (start N vs) H) : FnOk P w K mg base (CX1 P w) (k + 1) f fd ps sp := by
  obtain ⟨oc, od, kV, doc, pm, an, cdv, ct, osl, rfl, lk, hcd⟩ := F.ex
  exact fn_of lk hcd S len fun A outer s H vs Q E hr hsp => hbody cdv A outer s H vs Q E hr hsp
end
/-! statements within a try -/
abbrev EX := St → Addr → Hp → Prop
/-- an exception lies in this frame -/
def XS (X : Cx) (pins : List (Addr × Obj)) (R : EX) (e : Value) (s' : Shared) : Prop := ∃ (x C T : Addr) (σ' : St) (H1 : Hp), e = .ref x ∧ Inv X pins σ' H1 s' ∧ XO s'.heap x C T .none ∧ FB X pins H1 x ∧ FB X pins H1 T ∧ R σ' C H1
abbrev TSx := Ends → EX → St → Hp → Prop
abbrev TEx := St → Hp → VK → EX → Prop
def PEx (X : Cx) (e : Expr) (t : TEx) : Prop :=
  ∀ (pins : List (Addr × Obj)) (s : Shared) (σ : St) (H : Hp) (Q : VK) (R : EX), Inv X pins σ H s → t σ H Q R → wpAny (model X.prog X.w) X.A (eval e X.env) (EP X pins σ Q) (XS X pins R) s
def PSx (X : Cx) (st : Stmt) (t : TSx) : Prop :=
  ∀ (pins : List (Addr × Obj)) (s : Shared) (σ : St) (H : Hp) (D : Ends) (R : EX), Inv X pins σ H s → t D R σ H → wpAny (model X.prog X.w) X.A (exec st X.env) (SP X pins D) (XS X pins R) s
def PSsx (X : Cx) (st : List Stmt) (t : TSx) : Prop :=
  ∀ (pins : List (Addr × Obj)) (s : Shared) (σ : St) (H : Hp) (D : Ends) (R : EX), Inv X pins σ H s → t D R σ H → wpAny (model X.prog X.w) X.A (execs st X.env) (SP X pins D) (XS X pins R) s
section
variable {X : Cx} {st : Stmt} {rest : List Stmt} {e : Expr} {pos : Pos}
def qSeq (t u : TSx) : TSx := fun D R σ H => t { D with nx := u D R } R σ H
def qIf (c : TT) (t u : TSx) : TSx := fun D R σ H => c σ H fun b H1 => if b = true then t D R σ H1 else u D R σ H1
def qSet (te : TEx) (i : Nat) : TSx := fun D R σ H => te σ H (fun x H1 => D.nx (σ.set i (some x)) H1) R
def qCall (sp : Sp) (t : TA) : TEx := fun σ H Q R => t σ H fun vs H1 => sp vs H1 Q fun c _ H2 => ∃ C, c = .ref C ∧ R σ C H2
theorem pxs_one {t : TSx} (h1 : PSx X st t) : PSsx X [st] t := by
  intro pins s σ H D R I h
  refine wpAny_execs_cons (thn (h1 pins s σ H D R I h) fun f s1 q => ?_)
  cases f with
  | next => exact wpAny_execs_nil q
  | ret v => exact q
  | brk => exact q
  | cont => exact q
theorem px_if {c : Expr} {a b : List Stmt} {tc : TT} {t u : TSx} (hc : PT X.nox c tc) (ha : PSsx X a t) (hb : PSsx X b u) : PSx X (.If c a b pos) (qIf tc t u) := by
  intro pins s σ H D R I h
  refine wpAny_If (wpAny_mono (hc pins s σ H _ (I.wish _) h) (fun d s1 ⟨H1, I1, q1⟩ => ?_) fun _ _ z => False.elim z)
  cases d with
  | true => exact ha pins s1 σ H1 D R I1.unwish q1
  | false => exact hb pins s1 σ H1 D R I1.unwish q1
/-- a call whose exceptions lie in this frame -/
theorem pex_call {k : Nat} {f : Addr} {fd : FuncData} {ps : List Str} {sp : Sp} {x : Str} {p : Pos} {es : List Expr} {t : TA} (F : FnOk X.prog X.w X.K X.mg X.base (CX1 X.prog X.w) k f fd ps sp) (hr : Room k X.A) (hg : Gl X x) (hm : X.mg x = some (.ref f)) (hk : PySem.W.keepIn X.K (.ref f) = true) (hb : Binds X.K fd ps [])
    (hex : X.ex = []) (ha : PA X.nox (e :: es) t) (hdb : (x == ("__debug__" : Str)) = false := by decide) (he : starEach (e :: es) X.env = (false, eval e X.env) :: starEach es X.env := by rfl) (hpl : (backTo pos (starEach es X.env)).any (·.1) = false := by rfl) :
    PEx X (.Call (.Name x p) (e :: es) [] pos) (qCall sp t) := by
  intro pins s σ H Q R I h
  refine wpAny_Call_Name_kw (ld_glob I hg hm ?_ hdb)
  refine PySem.W.callWith_K (h₀ := X.base) I.ok.mod.kin hk (wpAny_mono (ha pos pins s σ H _ (I.wish _) h) (fun us s1 ⟨vs, H1, I1, r, q⟩ => ⟨I1.unwish.kIn, ?_⟩) fun _ _ z => False.elim z) he hpl
  have I1' := I1.unwish
  have hl : us.length = ps.length := by rw [← r.length]; exact F.len _ _ _ _ q
  have hbb := hb s1 us I1'.kIn (by rw [List.append_nil]; exact hl)
  rw [List.append_nil] at hbb
  refine wpAny_call (codeAny_mono (F.run X.A X.stack s1 H1 ⟨us, []⟩ us vs Q _ hr I1'.env0 hbb r q) fun rr s' hq => ?_)
  cases rr with
  | error e =>
    obtain ⟨x, C, T, H2, rfl, os, bare, un, hok, XX, hx, hT, nx, nT, C', hc, hR⟩ := hq
    cases hc
    exact ⟨x, C, T, σ, H2, rfl, I1'.call' (ch := []) os un hok bare (fun b z => absurd z (by simp)), XX, I1'.fb hex hx nx, I1'.fb hex hT nT, hR⟩
  | ok fl =>
    cases fl with
    | ret u => exact I1'.after hq
    | next => exact False.elim hq
    | brk => exact False.elim hq
    | cont => exact False.elim hq
end
end L2

set_option Elab.async false
set_option linter.all false
set_option maxRecDepth 100000
set_option maxHeartbeats 4000000
namespace L2
open PySem PySem.Spec PyProof.Rows
/-! the except suite -/
/-- the context of an except suite: the exception at x is handled, its object pinned -/
abbrev Cx.hdl (X : Cx) (x : Addr) (ox : Obj) : Cx := { X with A := X.A.mark (some (.ref x)), calm := false, pn := (x, ox) :: X.pn, xe := fun _ _ => False }
section
variable {X : Cx} {pins : List (Addr × Obj)} {σ : St} {H : Hp} {s : Shared} {x : Addr} {ox : Obj}
theorem Cx.Ok.hdl (ok : X.Ok) : (X.hdl x ox).Ok :=
  ⟨ok.mod, ok.kind, ok.glob, ok.blt, ok.above, ok.inj, ok.has, ok.cab, (fun z => by cases z), ok.frames, ok.stk, ok.exf, ok.bs, ok.bsz, ok.noex, ok.exfs, ok.funs, ok.frf⟩
theorem Inv.hdl {vs : Array Value} (I : Inv X pins σ H s) (e : s.heap.get? x = some ox) (hd : ox.data = .fields vs) (f : FB X pins H x) : Inv (X.hdl x ox) pins σ H s :=
  ⟨I.ok.hdl, I.os, I.bare, I.base, I.loc, I.cell, I.free, I.freeC, fun p hp => by
    have hp : p ∈ (x, ox) :: (X.pn ++ pins) := hp
    rcases List.mem_cons.mp hp with z | z
    · rw [z]
      refine ⟨e, f.nt, f.nl, fun z => ?_, fun v z => by rw [hd] at z; cases z⟩
      exact not_frame (l := X.outer) I.funs e hd z
    · exact I.pin p z, I.hok, I.len⟩
theorem Inv.unhdl (ok : X.Ok) (I : Inv (X.hdl x ox) pins σ H s) : Inv X pins σ H s :=
  ⟨ok, I.os, I.bare, I.base, I.loc, I.cell, I.free, I.freeC, fun p hp => I.pin p (List.mem_cons_of_mem _ hp), I.hok, I.len⟩
end
/-- what of the text the class in an except clause must have -/
structure CatchK (K : PySem.W.Frag) (Cw : Addr) : Prop where
  cls : (PySem.W.clsIn K Cw).isSome = true
  ty : PySem.W.typeIn K (.ref Cw) = some (.type "type")
  mb : PySem.W.mroIn K Cw (.type "BaseException") = some true
theorem exc_match {K : PySem.W.Frag} {M : Model} {A : Around} {E : Value → Shared → Prop} {Q : Bool → Shared → Prop} {s : Shared} {x C Cw : Addr} {ox : Obj} {b : Bool} (Z : CatchK K Cw) (X : K.In s.heap) (e : s.heap.get? x = some ox) (hc : ox.cls = .ref C)
    (hs : PySem.W.mroIn K C (.ref Cw) = some b) (h : Q b s) : wpAny M A (excMatches (.ref x) (.ref Cw)) Q E s := by
  have L1 := PySem.W.looks_typeIn (M := M) X Z.ty
  have L2 := L2X.isType_cls (M := M) X Z.cls
  have L3 := PySem.W.looks_mroIn (M := M) X Z.mb
  have L4 := PySem.W.looks_mroIn (M := M) X hs
  have L5 : PySem.W.Looks M s.heap (typeOf (.ref x)) (.ref C) := hc ▸ (PySem.W.Looks.ld e).andThen .now
  have L6 : isSubtype (.type "type") (.type "tuple") = pure false := by rw [isSubtype_type]; kernel_rfl
  have LI : PySem.W.Looks M s.heap (isInstance (.ref Cw) (.type "tuple")) false := L1.andThen (PySem.W.Looks.of_pure L6)
  have LE : PySem.W.Looks M s.heap (isExcClass (.ref Cw)) true := by
    unfold isExcClass
    refine L2.andThen ?_
    rw [if_pos rfl]
    exact L3
  obtain ⟨hh, g, d, t, os⟩ := s
  unfold excMatches
  refine wpAny_bind (LI.at ?_)
  dsimp only
  rw [if_neg Bool.false_ne_true]
  refine wpAny_bind (wpAny_pure (wpAny_bind ?_))
  rw [List.forIn_cons]
  refine wpAny_bind (wpAny_bind (LE.at ?_))
  rw [if_neg (by decide)]
  refine wpAny_pure ?_
  show wpAny _ _ (forIn [] _ _) _ _ _
  rw [List.forIn_nil]
  refine wpAny_pure (wpAny_bind (L5.at (wpAny_bind ?_)))
  rw [List.forIn_cons]
  refine wpAny_bind (wpAny_bind (L4.at ?_))
  cases b with
  | true =>
    rw [if_pos rfl]
    exact wpAny_pure (wpAny_pure (wpAny_pure h))
  | false =>
    rw [if_neg Bool.false_ne_true]
    refine wpAny_pure ?_
    show wpAny _ _ (forIn [] _ _) _ _ _
    rw [List.forIn_nil]
    exact wpAny_pure (wpAny_pure h)
end L2

set_option Elab.async false
set_option linter.all false
set_option maxRecDepth 100000
set_option maxHeartbeats 4000000
namespace L2
open PySem PySem.Spec PyProof.Rows
section
variable {X : Cx} {pins : List (Addr × Obj)} {σ : St} {H : Hp} {s : Shared}
/-- a local name is unbound -/
theorem gone_ok {M : Model} {A : Around} {E : Value → Shared → Prop} {i : Nat} {n : Str} {pos : Pos} {Q : Unit → Shared → Prop} (I : Inv X pins σ H s) (hN : X.N.Nodup) (hi : X.N[i]? = some n) (hk : X.env.scope.names.lookup n = some .local)
    (h : ∀ s', Inv X pins (σ.set i none) H s' → Q () s') : wpAny M A (do bindName X.env n .none; unbindBehindTheSuite X.env n pos) Q E s := by
  obtain ⟨m, hn, hl⟩ := id I.loc
  have hcls : (X.env.scope.kind == .class || (X.env.scope.kind == .module && X.env.locals != X.env.globals)) = false := by rw [I.ok.kind]; rfl
  have hiσ : i < σ.length := by rw [I.len]; exact (List.getElem?_eq_some_iff.mp hi).1
  have cne := I.cne
  refine wpAny_nameGoes_keeps hk hn hcls fun h' v hn' hs => ?_
  obtain ⟨oL, _, _, hoL, _⟩ := id hn
  have hok : HOk X.prog X.w H h' := fun b ob e => by
    refine (I.hok b ob e).stay (fun c w' hc q => (hs.2 c ?_).trans q) (fun _ q => q) fun _ _ q => q
    rintro rfl
    rcases hc with rfl | hc
    · rw [I.free] at e; cases e
    · rw [I.free] at hc; cases hc
  refine h _ ⟨I.ok, I.os, I.bare, ⟨fun b o e n hb hx => ?_, fun b o e n hb hx => ?_, I.base.free, fun b o e hx => ?_, I.base.tups, I.base.frzs, I.base.tbls⟩, ⟨_, hn', fun j y v' e1 e2 e3 => ?_⟩, fun y c e => ?_, I.free, I.freeC, fun p hp => ?_, hok, by simpa using I.len⟩
  · exact (hs.2 b (Nat.ne_of_lt (Nat.lt_of_lt_of_le (Heap.lt_size e) I.ok.above))).trans (I.base.keep b o e n hb hx)
  · obtain ⟨sl, e1⟩ := I.base.slot b o e n hb hx
    exact ⟨sl, (hs.2 b (Nat.ne_of_lt (Nat.lt_of_lt_of_le (Heap.lt_size e) I.ok.above))).trans e1⟩
  · obtain ⟨o', e1⟩ := I.base.there b o e hx
    exact ⟨o', (hs.2 b (Nat.ne_of_lt (Nat.lt_of_lt_of_le (Heap.lt_size e) I.ok.above))).trans e1⟩
  · by_cases hj : j = i
    · subst hj
      rw [List.getElem?_set_self hiσ] at e2
      cases e2
    · rw [List.getElem?_set_ne (Ne.symm hj)] at e2
      obtain ⟨u', r', q⟩ := hl j y v' e1 e2 e3
      refine ⟨u', r', ?_⟩
      rcases q with ⟨k, e⟩ | ⟨k, c, e, z⟩
      · refine .inl ⟨k, ?_⟩
        have : y ≠ n := fun e => hj (nodup_ix hN e1 (e ▸ hi))
        simp [this, e]
      · exact .inr ⟨k, c, e, z.sameBut hs (cne y c e)⟩
  · obtain ⟨w', z⟩ := I.cell y c e
    exact ⟨w', z.sameBut hs (cne y c e)⟩
  · obtain ⟨e, n, ne, nf, d⟩ := I.pin p hp
    exact ⟨(hs.2 p.1 ne).trans e, n, ne, nf, d⟩
/-- try: .. except Cls as n: .. -/
def tTry (K : PySem.W.Frag) (Cw : Addr) (i : Nat) (tb : TSx) (th : Addr → Addr → TS) : TS := fun D σ H =>
  tb D (fun σ' C H' => PySem.W.mroIn K C (.ref Cw) = some true ∧ ∀ x, H' x = none →
    th x C { nx := fun σ2 H2 => D.nx (σ2.set i none) H2, rt := D.rt, bk := fun σ2 H2 => D.bk (σ2.set i none) H2, ct := fun σ2 H2 => D.ct (σ2.set i none) H2 } (σ'.set i (some (.ref x))) H') σ H
theorem ps_try {body : List Stmt} {tb : TSx} {cls n : Str} {np hpos pos : Pos} {b0 : Stmt} {suite : List Stmt} {Cw : Addr} {i : Nat} {th : Addr → Addr → TS} (hstk : X.stack = X.env :: X.outer) (hfr : X.env.frame = some X.env.locals)
    (hb : PSsx X body tb) (hgl : Gl X cls) (hm : X.mg cls = some (.ref Cw)) (Z : CatchK X.K Cw) (nd : X.N.Nodup) (hi : X.N[i]? = some n) (hloc : X.env.scope.names.lookup n = some .local)
    (hs : ∀ (x C : Addr) (ox : Obj) (vs : Array Value), ox.cls = .ref C → ox.dict = none → ox.data = .fields vs → vs[2]? = some .none → PSs (X.hdl x ox) (b0 :: suite) (th x C)) (hdb : (cls == ("__debug__" : Str)) = false := by decide) :
    PS X (.Try body [.ExceptHandler (some (.Name cls np)) (some n) (b0 :: suite) hpos] [] [] pos) (tTry X.K Cw i tb th) := by
  intro pins s σ H D I h
  refine wpAny_Try_except (wpAny_mono (hb pins s σ H D _ I h) (fun f s1 q => ?_) fun e s1 q => ?_)
  · cases f with
    | next => exact wpAny_execs_nil q
    | ret v => exact q
    | brk => exact q
    | cont => exact q
  · obtain ⟨x, C, T, σ1, H1, rfl, I1, XX, fx, fT, hmro, hth⟩ := q
    have hfrm : X.A.frames = some (X.env :: X.outer) := by rw [← hstk]; exact I1.ok.frames
    have hff : s1.heap.FunFrames X.base (X.env :: X.outer) := by rw [← hstk]; exact I1.stack
    refine note_on (base := X.base) hfrm hff hfr XX fun h2 T2 l2 c2 X2 => ?_
    have I2 : Inv X pins σ1 H1 { s1 with heap := h2 } := I1.ch (t' := s1.toks) (by rw [hstk]; exact c2) fun b hb => by
      rcases List.mem_cons.mp hb with z | z
      · rw [z]; exact fx
      · rw [List.mem_singleton.mp z]; exact fT
    have f2 : FB X pins H1 T2 := I1.fbSize l2 (I1.hok.fresh l2)
    refine flight_off (s := { s1 with heap := h2 }) X2 fun h3 oth3 sz3 X3 => ?_
    have I3 : Inv X pins σ1 H1 { s1 with heap := h3 } := I2.ch (ex := [T2]) (t' := s1.toks) (Ch.same fun b o q hb => (oth3 b (by simpa using hb)).trans q) fun b hb => by rw [List.mem_singleton.mp hb]; exact f2
    obtain ⟨ox, vs, e3, hc3, hd3, hdt3, h13, h23⟩ := X3.ob
    have I3h := I3.hdl e3 hdt3 fx
    refine wpAny_handleBy_cons (codeAny_handlers_test (ld_glob (X := X.hdl x ox) I3h hgl hm ?_ hdb)) (by intro q; cases q)
    refine exc_match Z I3.kIn e3 hc3 hmro ?_
    refine codeAny_handlers_suite_as (flight_off (s := { s1 with heap := h3 }) X3 fun h4 oth4 sz4 X4 => ?_)
    have I4 : Inv X pins σ1 H1 { s1 with heap := h4 } := I3.ch (ex := [T2]) (t' := s1.toks) (Ch.same fun b o q hb => (oth4 b (by simpa using hb)).trans q) fun b hb => by rw [List.mem_singleton.mp hb]; exact f2
    obtain ⟨ox4, vs4, e4, hc4, hd4, hdt4, h14, h24⟩ := X4.ob
    have I4h := I4.hdl e4 hdt4 fx
    refine store_ok (X := X.hdl x ox4) (v := V.ref x) I4h nd hi (.inl hloc) rfl (fun s5 I5 => ?_) (.inr hloc)
    refine wpAny_mono (hs x C ox4 vs4 hc4 hd4 hdt4 h24 pins s5 _ H1 _ I5 (hth x fx.nt)) (fun f s6 q6 => ?_) fun _ _ z => False.elim z
    have ok6 : X.Ok := I.ok
    cases f with
    | next =>
      obtain ⟨σ6, H6, I6, q6⟩ := q6
      exact gone_ok (I6.unhdl ok6) nd hi hloc fun s7 I7 => ⟨_, H6, I7, q6⟩
    | brk =>
      obtain ⟨σ6, H6, I6, q6⟩ := q6
      exact gone_ok (I6.unhdl ok6) nd hi hloc fun s7 I7 => ⟨_, H6, I7, q6⟩
    | cont =>
      obtain ⟨σ6, H6, I6, q6⟩ := q6
      exact gone_ok (I6.unhdl ok6) nd hi hloc fun s7 I7 => ⟨_, H6, I7, q6⟩
    | ret u =>
      obtain ⟨v6, σ6, H6, I6, r6, q6⟩ := q6
      exact gone_ok (I6.unhdl ok6) nd hi hloc fun s7 I7 => ⟨v6, _, H6, I7, r6, q6⟩
end
end L2

set_option Elab.async false
set_option linter.all false
set_option maxRecDepth 100000
set_option maxHeartbeats 4000000
namespace L2
open PySem PySem.Spec PyProof.Rows
/-! a def that is called while an exception is handled -/
structure RoomH (k : Nat) (A : Around) : Prop where
  dp : A.depth + 3 * k + 5 < recursionLimit
  un : A.units + 16 * k + 200 < cLine
theorem RoomH.depth {k : Nat} {A : Around} (r : RoomH k A) : A.depth < recursionLimit := by have := r.dp; omega
abbrev SpH := Addr → Addr → List V → Hp → VK → Prop
structure FnOkH (P : Program) (w : World) (K : PySem.W.Frag) (mg : Str → Option Value) (base : Heap) (k : Nat) (f : Addr) (fd : FuncData) (ps : List Str) (sp : SpH) : Prop where
  len : ∀ x C vs H Q, sp x C vs H Q → vs.length = ps.length
  run : ∀ (A : Around) (outer : List Env) (s : Shared) (H : Hp) (args : Args) (us : List Value) (vs : List V) (Q : VK) (x C : Addr), RoomH k A → Env0 P w K mg base A outer s H → HdE A x C H s.heap → BindsTo s fd args (ps.zip us) → Vals vs us → sp x C vs H Q →
    codeAny (model P w) A (.call (.ref f) args) (CR CX0 outer P w H s Q E0) s
abbrev cxH (P : Program) (w : World) (K : PySem.W.Frag) (mg : Str → Option Value) (base : Heap) (N : List Str) (qual : Str) (scope : Scope) (f : Addr) (cd : Value) (A : Around) (outer : List Env) (s : Shared) (H : Hp) : Cx :=
  { cxOf CX0 P w K mg base N qual scope f cd A outer s H E0 with calm := false }
theorem inv_startH {P : Program} {w : World} {K : PySem.W.Frag} {mg : Str → Option Value} {base : Heap} {N ps : List Str} {qual : Str} {scope : Scope} {f : Addr} {cd : Value} {A : Around} {outer : List Env} {s s1 : Shared} {H : Hp} {us : List Value} {vs : List V}
    (S : FnScope N ps scope) (e0 : Env0 P w K mg base A outer s H) (hl : vs.length = ps.length) (r : Vals vs us)
    (x : InCallC s s.heap.objs.size (bindL (envOfC qual scope s.heap.objs.size f cd).kindOf (ps.zip us) fun _ => none) (cellsFrom (s.heap.objs.size + 1) scope.names []) (bindC (envOfC qual scope s.heap.objs.size f cd).kindOf (ps.zip us) fun _ => none) s1) :
    Inv (cxH P w K mg base N qual scope f cd A outer s H) [] (start N vs) H s1 := by
  have hpl : ps.length ≤ N.length := by have := congrArg List.length S.pre; rw [List.length_take] at this; omega
  obtain ⟨h1, tk, rfl, hk⟩ := x.done
  have noA : ∀ b : Addr, b ∉ (cxH P w K mg base N qual scope f cd A outer s H).ex := fun b z => absurd (show b ∈ ([] : List Addr) from z) (by simp)
  refine ⟨⟨e0.mod, S.kind, rfl, rfl, Nat.le_refl _, fun y z c h1 h2 => ?_, fun y hy => ?_, fun y c _ h => ?_, (fun z => by cases z), Around.frames_deeper e0.frames, .inr ⟨rfl, rfl⟩, fun b z => absurd z (noA b), e0.bs, e0.bsz, fun b _ _ => noA b, fun b z => absurd z (noA b), e0.funs, e0.frf⟩,
    rfl, e0.bare, Un.kept hk, ⟨_, x.toInCall.ns, fun i y v h1 h2 h3 => ?_⟩, fun y c h => ⟨_, x.cell y c h⟩, e0.hok.fresh (Nat.le_refl _), fun y c h => ?_, fun p hp => absurd (show p ∈ ([] : List (Addr × Obj)) from hp) (by simp), e0.hok.kept hk, ?_⟩
  · exact name_of_addr x.apart (PySem.mem_of_lookup h1) (PySem.mem_of_lookup h2)
  · have hy : scope.names.lookup y = some .cell ∨ scope.names.lookup y = some .free := hy
    rcases hy with hy | hy
    · exact cell_has hy
    · exact absurd rfl (S.nofree _ (PySem.mem_of_lookup hy))
  · exact Nat.le_of_lt (x.above y c (PySem.mem_of_lookup h))
  · have hi : i < vs.length := by
      unfold start at h2
      by_cases hi : i < vs.length
      · exact hi
      · rw [List.getElem?_append_right (by simpa using hi)] at h2
        rw [List.getElem?_replicate] at h2
        split at h2 <;> cases h2
    have ha : vs[i]? = some v := by
      unfold start at h2
      rw [List.getElem?_append_left (by simpa using hi), List.getElem?_map] at h2
      cases e : vs[i]? with
      | none => rw [e] at h2; cases h2
      | some a => rw [e] at h2; cases h2; rfl
    obtain ⟨u, hu, rv⟩ := r.get ha
    have hp : ps[i]? = some y := by
      rw [← S.pre, List.getElem?_take_of_lt (by omega)]; exact h1
    have ndP : ps.Nodup := by rw [← S.pre]; exact S.nd.sublist (List.take_sublist _ _)
    refine ⟨u, rv, ?_⟩
    rcases S.par y (List.mem_of_getElem? hp) with k | k
    · exact .inl ⟨k, bindL_get ndP hp hu k⟩
    · obtain ⟨c, e⟩ := cell_has (n := s.heap.objs.size + 1) k
      refine .inr ⟨.inl k, c, e, ?_⟩
      have q := x.cell y c e
      rw [bindC_get ndP hp hu (by show scope.names.lookup y ≠ _; rw [k]; decide)] at q
      exact q
  · exact e0.hok.fresh (Nat.le_of_lt (x.above y c (PySem.mem_of_lookup h)))
  · unfold start
    show _ = N.length
    rw [List.length_append, List.length_map, List.length_replicate]
    omega

theorem fn_ofH {P : Program} {w : World} {K : PySem.W.Frag} {mg : Str → Option Value} {base : Heap} {k : Nat} {f : Addr} {name qual : Str} {params : Arguments} {body : List Stmt} {scope : Scope} {dV kV doc pm cdv ct oc : Value} {an od : Option Addr}
    {osl : Array (Option Value)} {N ps : List Str} {sp : SpH} (lk : K.lookup f = some ⟨oc, od, .func (PySem.W.fnOf name qual params body scope dV kV doc pm an cdv ct), osl⟩) (hcd : PySem.W.codeIn K cdv qual = true) (S : FnScope N ps scope)
    (len : ∀ x C vs H Q, sp x C vs H Q → vs.length = ps.length)
    (hbody : ∀ (A : Around) (outer : List Env) (s : Shared) (H : Hp) (vs : List V) (Q : VK) (x C : Addr), HdX (cxH P w K mg base N qual scope f cdv A outer s H) x C → sp x C vs H Q →
      ∃ t, PSs (cxH P w K mg base N qual scope f cdv A outer s H).nox body t ∧ t { nx := fun _ H' => Q .non H', rt := Q } (start N vs) H) :
    FnOkH P w K mg base (k + 1) f (PySem.W.fnOf name qual params body scope dV kV doc pm an cdv ct) ps sp := by
  refine ⟨len, fun A outer s H args us vs Q x C hr e0 hx hb r hsp => ?_⟩
  have hl := len _ _ _ _ _ hsp
  have KX : K.In s.heap := e0.mod.kin.keeps fun b o e => (e0.bs b o e).1
  have lim : s.heap.NoLimit := e0.mod.nolimit.keeps fun b o e => (e0.bs b o e).1
  have hkind : ∀ y ∈ ps.zip us, scope.names.lookup y.1 = some .local ∨ (scope.names.lookup y.1 = some .cell ∧ ((cellsFrom (s.heap.objs.size + 1) scope.names []).lookup y.1).isSome = true) := fun ⟨n, v⟩ hy => by
    rcases S.par n (List.of_mem_zip hy).1 with q | q
    · exact .inl q
    · exact .inr ⟨q, PySem.W.cellsFrom_some _ _ _ (.inl q)⟩
  refine codeAny_call_function hr.depth (KX _ _ lk) rfl S.co S.gen rfl (PySem.W.codeRec_of KX hcd) (hb _ _ _ _ ?_)
  refine wpAny_newFunctionEnv_cells S.kind hkind fun env he s1 y => ?_
  subst he
  refine ⟨lim.keeps y.toInCall.keep, codeAny_func ?_⟩
  have hX : HdX (cxH P w K mg base N qual scope f cdv A outer s H) x C := by
    refine ⟨hx, fun z => ?_, fun z => absurd (show x ∈ ([] : List Addr) from z) (by simp)⟩
    obtain ⟨_, _, ox, vs', e, _, _, hd, _⟩ := hx
    exact not_frame (l := outer) e0.funs e hd z
  obtain ⟨t, ht, hq⟩ := hbody A outer s H vs Q x C hX hsp
  have hnox := ht
  have I : Inv (cxH P w K mg base N qual scope f cdv A outer s H) [] (start N vs) H s1 := inv_startH S e0 hl r y
  refine wpAny_mono (hnox [] s1 (start N vs) H _ (I.wish _) hq) (fun fl s' hs => ?_) fun e s' hs => False.elim hs
  have hs := hs.unwish
  have fin : ∀ {σ' : St} {H' : Hp} {v : V} {u : Value}, Inv (cxH P w K mg base N qual scope f cdv A outer s H) [] σ' H' s' → RelV v u → Q v H' → CE outer P w H s Q u s' :=
    fun {σ' H' v u} J rv q => ⟨v, H', J.os, J.bare, J.base, J.hok, rv, q⟩
  cases fl with
  | ret u =>
    obtain ⟨v, σ', H', J, rv, q⟩ := hs
    exact fin J rv q
  | next =>
    obtain ⟨σ', H', J, q⟩ := hs
    exact fin (v := V.non) (u := Value.none) J rfl q
  | brk =>
    obtain ⟨_, _, _, q⟩ := hs
    exact False.elim q
  | cont =>
    obtain ⟨_, _, _, q⟩ := hs
    exact False.elim q
end L2

set_option Elab.async false
set_option linter.all false
set_option maxRecDepth 100000
set_option maxHeartbeats 4000000
namespace WM
open PySem
/-! wheels as lists of codes -/
def txt (l : List Nat) : Str := ⟨l.toArray⟩
theorem txt_cps (l : List Nat) : (txt l).cps.toList = l := rfl
theorem txt_length (l : List Nat) : (txt l).length = l.length := by show l.toArray.size = _; simp
theorem txt_app (l m : List Nat) : txt l ++ txt m = txt (l ++ m) := by
  show (⟨l.toArray ++ m.toArray⟩ : Str) = ⟨(l ++ m).toArray⟩
  simp
theorem txt_inj {l m : List Nat} (h : txt l = txt m) : l = m := by
  have := congrArg (fun z : Str => z.cps.toList) h
  exact this
theorem txt_of (z : Str) : z = txt z.cps.toList := by
  cases z with | mk a => show (⟨a⟩ : Str) = ⟨a.toList.toArray⟩; simp
def Low (l : List Nat) : Prop := ∀ c ∈ l, 97 ≤ c ∧ c ≤ 122
structure Wheel (l : List Nat) : Prop where
  pos : 1 ≤ l.length
  le : l.length ≤ 30
  low : Low l
def turnL (l : List Nat) (k : Int) : List Nat := l.drop (k % (l.length : Int)).toNat ++ l.take (k % (l.length : Int)).toNat
def glassL (l : List Nat) : List Nat := l.take 1 ++ (l.drop 1).reverse
theorem ix_ok {n : Nat} (a : Int) (h : 0 < n) : (a % (n : Int)).toNat < n ∧ (((a % (n : Int)).toNat : Nat) : Int) = a % (n : Int) := by
  have h0 : 0 ≤ a % (n : Int) := Int.emod_nonneg _ (by omega)
  have h1 : a % (n : Int) < n := Int.emod_lt_of_pos _ (by omega)
  omega
/-! the program's slices -/
end WM

set_option Elab.async false
set_option linter.all false
set_option maxRecDepth 100000
set_option maxHeartbeats 4000000
namespace L2
open PySem PySem.Spec PyProof.Rows
section
variable {X : Cx} {x C : Addr} {ox : Obj} {vs : Array Value}
/-- a call within an except suite -/
def tCallH (sp : SpH) (x C : Addr) (t : TA) : TE := fun σ H Q => t σ H fun vs H1 => sp x C vs H1 Q
theorem pe_callH {k : Nat} {f : Addr} {fd : FuncData} {ps : List Str} {sp : SpH} {y : Str} {p pos : Pos} {e : Expr} {es : List Expr} {t : TA} (F : FnOkH X.prog X.w X.K X.mg X.base k f fd ps sp) (hr : RoomH k X.A) (hp : (x, ox) ∈ X.pn) (hh : X.A.handled = some (.ref x)) (hc : ox.cls = .ref C) (hdn : ox.dict = none) (hd : ox.data = .fields vs) (h2 : vs[2]? = some .none)
    (hg : Gl X y) (hm : X.mg y = some (.ref f)) (hk : PySem.W.keepIn X.K (.ref f) = true) (hb : Binds X.K fd ps []) (ha : PA X (e :: es) t)
    (hdb : (y == ("__debug__" : Str)) = false := by decide) (he : starEach (e :: es) X.env = (false, eval e X.env) :: starEach es X.env := by rfl) (hpl : (backTo pos (starEach es X.env)).any (·.1) = false := by rfl) :
    PE X (.Call (.Name y p) (e :: es) [] pos) (tCallH sp x C t) := by
  intro pins s σ H Q I h
  refine wpAny_Call_Name_kw (ld_glob I hg hm ?_ hdb)
  refine PySem.W.callWith_K (h₀ := X.base) I.ok.mod.kin hk (thn (ha pos pins s σ H _ I h) fun us s1 ⟨ws, H1, I1, r, q⟩ => ⟨I1.kIn, ?_⟩) he hpl
  have hl : us.length = ps.length := by rw [← r.length]; exact F.len _ _ _ _ _ q
  have hbb := hb s1 us I1.kIn (by rw [List.append_nil]; exact hl)
  rw [List.append_nil] at hbb
  obtain ⟨e1, n1, _⟩ := I1.pin (x, ox) (List.mem_append_left _ hp)
  refine wpAny_call (codeAny_mono (F.run X.A X.stack s1 H1 ⟨us, []⟩ us ws Q x C hr I1.env0 ⟨hh, n1, ox, vs, e1, hc, hdn, hd, h2⟩ hbb r q) fun rr s' hq => ?_)
  cases rr with
  | error e => exact False.elim hq
  | ok fl =>
    cases fl with
    | ret u => exact I1.after hq
    | next => exact False.elim hq
    | brk => exact False.elim hq
    | cont => exact False.elim hq
/-- isinstance(e, c) of the exception that is handled -/
def rIsE (K : PySem.W.Frag) (x C : Addr) : List V → Hp → VK → Prop := fun xs H Q => ∃ (y : V) (c : Value) (b : Bool), xs = [.ref x, y] ∧ clsV y = some c ∧ PySem.W.kitOne K (.ref C) c = some b ∧ Q (.bl b) H
theorem cr_isE (hX : HdX X x C) (Z : L2X.ExcK X.K C) : CallR X (.builtin "isinstance") (rIsE X.K x C) := by
  intro pins s σ H xs us Q I r h
  obtain ⟨y, c, b, rfl, hy, hk, q⟩ := h
  obtain ⟨hh, n, ox, vs, e, hc, hdn, hd, h2⟩ := hX.at I
  cases r with
  | cons rx r1 =>
    cases r1 with
    | cons ry r2 =>
      cases r2
      rename_i u v
      cases (show u = Value.ref x from rx)
      have ev : v = c := by
        cases y with
        | ty n => cases (show v = Value.type n from ry); exact Option.some.inj hy
        | ref a => cases (show v = Value.ref a from ry); exact Option.some.inj hy
        | non => cases hy
        | bl _ => cases hy
        | int _ => cases hy
        | str _ => cases hy
        | byt _ => cases hy
        | flt _ => cases hy
      subst ev
      have J : PySem.W.InstAt s.heap x ox C none := ⟨e, hc, by unfold PySem.W.notCls; rw [hd], by rw [hdn]; trivial⟩
      exact PySem.W.kia_one (L2X.kitx_exc (ox := ox) Z) I.kIn J hk (fun z => nomatch z) fun tk => ⟨.bl b, H, I.tok tk, rfl, q⟩
/-- constants in a row -/
inductive ConsE : List Expr → List V → Prop
  | nil : ConsE [] []
  | str {s : Str} {k pos} {es : List Expr} {vs : List V} : ConsE es vs → ConsE (.Constant (.str s) k pos :: es) (.str s :: vs)
  | int {i : Int} {k pos} {es : List Expr} {vs : List V} : ConsE es vs → ConsE (.Constant (.int i) k pos :: es) (.int i :: vs)
def tCs (vs : List V) : TA := fun _ H Q => Q vs H
theorem pa_consts {es : List Expr} {ws : List V} (h : ConsE es ws) : PA X es (tCs ws) := by
  induction h with
  | nil => exact pa_nil
  | str h ih =>
    intro pos pins s σ H Q I q
    exact (pa_cons pe_str ih) pos pins s σ H Q I q
  | int h ih =>
    intro pos pins s σ H Q I q
    exact (pa_cons pe_int ih) pos pins s σ H Q I q
/-- the same by a reckoning: names of texts stored as a list, or put behind a list -/
def consV : List Expr → Option (List V)
  | [] => some []
  | .Constant (.str s) _ _ :: es => (consV es).map (V.str s :: ·)
  | .Constant (.int i) _ _ :: es => (consV es).map (V.int i :: ·)
  | _ => none
theorem consV_ok : ∀ {es : List Expr} {ws : List V}, consV es = some ws → ConsE es ws := by
  intro es
  induction es with
  | nil => intro ws h; cases h; exact .nil
  | cons e es ih =>
    intro ws h
    unfold consV at h
    split at h
    · rename_i q; cases q
    · rename_i q
      cases q
      obtain ⟨vs, h1, rfl⟩ := Option.map_eq_some_iff.mp h
      exact .str (ih h1)
    · rename_i q
      cases q
      obtain ⟨vs, h1, rfl⟩ := Option.map_eq_some_iff.mp h
      exact .int (ih h1)
    · cases h
def setL : Stmt → Option (Str × List V)
  | .Assign [.Name n _] (.List es _) _ => (consV es).map fun ws => (n, ws)
  | _ => none
def setCat : Stmt → Option (Str × Str × List V)
  | .Assign [.Name n _] (.BinOp (.Name m _) .Add (.List es _) _) _ => (consV es).map fun ws => (n, m, ws)
  | _ => none
theorem ps_setC {st : Stmt} {i : Nat} {n : Str} {ws : List V} (h : setL st = some (n, ws)) (hN : X.N.Nodup) (hi : X.N[i]? = some n) (hx : Loc X.env.scope n) (hf : X.fn n = true ∨ X.env.scope.names.lookup n = some .local := by first | exact .inl rfl | exact .inr rfl | assumption) :
    PS X st (tAsg (tLst (tCs ws)) (gName i)) := by
  unfold setL at h
  split at h
  · obtain ⟨vs, h1, h2⟩ := Option.map_eq_some_iff.mp h
    cases h2
    exact ps_set hN hi hx (pe_lst (pa_consts (consV_ok h1))) (by rfl) hf
  · cases h
theorem ps_catC {st : Stmt} {i j : Nat} {n m : Str} {ws : List V} (h : setCat st = some (n, m, ws)) (hN : X.N.Nodup) (hi : X.N[i]? = some n) (hx : Loc X.env.scope n) (hj : X.N[j]? = some m) (hv : Vis X.env.scope m) (hd : (m == ("__debug__" : Str)) = false) (hcd : (m == ("__classdict__" : Str)) = false) (hf : X.fn n = true ∨ X.env.scope.names.lookup n = some .local := by first | exact .inl rfl | exact .inr rfl | assumption) :
    PS X st (tAsg (tOp rCat (tVar j) (tLst (tCs ws))) (gName i)) := by
  unfold setCat at h
  split at h
  · obtain ⟨vs, h1, h2⟩ := Option.map_eq_some_iff.mp h
    cases h2
    exact ps_set hN hi hx (pe_op op_cat (pv j hj hv hd hcd) (pe_lst (pa_consts (consV_ok h1)))) (by rfl) hf
  · cases h
end
end L2
namespace WM
open PySem
/-- the names that are told -/
def sel : List Str → List Bool → List Str
  | n :: ns, b :: bs => if b then n :: sel ns bs else sel ns bs
  | _, _ => []
theorem sel_take : ∀ (ns : List Str) (bs : List Bool) (i : Nat) {n : Str} {b : Bool}, ns[i]? = some n → bs[i]? = some b → sel (ns.take (i + 1)) (bs.take (i + 1)) = sel (ns.take i) (bs.take i) ++ (if b then [n] else [])
  | [], _, _, _, _, h, _ => by simp at h
  | _ :: _, [], _, _, _, _, h => by simp at h
  | m :: ns, c :: bs, 0, n, b, h1, h2 => by
    simp at h1 h2
    subst h1 h2
    cases c <;> simp [sel]
  | m :: ns, c :: bs, i + 1, n, b, h1, h2 => by
    have := sel_take ns bs i (n := n) (b := b) (by simpa using h1) (by simpa using h2)
    rw [List.take_succ_cons, List.take_succ_cons, List.take_succ_cons, List.take_succ_cons]
    cases c
    · simp only [sel, Bool.false_eq_true, if_false]
      exact this
    · simp only [sel, if_true, List.cons_append]
      rw [this]
theorem sel_len : ∀ (ns : List Str) (bs : List Bool), (sel ns bs).length ≤ ns.length
  | [], _ => by simp [sel]
  | _ :: _, [] => by simp [sel]
  | n :: ns, b :: bs => by
    have := sel_len ns bs
    cases b <;> simp [sel] <;> omega
def kinds : List Str := ["Lacks", "NoBank", "NoBook", "NoDeed", "NoName", "NoOrder", "NoPlace", "NoRow", "NoSlack", "NoText", "NoTurns", "NoWheel", "NoWord", "TooMany", "+"]
def kindS (bs : List Bool) : Str := PySem.Txt.join (txt []) (sel kinds bs)
end WM

set_option Elab.async false
set_option linter.all false
set_option maxRecDepth 100000
set_option maxHeartbeats 4000000
namespace L2
open PySem PySem.Spec PyProof.Rows
/-! enumerate(text) -/
def Ites (x : Str) : It :=
  ⟨fun i _ => i < x.cps.size, fun i H v H' => ∃ T c, v = .ref T ∧ H T = none ∧ x.cps[i]? = some c ∧ H' = upd H T (.tup [.int (i : Nat), .str ⟨#[c]⟩]), fun i _ => i = x.cps.size⟩
theorem turn_enumS {P : Program} {w : World} {K : PySem.W.Frag} {elts : List Expr} {kk : Nat} {tpos : Pos} (x : Str) (t : Tok) (e it : Addr) (ty : String) (hty : ty = "str_ascii_iterator" ∨ ty = "str_iterator") :
    Turn P w K (.Tuple elts kk tpos) (Ites x) [e, it] e (fun i h => (∃ old, IsEnum h e it ((i : Nat) : Int) old) ∧ h.IsStrIter it ty x t i ∧ e ≠ it) where
  mem := by simp
  obj := fun i h st b hb => by
    obtain ⟨⟨old, he⟩, ⟨o, ho, hc, hd⟩, _⟩ := st
    have e' : b = e ∨ b = it := by simpa using hb
    rcases e' with z | z
    · rw [z]; exact ⟨_, he, fun v q => nomatch q⟩
    · rw [z]; exact ⟨o, ho, fun v q => by rw [hd] at q; cases q⟩
  keep := fun i h h' st k => let ⟨⟨old, he⟩, ⟨o, ho, r⟩, hne⟩ := st; ⟨⟨old, k e (by simp) _ he⟩, ⟨o, k it (by simp) o ho, r⟩, hne⟩
  item := by
    intro X hP hw hK hc i pins s σ H E I hf st hg
    subst hP hw hK
    obtain ⟨⟨old, he⟩, hit, hne⟩ := st
    have hel : e < s.heap.objs.size := Heap.lt_size he
    have hil : it < s.heap.objs.size := by obtain ⟨_, q, _⟩ := hit; exact Heap.lt_size q
    have D : Draws X.prog X.w X.A.in1 it [it] x.cps.size (fun i v => ∃ c u, x.cps[i]? = some c ∧ v = .str ⟨#[c]⟩ u) (fun i h => h.IsStrIter it ty x t i) := by
      rcases hty with z | z
      · rw [z]; exact Draws.strAscii (A := X.A.in1) (I.ok.hd hc) it x t
      · rw [z]; exact Draws.strWide (A := X.A.in1) (I.ok.hd hc) it x t
    refine wpAny_pyNext_enum_itemD D he hit hg hne (by simpa using hne) fun u h' tk hPx ho hit' hT hsz hk => ?_
    obtain ⟨c, tu, hcx, rfl⟩ := hPx
    refine ⟨_, rfl, wpAny_letOwnedTupleGo_enum (s := { s with heap := h', toks := tk + 1 }) ho fun h'' he' sb => ?_⟩
    have hT2 : h''.get? s.heap.objs.size = some { cls := .type "tuple", data := .seq #[.int i tk, .str ⟨#[c]⟩ tu] } := (sb.2 _ (Nat.ne_of_gt hel)).trans hT
    have new : ObjOk X.prog X.w (upd H s.heap.objs.size (.tup [.int (i : Nat), .str ⟨#[c]⟩])) h'' s.heap.objs.size (.tup [.int (i : Nat), .str ⟨#[c]⟩]) :=
      ⟨by show 2 ≤ sizeLine; decide, [.int i tk, .str ⟨#[c]⟩ tu], .cons ⟨_, rfl⟩ (.cons ⟨_, rfl⟩ .nil), ⟨_, hT2, rfl, _, rfl⟩⟩
    have I1 : Inv X pins σ (upd H s.heap.objs.size (.tup [.int (i : Nat), .str ⟨#[c]⟩])) { s with heap := h'', toks := tk + 1 } :=
      I.turnedNew (ch := [e, it]) (fun b ob hb q => (sb.2 b (fun z => hb (by simp [z]))).trans (hk b ob (fun z => hb (by simp [z])) (fun z => hb (by simp [z])) q)) hf (Nat.le_refl _) new
    refine ⟨.ref s.heap.objs.size, _, I1, rfl, ⟨_, c, rfl, I.hok.fresh (Nat.le_refl _), hcx, rfl⟩, ⟨⟨.str ⟨#[c]⟩ tu, ?_⟩, ?_, hne⟩, fun b hb => ?_⟩
    · have e1 : ((i + 1 : Nat) : Int) = (i : Int) + 1 := by omega
      rw [e1]; exact he'
    · obtain ⟨o, q, r⟩ := hit'
      exact ⟨o, (sb.2 it (Ne.symm hne)).trans q, r⟩
    · have hb' : b < s.heap.objs.size := by
        have e' : b = e ∨ b = it := by simpa using hb
        rcases e' with z | z
        · rw [z]; exact hel
        · rw [z]; exact hil
      rw [upd_ne (Nat.ne_of_lt hb')]
      exact (hf b hb).1
  done := by
    intro X hP hw hK hc i pins s σ H E I hf st hg
    subst hP hw hK
    obtain ⟨⟨old, he⟩, hit, hne⟩ := st
    have hg : i = x.cps.size := hg
    subst hg
    obtain ⟨f0, f1, f2, f3, f4, f5⟩ := hf it (by simp)
    have D : Draws X.prog X.w X.A.in1 it [it] x.cps.size (fun i v => ∃ c u, x.cps[i]? = some c ∧ v = .str ⟨#[c]⟩ u) (fun i h => h.IsStrIter it ty x t i) := by
      rcases hty with z | z
      · rw [z]; exact Draws.strAscii (A := X.A.in1) (I.ok.hd hc) it x t
      · rw [z]; exact Draws.strWide (A := X.A.in1) (I.ok.hd hc) it x t
    exact wpAny_pyNext_enum_endD D he hit fun h' eb => ⟨rfl, I.turned (t' := s.toks) (fun b o hb q => eb b o hb q) f0 f1 f3 f4 f5⟩
  self := fun A i s Q E st h => let ⟨⟨_, he⟩, _⟩ := st; wpAny_pyIter_enum he h
def iEnumS (ta : TA) : TI := fun σ H R => ta σ H fun vs H1 => ∃ x, vs = [.str x] ∧ R (Ites x) H1
theorem pi_enumS {X : Cx} {e : Expr} {ta : TA} {p pos tpos : Pos} {elts : List Expr} {kk : Nat} (hg : Gl X "enumerate") (hm : X.mg "enumerate" = none) (ha : PA X [e] ta) (hs : starEach [e] X.env = [(false, eval e X.env)] := by rfl) :
    PI X (.Tuple elts kk tpos) (.Call (.Name "enumerate" p) [e] [] pos) (iEnumS ta) := by
  intro pins s σ H R I h
  refine Call_ (ld_blt I hg hm boot_enumerate (PyProof.Rows.callWith_type1 (thn (ha pos pins s σ H _ I h) fun us s1 ⟨vs, H1, I1, r1, q1⟩ => ?_) hs rfl))
  obtain ⟨x, ex, q⟩ := q1
  subst ex
  cases r1 with
  | cons r rr =>
    cases rr
    obtain ⟨t, rfl⟩ := r
    refine call_enumerate_str fun h' he hit hsz hk => wpAny_pyIter_enum he ?_
    have I2 : Inv X pins σ H1 { s1 with heap := h' } := I1.kept (t' := s1.toks) hk
    have hty : strIterType x = "str_ascii_iterator" ∨ strIterType x = "str_iterator" := by
      unfold strIterType
      split
      · exact .inl rfl
      · exact .inr rfl
    refine ⟨s1.heap.objs.size + 1, [s1.heap.objs.size + 1, s1.heap.objs.size], _, _, H1, rfl, I2, turn_enumS x t (s1.heap.objs.size + 1) s1.heap.objs.size (strIterType x) hty, ⟨⟨.none, he⟩, hit, Nat.succ_ne_self _⟩, fun b hb => ?_, q⟩
    have e' : b = s1.heap.objs.size + 1 ∨ b = s1.heap.objs.size := by simpa using hb
    have hle : s1.heap.objs.size ≤ b := by
      rcases e' with z | z
      · rw [z]; exact Nat.le_add_right _ _
      · rw [z]; exact Nat.le_refl _
    exact I1.fpOk hle (I1.hok.fresh hle)
end L2

set_option Elab.async false
set_option linter.all false
set_option maxRecDepth 100000
set_option maxHeartbeats 4000000
namespace L2
open PySem PyProof.Rows
section
variable {X : Cx}
/-! text * n -/
theorem rep_flat (a : List Nat) (m : Nat) : (List.replicate m a.toArray).foldl (fun x1 x2 => x1 ++ x2) #[] = (List.replicate m a).flatten.toArray := by
  have f : ∀ (m : Nat) (b : List Nat), (List.replicate m a.toArray).foldl (fun x1 x2 => x1 ++ x2) b.toArray = (b ++ (List.replicate m a).flatten).toArray := by
    intro m
    induction m with
    | zero => intro b; simp
    | succ m ih =>
      intro b
      rw [List.replicate_succ, List.foldl_cons, List.append_toArray, ih, List.replicate_succ, List.flatten_cons, List.append_assoc]
  have := f m []
  rwa [List.nil_append] at this
theorem rep_len (a : List Nat) (m : Nat) : (List.replicate m a).flatten.length = m * a.length := by
  induction m with
  | zero => simp
  | succ m ih => rw [List.replicate_succ, List.flatten_cons, List.length_append, ih, Nat.succ_mul, Nat.add_comm]
theorem op_mul_str : OpR X (binaryOp .Mult) (fun x y H Q => ∃ (l : List Nat) (n : Int), x = .str (WM.txt l) ∧ y = .int n ∧ 2 ≤ n ∧ n ≤ 1000 ∧ 1 ≤ l.length ∧ l.length ≤ 1000 ∧ Q (.str (WM.txt (List.replicate n.toNat l).flatten)) H) := by
  intro pins s σ H x y v u Q I rx ry h
  obtain ⟨l, n, rfl, rfl, h2, hn, h1, hl, q⟩ := h
  obtain ⟨t, rfl⟩ := rx
  obtain ⟨t', rfl⟩ := ry
  have hlen : (WM.txt l).length = l.length := WM.txt_length l
  have hm : l.length * n.toNat ≤ 1000 * 1000 := Nat.mul_le_mul hl (by omega)
  have hz : l.length * n.toNat ≤ sizeLine := by rw [sizeLine_eq]; omega
  have hn1 : ¬ n < 1 := by omega
  have hne : (n == 1 || (WM.txt l).length == 0) = false := by
    rw [hlen, Bool.or_eq_false_iff]
    exact ⟨by simp; omega, by simp; intro e; rw [e] at h1; simp at h1⟩
  refine PySem.P.mul_str ?_ ?_ ?_ ?_
  · rw [decide_eq_false (by omega), decide_eq_false (by omega)]; rfl
  · intro _ _
    rw [hlen]
    have hd : (1000 : Int) ≤ (2 ^ 63 - 1) / n := by
      rw [Int.le_ediv_iff_mul_le (by omega)]
      omega
    omega
  · intro _ _
    rw [hlen]
    unfold Builtin.Str.tooLong
    exact decide_eq_false (by omega)
  · rw [if_neg hn1, if_neg (by rw [hne]; exact Bool.false_ne_true)]
    have e : (⟨(List.replicate n.toNat (WM.txt l).cps).foldl (· ++ ·) #[]⟩ : Str) = WM.txt (List.replicate n.toNat l).flatten := by
      show (⟨(List.replicate n.toNat l.toArray).foldl (· ++ ·) #[]⟩ : Str) = _
      rw [rep_flat]
      rfl
    rw [e]
    refine ⟨?_, ?_⟩
    · show (WM.txt (List.replicate n.toNat l).flatten).length ≤ sizeLine
      rw [WM.txt_length, rep_len, Nat.mul_comm]; exact hz
    · exact ⟨.str _, H, I.tok _, ⟨_, rfl⟩, q⟩
/-! a or b, a text -/
def tOrS (K : PySem.W.Frag) (ta tb : TE) : TE := fun σ H Q => ta σ H fun x H1 => ∃ k, TruV K x H1 k ∧ if k = true then Q x H1 else tb σ H1 Q
/-! list(text) -/
/-! min of a list of texts -/
def rMinS (K : PySem.W.Frag) : List V → Hp → VK → Prop := fun vs H Q => ∃ (a : Addr) (xs : List Str), vs = [V.ref a] ∧ SqL K H a (xs.map V.str) ∧ 0 < xs.length ∧ ∀ m, m ∈ xs → (∀ y, y ∈ xs → ¬ y.cps.toList < m.cps.toList) → Q (.str m) H
end
end L2

set_option Elab.async false
set_option linter.all false
namespace WM
def rots (l : List Nat) : List (List Nat) := (List.range l.length).map fun k => turnL l (k : Nat)
def IsMin (xs : List (List Nat)) (m : List Nat) : Prop := m ∈ xs ∧ ∀ y, y ∈ xs → ¬ y < m
def orb (l : List Nat) : List (List Nat) := rots l ++ rots (glassL l)
/-! the first place of a text in a list -/
def ix (xs : List (List Nat)) (o : List Nat) : Option Nat := xs.findIdx? fun m => m == o
def led (l o : List Nat) : Option (Bool × Nat) := match ix (rots l) o with
  | some j => some (false, j)
  | none => match ix (rots (glassL l)) o with
    | some j => some (true, j)
    | none => none
end WM

set_option Elab.async false
set_option linter.all false
namespace WM
open PySem L2
theorem cut_fromA {l : List Nat} {f : Int} (h0 : 0 ≤ f) : L2.cutS (txt l) (some f) none = txt (l.drop f.toNat) := by
  unfold L2.cutS
  rw [txt_length, txt_cps]
  have e1 : HT.sIx l.length 0 (some f) = min f.toNat l.length := by
    show (if f < 0 then _ else min f.toNat l.length) = _
    rw [if_neg (by omega)]
  have e2 : HT.sIx l.length l.length (none : Option Int) = l.length := rfl
  rw [e1, e2]
  by_cases h : f.toNat ≤ l.length
  · rw [Nat.min_eq_left h, List.take_of_length_le (by rw [List.length_drop]; omega)]; rfl
  · rw [Nat.min_eq_right (by omega), List.drop_of_length_le (Nat.le_refl _), List.drop_of_length_le (by omega)]; simp; rfl
theorem cut_toA {l : List Nat} {f : Int} (h0 : 0 ≤ f) : L2.cutS (txt l) none (some f) = txt (l.take f.toNat) := by
  unfold L2.cutS
  rw [txt_length, txt_cps]
  have e1 : HT.sIx l.length l.length (some f) = min f.toNat l.length := by
    show (if f < 0 then _ else min f.toNat l.length) = _
    rw [if_neg (by omega)]
  have e2 : HT.sIx l.length 0 (none : Option Int) = 0 := rfl
  rw [e1, e2]
  show (⟨((l.drop 0).take (min f.toNat l.length - 0)).toArray⟩ : Str) = _
  rw [List.drop_zero, Nat.sub_zero]
  by_cases h : f.toNat ≤ l.length
  · rw [Nat.min_eq_left h]; rfl
  · rw [Nat.min_eq_right (by omega), List.take_of_length_le (l := l) (i := l.length) (Nat.le_refl _), List.take_of_length_le (l := l) (i := f.toNat) (by omega)]; rfl
end WM

set_option Elab.async false
set_option linter.all false
set_option maxRecDepth 100000
set_option maxHeartbeats 4000000
namespace W
open PySem L2 WM
structure Txt (mg : Str → Option Value) : Prop where
  len : mg "len" = none
  str : mg "str" = none
  int : mg "int" = none
  bool : mg "bool" = none
  tuple : mg "tuple" = none
  list : mg "list" = none
  dict : mg "dict" = none
  set : mg "set" = none
  enum : mg "enumerate" = none
  isi : mg "isinstance" = none
  all : mg "all" = none
  any : mg "any" = none
  range : mg "range" = none
  min : mg "min" = none
  max : mg "max" = none
  sum : mg "sum" = none
  abs : mg "abs" = none
  sorted : mg "sorted" = none
  zip : mg "zip" = none
  reversed : mg "reversed" = none
  ve : mg "ValueError" = none
/-- a module's constant -/
def GInt (mg : Str → Option Value) (x : Str) (v : Int) : Prop := ∃ t, mg x = some (.int v t)
theorem pe_gint {X : Cx} {x : Str} {v : Int} {pos : Pos} (hg : Gl X x) (h : GInt X.mg x v) (hd : (x == ("__debug__" : Str)) = false := by decide) : PE X (.Name x pos) (tC (.int v)) := by
  obtain ⟨t, m⟩ := h
  exact pe_glob hg m ⟨t, rfl⟩ hd
/-- a def of the text -/
def Def (K : PySem.W.Frag) (mg : Str → Option Value) (name : Str) (st : Stmt) (ps : List Str) : Prop := ∃ f fd, Fun K name name st f fd ∧ mg name = some (.ref f) ∧ Binds K fd ps []
/-- a def that may be called -/
def Cal (P : Program) (w : World) (K : PySem.W.Frag) (mg : Str → Option Value) (base : Heap) (CX : CXT) (k : Nat) (name : Str) (ps : List Str) (sp : Sp) : Prop :=
  ∃ f fd, FnOk P w K mg base CX k f fd ps sp ∧ PySem.W.keepIn K (.ref f) = true ∧ Binds K fd ps [] ∧ mg name = some (.ref f)
theorem cal_mk {P : Program} {w : World} {K : PySem.W.Frag} {mg : Str → Option Value} {base : Heap} {CX : CXT} {k : Nat} {name : Str} {st : Stmt} {ps : List Str} {sp : Sp} (D : Def K mg name st ps) (h : ∀ f fd, Fun K name name st f fd → FnOk P w K mg base CX k f fd ps sp) : Cal P w K mg base CX k name ps sp := by
  obtain ⟨f, fd, F, m, b⟩ := D
  exact ⟨f, fd, h f fd F, F.kp, b, m⟩
def CalH (P : Program) (w : World) (K : PySem.W.Frag) (mg : Str → Option Value) (base : Heap) (k : Nat) (name : Str) (ps : List Str) (sp : SpH) : Prop :=
  ∃ f fd, FnOkH P w K mg base k f fd ps sp ∧ PySem.W.keepIn K (.ref f) = true ∧ Binds K fd ps [] ∧ mg name = some (.ref f)
/-- the classes of refusals, in the order in which they are asked -/
structure Cls14 where
  (a0 a1 a2 a3 a4 a5 a6 a7 a8 a9 a10 a11 a12 a13 : Addr)
structure Ref (K : PySem.W.Frag) (mg : Str → Option Value) (c : Cls14) : Prop where
  m0 : mg "Lacks" = some (.ref c.a0)
  m1 : mg "NoBank" = some (.ref c.a1)
  m2 : mg "NoBook" = some (.ref c.a2)
  m3 : mg "NoDeed" = some (.ref c.a3)
  m4 : mg "NoName" = some (.ref c.a4)
  m5 : mg "NoOrder" = some (.ref c.a5)
  m6 : mg "NoPlace" = some (.ref c.a6)
  m7 : mg "NoRow" = some (.ref c.a7)
  m8 : mg "NoSlack" = some (.ref c.a8)
  m9 : mg "NoText" = some (.ref c.a9)
  m10 : mg "NoTurns" = some (.ref c.a10)
  m11 : mg "NoWheel" = some (.ref c.a11)
  m12 : mg "NoWord" = some (.ref c.a12)
  m13 : mg "TooMany" = some (.ref c.a13)
structure Kit (K : PySem.W.Frag) (c : Cls14) (C : Addr) (bs : List Bool) : Prop where
  k : ∃ b0 b1 b2 b3 b4 b5 b6 b7 b8 b9 b10 b11 b12 b13 b14 : Bool, bs = [b0, b1, b2, b3, b4, b5, b6, b7, b8, b9, b10, b11, b12, b13, b14] ∧
    PySem.W.kitOne K (.ref C) (.ref c.a0) = some b0 ∧ PySem.W.kitOne K (.ref C) (.ref c.a1) = some b1 ∧ PySem.W.kitOne K (.ref C) (.ref c.a2) = some b2 ∧ PySem.W.kitOne K (.ref C) (.ref c.a3) = some b3 ∧
    PySem.W.kitOne K (.ref C) (.ref c.a4) = some b4 ∧ PySem.W.kitOne K (.ref C) (.ref c.a5) = some b5 ∧ PySem.W.kitOne K (.ref C) (.ref c.a6) = some b6 ∧ PySem.W.kitOne K (.ref C) (.ref c.a7) = some b7 ∧
    PySem.W.kitOne K (.ref C) (.ref c.a8) = some b8 ∧ PySem.W.kitOne K (.ref C) (.ref c.a9) = some b9 ∧ PySem.W.kitOne K (.ref C) (.ref c.a10) = some b10 ∧ PySem.W.kitOne K (.ref C) (.ref c.a11) = some b11 ∧
    PySem.W.kitOne K (.ref C) (.ref c.a12) = some b12 ∧ PySem.W.kitOne K (.ref C) (.ref c.a13) = some b13 ∧ PySem.W.kitOne K (.ref C) (.type "ValueError") = some b14
  x : L2X.ExcK K C
section
variable {P : Program} {w : World} {K : PySem.W.Frag} {mg : Str → Option Value} {base : Heap}
def spKind (K : PySem.W.Frag) (c : Cls14) : SpH := fun x C vs H Q => ∃ bs : List Bool, vs = [.ref x] ∧ Kit K c C bs ∧ ((sel kinds bs).map (·.length)).sum ≤ 1000 ∧ ∀ H', Same H H' → Q (.str (kindS bs)) H'
theorem Same.new {H : Hp} {l : Addr} {o : HO} (h : H l = none) : Same H (upd H l o) := fun b u e => by rw [upd_ne (ne_of_none e h)]; exact e
theorem kinds_at : ∀ i : Nat, i < 15 → ∃ n, kinds[i]? = some n := by
  intro i hi
  exact ⟨_, List.getElem?_eq_getElem (by show i < 15; exact hi)⟩
theorem boot_isi : PySem.bootBuiltins "isinstance" = some (.builtin "isinstance") := by decide +kernel
def okC (c : Nat) : Bool := decide (97 ≤ c) && decide (c ≤ 122)
theorem lt1 (a b : Nat) : ([a] < [b]) = (a < b) := by
  apply propext
  constructor
  · intro h
    cases h with
    | rel h => exact h
    | cons h => cases h
  · intro h; exact List.Lex.rel h
def isW (l : List Nat) : Bool := decide (l.length ≤ 80) && l.all okC
def NoStr (K : PySem.W.Frag) (H : Hp) (v : V) : Prop := ∃ t, TyOf K H v t ∧ PySem.W.kitOne K t (.type "str") = some false
def isWh (l : List Nat) : Bool := isW l && (decide (1 ≤ l.length) && decide (l.length ≤ 30))
theorem wheel_of {l : List Nat} (h : isWh l = true) : Wheel l := by
  unfold isWh isW at h
  rw [Bool.and_eq_true, Bool.and_eq_true, Bool.and_eq_true] at h
  obtain ⟨⟨_, h2⟩, h3, h4⟩ := h
  refine ⟨of_decide_eq_true h3, of_decide_eq_true h4, fun c hc => ?_⟩
  have := List.all_eq_true.mp h2 c hc
  unfold okC at this
  rw [Bool.and_eq_true] at this
  exact ⟨of_decide_eq_true this.1, of_decide_eq_true this.2⟩
def vts (xs : List (List Nat)) : List V := xs.map fun m => V.str (txt m)
structure Dr (a b c : Int) : Prop where
  a0 : 0 ≤ a
  b0 : 0 ≤ b
  b1 : b < 4294967296
  c0 : 0 < c
  c1 : c < 4294967296
def DrAt (H : Hp) (p : Addr) : Prop := ∃ a b c : Int, H p = some (.lst [.int a, .int b, .int c]) ∧ Dr a b c
def But (p : Addr) (H H' : Hp) : Prop := ∀ q o, H q = some o → q ≠ p → H' q = some o
theorem But.refl (p : Addr) (H : Hp) : But p H H := fun _ _ h _ => h
theorem But.trans {p : Addr} {H H1 H2 : Hp} (a : But p H H1) (b : But p H1 H2) : But p H H2 := fun q o h n => b q o (a q o h n) n
theorem But.upd (p : Addr) (H : Hp) (o : HO) : But p H (upd H p o) := fun q u h n => by rw [upd_ne n]; exact h
theorem But.new {p l : Addr} {H : Hp} {o : HO} (h : H l = none) : But p H (L2.upd H l o) := fun q u e n => by rw [upd_ne (ne_of_none e h)]; exact e
theorem DrAt.new {p l : Addr} {H : Hp} {o : HO} (d : DrAt H p) (h : H l = none) : DrAt (L2.upd H l o) p := by
  obtain ⟨a, b, c, e, r⟩ := d
  exact ⟨a, b, c, by rw [upd_ne (ne_of_none e h)]; exact e, r⟩
theorem DrAt.ne {p l : Addr} {H : Hp} (d : DrAt H p) (h : H l = none) : l ≠ p := by
  obtain ⟨a, b, c, e, r⟩ := d
  exact (ne_of_none e h).symm
theorem Same.dr {p : Addr} {H H' : Hp} (s : Same H H') (d : DrAt H p) : DrAt H' p := by
  obtain ⟨a, b, c, e, r⟩ := d
  exact ⟨a, b, c, s _ _ e, r⟩
theorem Same.but {p : Addr} {H H' : Hp} (s : Same H H') : But p H H' := fun q o h _ => s q o h
theorem But.same {p : Addr} {H H3 H4 : Hp} (s : Same H H3) (n : H p = none) (b : But p H3 H4) : Same H H4 := fun q o e => b q o (s q o e) (ne_of_none e n)
theorem join_signs : ∀ l : List Nat, Txt.join (txt []) (l.map fun c => txt [c]) = txt l := by
  intro l
  apply TL.ext_tl
  rw [TL.join_eq, TL.tl_join, List.map_map]
  show TL.joinL [] (l.map fun c => [c]) = l
  induction l with
  | nil => rfl
  | cons a r ih =>
    cases r with
    | nil => rfl
    | cons b r =>
      show [a] ++ ([] ++ TL.joinL [] ((b :: r).map fun c => [c])) = _
      rw [ih]; rfl
def abc : List Nat := [97, 98, 99, 100, 101, 102, 103, 104, 105, 106, 107, 108, 109, 110, 111, 112, 113, 114, 115, 116, 117, 118, 119, 120, 121, 122]
theorem abc_get {z : Int} (h0 : 0 ≤ z) (h1 : z < 26) : atI abc z = some (97 + z.toNat) := by
  obtain ⟨n, rfl⟩ : ∃ n : Nat, z = (n : Int) := ⟨z.toNat, by omega⟩
  have hn : n < 26 := by omega
  have : ∀ n : Nat, n < 26 → abc[n]? = some (97 + n) := by decide
  exact atI_nat (this n hn)
theorem at4 {a b c d : V} {z : Int} (h0 : 0 ≤ z) (h1 : z < 4) : ∃ v, atI [a, b, c, d] z = some v ∧ (v = a ∨ v = b ∨ v = c ∨ v = d) := by
  have : z = 0 ∨ z = 1 ∨ z = 2 ∨ z = 3 := by omega
  rcases this with rfl | rfl | rfl | rfl
  · exact ⟨a, rfl, .inl rfl⟩
  · exact ⟨b, rfl, .inr (.inl rfl)⟩
  · exact ⟨c, rfl, .inr (.inr (.inl rfl))⟩
  · exact ⟨d, rfl, .inr (.inr (.inr rfl))⟩
theorem at3 {a b c : V} {z : Int} (h0 : 0 ≤ z) (h1 : z < 3) : ∃ v, atI [a, b, c] z = some v ∧ (v = a ∨ v = b ∨ v = c) := by
  have : z = 0 ∨ z = 1 ∨ z = 2 := by omega
  rcases this with rfl | rfl | rfl
  · exact ⟨a, rfl, .inl rfl⟩
  · exact ⟨b, rfl, .inr (.inl rfl)⟩
  · exact ⟨c, rfl, .inr (.inr rfl)⟩
theorem at2 {a b : V} {z : Int} (h0 : 0 ≤ z) (h1 : z < 2) : ∃ v, atI [a, b] z = some v ∧ (v = a ∨ v = b) := by
  have : z = 0 ∨ z = 1 := by omega
  rcases this with rfl | rfl
  · exact ⟨a, rfl, .inl rfl⟩
  · exact ⟨b, rfl, .inr rfl⟩
def primes : List V := [.int 2147483647, .int 2147483629, .int 2147483587, .int 2147483579, .int 2147483563, .int 2147483549, .int 2147483543, .int 2147483497]
theorem primes_at {z : Int} (h0 : 0 ≤ z) (h1 : z < 8) : ∃ c : Int, atI primes z = some (.int c) ∧ 0 < c ∧ c < 4294967296 := by
  have : z = 0 ∨ z = 1 ∨ z = 2 ∨ z = 3 ∨ z = 4 ∨ z = 5 ∨ z = 6 ∨ z = 7 := by omega
  rcases this with rfl | rfl | rfl | rfl | rfl | rfl | rfl | rfl <;> exact ⟨_, rfl, by decide, by decide⟩
theorem int_at {ns : List Int} {z : Int} (h0 : 0 ≤ z) (h1 : z < ns.length) : ∃ y : Int, atI (ns.map V.int) z = some (.int y) := by
  obtain ⟨j, rfl⟩ : ∃ j : Nat, z = (j : Int) := ⟨z.toNat, by omega⟩
  have hj : j < ns.length := by omega
  exact ⟨ns[j], atI_nat (by rw [List.getElem?_map, List.getElem?_eq_getElem hj]; rfl)⟩
theorem big_ok : PySem.IntMulOk ((10 : Int) ^ (60 : Int).toNat) ((10 : Int) ^ (60 : Int).toNat) := by unfold PySem.IntMulOk; decide +kernel
theorem big_pos : (0 : Int) < (10 : Int) ^ (60 : Int).toNat * (10 : Int) ^ (60 : Int).toNat := by decide +kernel
theorem p15 : (0 : Int) < (10 : Int) ^ (15 : Int).toNat := by decide +kernel
theorem Room.mark {j k : Nat} {A : Around} {v : Option Value} (r : Room k A) (h : j ≤ k) : RoomH j (A.mark v) := ⟨by have := r.dp; show A.depth + 3 * j + 5 < _; omega, by have := r.un; show A.units + 16 * j + 200 < _; omega⟩
def spDraw : Sp := fun vs H Q _ => ∃ (p : Addr) (m : Int), vs = [.ref p, .int m] ∧ DrAt H p ∧ 0 < m ∧ m < 1073741824 ∧ ∀ (r : Int) (H' : Hp), 0 ≤ r → r < m → DrAt H' p → But p H H' → Q (.int r) H'
def spLetters : Sp := fun vs H Q _ => ∃ (p : Addr) (m kd : Int), vs = [.ref p, .int m, .int kd] ∧ DrAt H p ∧ 0 ≤ m ∧ m ≤ 100 ∧ 1 ≤ kd ∧ kd ≤ 26 ∧
  ∀ (l : List Nat) (H' : Hp), l.length = m.toNat → Low l → DrAt H' p → But p H H' → Q (.str (txt l)) H'
def spDraws (K : PySem.W.Frag) : Sp := fun vs H Q _ => ∃ (a : Addr) (ns : List Int) (j : Int), vs = [.ref a, .int j] ∧ SqL K H a (ns.map V.int) ∧ ns.length ≤ 63 ∧ 0 ≤ j ∧ j ≤ 63 ∧
  ∀ (p : Addr) (H' : Hp), H p = none → DrAt H' p → Same H H' → Q (.ref p) H'
def spLWheel : Sp := fun vs H Q _ => ∃ (p : Addr) (m : Int), vs = [.ref p, .int m] ∧ DrAt H p ∧ 1 ≤ m ∧ m ≤ 30 ∧
  ∀ (l : List Nat) (H' : Hp), Wheel l → l.length ≤ m.toNat → DrAt H' p → But p H H' → Q (.str (txt l)) H'
def spFigures : Sp := fun vs H Q _ => ∃ (p : Addr) (m : Int), vs = [.ref p, .int m] ∧ DrAt H p ∧ 1 ≤ m ∧ m ≤ 1000 ∧ ∀ (n : Int) (H' : Hp), DrAt H' p → But p H H' → Q (.int n) H'
def spSign : Sp := fun vs H Q _ => ∃ c : Nat, vs = [.str (txt [c])] ∧ Q (.bl (okC c)) H
def spWord (K : PySem.W.Frag) : Sp := fun vs H Q _ => (∃ l : List Nat, vs = [.str (txt l)] ∧ l.length ≤ 1000 ∧ ∀ H', Same H H' → Q (.bl (isW l)) H') ∨ ∃ v, vs = [v] ∧ NoStr K H v ∧ Q (.bl false) H
def spWheel (K : PySem.W.Frag) : Sp := fun vs H Q _ => (∃ l : List Nat, vs = [.str (txt l)] ∧ l.length ≤ 1000 ∧ ∀ H', Same H H' → Q (.bl (isWh l)) H') ∨ ∃ v, vs = [v] ∧ NoStr K H v ∧ Q (.bl false) H
end
/-- the answers of isinstance for the i-th refusal -/
def bsAt (i : Nat) : List Bool := (List.range 15).map fun j => j == i || j == 14
theorem kind_0 : kindS (bsAt 0) = "Lacks+" := by decide +kernel
theorem kind_10 : kindS (bsAt 10) = "NoTurns+" := by decide +kernel
theorem kind_11 : kindS (bsAt 11) = "NoWheel+" := by decide +kernel
theorem kind_12 : kindS (bsAt 12) = "NoWord+" := by decide +kernel
theorem But.set {p L : Addr} {H H' : Hp} {o : HO} (b : But p H H') (h : H L = none) : But p H (L2.upd H' L o) := fun q u e n => by rw [upd_ne (ne_of_none e h)]; exact b q u e n
theorem DrAt.set {p L : Addr} {H : Hp} {o : HO} (d : DrAt H p) (n : L ≠ p) : DrAt (L2.upd H L o) p := by
  obtain ⟨a, b, c, e, r⟩ := d
  exact ⟨a, b, c, by rw [upd_ne n.symm]; exact e, r⟩
end W

set_option Elab.async false
set_option linter.all false
set_option maxRecDepth 100000
set_option maxHeartbeats 4000000
namespace L2
open PySem PySem.Spec PyProof.Rows
/-! items of displays and calls, by their kind: nothing to unfold -/
section
variable {X : Cx} {es : List Expr} {te : TE} {t : TA} {pos : Pos}
theorem pa_cC {c : Const} {j} (ha : PE X (.Constant c j pos) te) (hr : PA X es t) : PA X (.Constant c j pos :: es) (tCons te t) := pa_cons ha hr (by rfl)
theorem pa_cN {x : Str} (ha : PE X (.Name x pos) te) (hr : PA X es t) : PA X (.Name x pos :: es) (tCons te t) := pa_cons ha hr (by rfl)
theorem pa_cL {l : List Expr} (ha : PE X (.List l pos) te) (hr : PA X es t) : PA X (.List l pos :: es) (tCons te t) := pa_cons ha hr (by rfl)
theorem pa_cT {l : List Expr} {b} (ha : PE X (.Tuple l b pos) te) (hr : PA X es t) : PA X (.Tuple l b pos :: es) (tCons te t) := pa_cons ha hr (by rfl)
theorem pa_cB {a b : Expr} {op} (ha : PE X (.BinOp a op b pos) te) (hr : PA X es t) : PA X (.BinOp a op b pos :: es) (tCons te t) := pa_cons ha hr (by rfl)
theorem pa_cS {a b : Expr} (ha : PE X (.Subscript a b pos) te) (hr : PA X es t) : PA X (.Subscript a b pos :: es) (tCons te t) := pa_cons ha hr (by rfl)
theorem pa_cK {f : Expr} {as ks} (ha : PE X (.Call f as ks pos) te) (hr : PA X es t) : PA X (.Call f as ks pos :: es) (tCons te t) := pa_cons ha hr (by rfl)
theorem pa_cQ {a : Expr} {os bs} (ha : PE X (.Compare a os bs pos) te) (hr : PA X es t) : PA X (.Compare a os bs pos :: es) (tCons te t) := pa_cons ha hr (by rfl)
theorem pa_cG {a : Expr} {gs sc} (ha : PE X (.ListComp a gs sc pos) te) (hr : PA X es t) : PA X (.ListComp a gs sc pos :: es) (tCons te t) := pa_cons ha hr (by rfl)
end
end L2

set_option Elab.async false
set_option linter.all false
set_option maxRecDepth 100000
set_option maxHeartbeats 4000000
namespace L2
open PySem WM
theorem PS.nox {X : Cx} {st : Stmt} {t : TS} (h : PS X.nox st t) : PS X st t := fun pins s σ H D I hw =>
  wpAny_mono (h pins s σ H D (I.wish _) hw) (fun _ _ q => q.unwish) fun _ _ z => False.elim z
/-! comprehensions that change nothing: what they tell is a list of values -/
theorem Same.new' {H : Hp} {l : Addr} {o : HO} (h : H l = none) : Same H (upd H l o) := fun b u e => by rw [upd_ne (ne_of_none e h)]; exact e
theorem Same.upd' {H1 H : Hp} {l : Addr} {o : HO} (s : Same H1 H) (h : H1 l = none) : Same H1 (upd H l o) := fun b u e => by rw [upd_ne (ne_of_none e h)]; exact s b u e
inductive All2 {α β : Type} (R : α → β → Prop) : List α → List β → Prop
  | nil : All2 R [] []
  | cons {a : α} {b : β} {as : List α} {bs : List β} : R a b → All2 R as bs → All2 R (a :: as) (b :: bs)
theorem All2.length {α β : Type} {R : α → β → Prop} {as : List α} {bs : List β} (h : All2 R as bs) : as.length = bs.length := by
  induction h with
  | nil => rfl
  | cons _ _ ih => rw [List.length_cons, List.length_cons, ih]
theorem All2.imp {α β : Type} {R S : α → β → Prop} {as : List α} {bs : List β} (h : All2 R as bs) (f : ∀ a b, a ∈ as → R a b → S a b) : All2 S as bs := by
  induction h with
  | nil => exact .nil
  | cons r _ ih => exact .cons (f _ _ List.mem_cons_self r) (ih fun a b m => f a b (List.mem_cons_of_mem _ m))
theorem All2.snoc {α β : Type} {R : α → β → Prop} {as : List α} {bs : List β} {a : α} {b : β} (h : All2 R as bs) (r : R a b) : All2 R (as ++ [a]) (bs ++ [b]) := by
  induction h with
  | nil => exact .cons r .nil
  | cons r' _ ih => exact .cons r' ih
theorem All2.get {α β : Type} {R : α → β → Prop} {as : List α} {bs : List β} (h : All2 R as bs) : ∀ {i : Nat} {a : α}, as[i]? = some a → ∃ b, bs[i]? = some b ∧ R a b := by
  induction h with
  | nil => intro i a e; cases e
  | cons r _ ih =>
    intro i a e
    cases i with
    | zero => cases e; exact ⟨_, rfl, r⟩
    | succ i => exact ih e
theorem All2.eq_map {α β : Type} {f : α → β} {as : List α} {bs : List β} (h : All2 (fun a b => b = f a) as bs) : bs = as.map f := by
  induction h with
  | nil => rfl
  | cons r _ ih => rw [r, ih, List.map_cons]
theorem filter_take_succ {α : Type} {as : List α} {i : Nat} {x : α} (h : as[i]? = some x) (p : α → Bool) : (as.take (i + 1)).filter p = (as.take i).filter p ++ (if p x = true then [x] else []) := by
  rw [List.take_add_one, h, List.filter_append]
  congr 1
  by_cases e : p x = true
  · rw [if_pos e]; simp [e]
  · rw [if_neg e]; simp [e]
/-- the heap without an address -/
def del (H : Hp) (D : Addr) : Hp := fun b => if b = D then none else H b
theorem del_ne {H : Hp} {D b : Addr} (h : b ≠ D) : del H D b = H b := by unfold del; rw [if_neg h]
theorem del_upd {H : Hp} {D : Addr} {o : HO} : del (upd H D o) D = del H D := by
  funext b
  by_cases h : b = D
  · subst h; unfold del; rw [if_pos rfl, if_pos rfl]
  · rw [del_ne h, del_ne h, upd_ne h]
theorem del_same {H H' : Hp} {D : Addr} (s : Same H H') : Same (del H D) (del H' D) := fun b o e => by
  by_cases h : b = D
  · subst h; unfold del at e; rw [if_pos rfl] at e; cases e
  · rw [del_ne h] at e ⊢; exact s b o e
theorem del_le {H : Hp} {D : Addr} : Same (del H D) H := fun b o e => by
  by_cases h : b = D
  · subst h; unfold del at e; rw [if_pos rfl] at e; cases e
  · rw [del_ne h] at e; exact e
section
variable {K : PySem.W.Frag} {a D : Addr} {g : TG} {tt : TT} {te : TE} {vs : List Nat} {σ : St} {H1 : Hp} {Qd : Hp → Prop} {α : Type}
/-- one turn, a value told: what is asked of it -/
def LcTurnP (g : TG) (tt : TT) (te : TE) (vs : List Nat) (σ : St) (v : V) (H : Hp) (b : Bool) (y : V) : Prop :=
  ∀ (Qy : V → Hp → Prop) (Qn : Hp → Prop), (b = true → ∀ H', Same H H' → Qy y H') → (b = false → ∀ H', Same H H' → Qn H') →
    g v (wipe σ vs) H fun σ2 H2 => wipe σ2 vs = wipe σ vs ∧ tt σ2 H2 fun b H3 => if b = true then te σ2 H3 Qy else Qn H3
/-- one turn, the told thing by a relation (over the heap without the new list) -/
def LcTurnR (D : Addr) (g : TG) (tt : TT) (te : TE) (vs : List Nat) (σ : St) (v : V) (H : Hp) (b : Bool) (R : V → Hp → Prop) : Prop :=
  ∀ (Qy : V → Hp → Prop) (Qn : Hp → Prop), (b = true → ∀ y H', Same H H' → R y (del H' D) → Qy y H') → (b = false → ∀ H', Same H H' → Qn H') →
    g v (wipe σ vs) H fun σ2 H2 => wipe σ2 vs = wipe σ vs ∧ tt σ2 H2 fun b H3 => if b = true then te σ2 H3 Qy else Qn H3
theorem LcTurnP.r {v y : V} {H : Hp} {b : Bool} (h : LcTurnP g tt te vs σ v H b y) : LcTurnR D g tt te vs σ v H b (fun z _ => z = y) := fun Qy Qn ky kn => h Qy Qn (fun e H' s => ky e y H' s rfl) kn
/-- the state of a comprehension between two turns -/
def LcAt (H1 : Hp) (D : Addr) (R : α → V → Hp → Prop) (xs : List α) (H : Hp) : Prop := Same H1 H ∧ ∃ ys, H D = some (.lst ys) ∧ All2 (fun x y => R x y (del H D)) xs ys
theorem LcAt.yes {R : α → V → Hp → Prop} {xs : List α} {x : α} {H H' : Hp} {y : V} (mono : ∀ x y H H', R x y H → Same H H' → R x y H') (hD : H1 D = none) (h : LcAt H1 D R xs H) (hz : xs.length < sizeLine) (s : Same H H') (r : R x y (del H' D)) :
    ∃ acc, H' D = some (.lst acc) ∧ acc.length < sizeLine ∧ LcAt H1 D R (xs ++ [x]) (upd H' D (.lst (acc ++ [y]))) := by
  obtain ⟨s1, ys, hL, ha⟩ := h
  refine ⟨ys, s _ _ hL, by rw [← ha.length]; exact hz, (s1.trans s).upd' hD, _, upd_same, ?_⟩
  rw [del_upd]
  exact (ha.imp fun a b _ q => mono a b _ _ q (del_same s)).snoc r
theorem LcAt.no {R : α → V → Hp → Prop} {xs : List α} {H H' : Hp} (mono : ∀ x y H H', R x y H → Same H H' → R x y H') (h : LcAt H1 D R xs H) (s : Same H H') : LcAt H1 D R xs H' := by
  obtain ⟨s1, ys, hL, ha⟩ := h
  exact ⟨s1.trans s, ys, s _ _ hL, ha.imp fun a b _ q => mono a b _ _ q (del_same s)⟩
theorem lc_turn {as : List α} {i : Nat} {x : α} {v : V} {p : α → Bool} {R : α → V → Hp → Prop} {H : Hp} (mono : ∀ x y H H', R x y H → Same H H' → R x y H') (hD : H1 D = none) (hz : as.length < sizeLine) (hx : as[i]? = some x)
    (hs : (∃ l, H D = some (.lst l)) → Same H1 H → LcTurnR D g tt te vs σ v H (p x) (R x)) (h : LcAt H1 D R ((as.take i).filter p) H) :
    g v (wipe σ vs) H fun σ2 H2 => wipe σ2 vs = wipe σ vs ∧ tt σ2 H2 fun b H3 =>
      if b = true then te σ2 H3 fun y H4 => ∃ acc, H4 D = some (.lst acc) ∧ acc.length < sizeLine ∧ LcAt H1 D R ((as.take (i + 1)).filter p) (upd H4 D (.lst (acc ++ [y]))) else LcAt H1 D R ((as.take (i + 1)).filter p) H3 := by
  have e := filter_take_succ hx p
  refine hs ⟨_, h.2.choose_spec.1⟩ h.1 _ _ (fun ep y H' s r => ?_) (fun ep H' s => ?_)
  · rw [e, if_pos ep]
    refine h.yes mono hD ?_ s r
    have := List.length_filter_le p (as.take i)
    rw [List.length_take] at this
    omega
  · rw [e, if_neg (by rw [ep]; exact Bool.false_ne_true), List.append_nil]
    exact h.no mono s
theorem lc_end {as : List α} {p : α → Bool} {R : α → V → Hp → Prop} (mono : ∀ x y H H', R x y H → Same H H' → R x y H') (hd : ∀ H' ys, Same H1 H' → H' D = some (.lst ys) → All2 (fun x y => R x y H') (as.filter p) ys → Qd H') {n : Nat} (hn : n = as.length) {H : Hp} (h : LcAt H1 D R ((as.take n).filter p) H) : Qd H := by
  obtain ⟨s1, ys, hL, ha⟩ := h
  subst hn
  rw [List.take_length] at ha
  exact hd H ys s1 hL (ha.imp fun a b _ q => mono a b _ _ q del_le)
theorem lc_start {R : α → V → Hp → Prop} (hD : H1 D = none) : LcAt H1 D R ([] : List α) (upd H1 D (.lst [])) := ⟨Same.new' hD, [], upd_same, .nil⟩
/-- over a list, each thing kept by p, the told one related to it -/
theorem lc_listR {as : List α} {vf : α → V} (p : α → Bool) (R : α → V → Hp → Prop) (mono : ∀ x y H H', R x y H → Same H H' → R x y H') (hq : SqL K H1 a (as.map vf)) (hD : H1 D = none) (hz : as.length < sizeLine)
    (hs : ∀ x H, x ∈ as → (∃ l, H D = some (.lst l)) → Same H1 H → LcTurnR D g tt te vs σ (vf x) H (p x) (R x)) (hd : ∀ H' ys, Same H1 H' → H' D = some (.lst ys) → All2 (fun x y => R x y H') (as.filter p) ys → Qd H') :
    ∃ W : Nat → Nat → Hp → Prop, (∃ m, W 0 m (upd H1 D (.lst []))) ∧ ∀ i m H, W i m H →
      ((Itl K a).stop i H ∧ Qd H) ∨ ((Itl K a).go i H ∧ ∃ Nx : Hp → Prop, (∀ H', Nx H' → ∃ m', m' < m ∧ W (i + 1) m' H') ∧ ∀ x H', (Itl K a).yld i H x H' → g x (wipe σ vs) H' fun σ2 H2 => wipe σ2 vs = wipe σ vs ∧ tt σ2 H2 fun b H3 =>
        if b = true then te σ2 H3 fun y H4 => ∃ acc, H4 D = some (.lst acc) ∧ acc.length < sizeLine ∧ Nx (upd H4 D (.lst (acc ++ [y]))) else Nx H3) := by
  refine lc_list (K := K) (a := a) (xs := as.map vf) (fun i H => LcAt H1 D R ((as.take i).filter p) H) (lc_start hD) (fun i H _ h => h.1.seq hq) (fun i v H hv h => ?_) (fun H h => lc_end mono hd (by rw [List.length_map]) h)
  rw [List.getElem?_map] at hv
  cases ex : as[i]? with
  | none => rw [ex] at hv; cases hv
  | some x =>
    rw [ex] at hv
    cases hv
    exact lc_turn mono hD hz ex (hs x H (List.mem_of_getElem? ex)) h
theorem lc_rangeR {lo : Int} {n : Nat} (p : Nat → Bool) (R : Nat → V → Hp → Prop) (mono : ∀ x y H H', R x y H → Same H H' → R x y H') (hD : H1 D = none) (hz : n < sizeLine)
    (hs : ∀ i H, i < n → (∃ l, H D = some (.lst l)) → Same H1 H → LcTurnR D g tt te vs σ (.int (lo + i)) H (p i) (R i)) (hd : ∀ H' ys, Same H1 H' → H' D = some (.lst ys) → All2 (fun x y => R x y H') ((List.range n).filter p) ys → Qd H') :
    ∃ W : Nat → Nat → Hp → Prop, (∃ m, W 0 m (upd H1 D (.lst []))) ∧ ∀ i m H, W i m H →
      ((Itr lo n).stop i H ∧ Qd H) ∨ ((Itr lo n).go i H ∧ ∃ Nx : Hp → Prop, (∀ H', Nx H' → ∃ m', m' < m ∧ W (i + 1) m' H') ∧ ∀ x H', (Itr lo n).yld i H x H' → g x (wipe σ vs) H' fun σ2 H2 => wipe σ2 vs = wipe σ vs ∧ tt σ2 H2 fun b H3 =>
        if b = true then te σ2 H3 fun y H4 => ∃ acc, H4 D = some (.lst acc) ∧ acc.length < sizeLine ∧ Nx (upd H4 D (.lst (acc ++ [y]))) else Nx H3) := by
  refine lc_range (lo := lo) (n := n) (fun i H => LcAt H1 D R (((List.range n).take i).filter p) H) (lc_start hD) (fun i H hi h => ?_) (fun H h => lc_end mono hd (by rw [List.length_range]) h)
  exact lc_turn mono hD (by rw [List.length_range]; exact hz) (List.getElem?_range hi) (hs i H hi) h
theorem lc_strR {l : List Nat} (p : Nat → Bool) (R : Nat → V → Hp → Prop) (mono : ∀ x y H H', R x y H → Same H H' → R x y H') (hD : H1 D = none) (hz : l.length < sizeLine)
    (hs : ∀ c H, c ∈ l → (∃ l, H D = some (.lst l)) → Same H1 H → LcTurnR D g tt te vs σ (.str ⟨#[c]⟩) H (p c) (R c)) (hd : ∀ H' ys, Same H1 H' → H' D = some (.lst ys) → All2 (fun x y => R x y H') (l.filter p) ys → Qd H') :
    ∃ W : Nat → Nat → Hp → Prop, (∃ m, W 0 m (upd H1 D (.lst []))) ∧ ∀ i m H, W i m H →
      ((Its (txt l)).stop i H ∧ Qd H) ∨ ((Its (txt l)).go i H ∧ ∃ Nx : Hp → Prop, (∀ H', Nx H' → ∃ m', m' < m ∧ W (i + 1) m' H') ∧ ∀ x H', (Its (txt l)).yld i H x H' → g x (wipe σ vs) H' fun σ2 H2 => wipe σ2 vs = wipe σ vs ∧ tt σ2 H2 fun b H3 =>
        if b = true then te σ2 H3 fun y H4 => ∃ acc, H4 D = some (.lst acc) ∧ acc.length < sizeLine ∧ Nx (upd H4 D (.lst (acc ++ [y]))) else Nx H3) := by
  refine lc_str (x := txt l) (fun i H => LcAt H1 D R ((l.take i).filter p) H) (lc_start hD) (fun i c H hc h => ?_) (fun H h => lc_end mono hd (by show l.toArray.size = _; simp) h)
  have hc' : l[i]? = some c := by simpa [txt] using hc
  exact lc_turn mono hD hz hc' (hs c H (List.mem_of_getElem? hc')) h
/-! the same with values -/
theorem lc_listP {as : List α} {vf : α → V} (p : α → Bool) (f : α → V) (hq : SqL K H1 a (as.map vf)) (hD : H1 D = none) (hz : as.length < sizeLine)
    (hs : ∀ x H, x ∈ as → Same H1 H → LcTurnP g tt te vs σ (vf x) H (p x) (f x)) (hd : ∀ H', Same H1 H' → H' D = some (.lst ((as.filter p).map f)) → Qd H') :
    ∃ W : Nat → Nat → Hp → Prop, (∃ m, W 0 m (upd H1 D (.lst []))) ∧ ∀ i m H, W i m H →
      ((Itl K a).stop i H ∧ Qd H) ∨ ((Itl K a).go i H ∧ ∃ Nx : Hp → Prop, (∀ H', Nx H' → ∃ m', m' < m ∧ W (i + 1) m' H') ∧ ∀ x H', (Itl K a).yld i H x H' → g x (wipe σ vs) H' fun σ2 H2 => wipe σ2 vs = wipe σ vs ∧ tt σ2 H2 fun b H3 =>
        if b = true then te σ2 H3 fun y H4 => ∃ acc, H4 D = some (.lst acc) ∧ acc.length < sizeLine ∧ Nx (upd H4 D (.lst (acc ++ [y]))) else Nx H3) :=
  lc_listR p (fun x y _ => y = f x) (fun _ _ _ _ h _ => h) hq hD hz (fun x H m _ s => LcTurnP.r (hs x H m s)) fun H' ys s hL ha => hd H' s (by rw [hL, ha.eq_map])
theorem lc_rangeP {lo : Int} {n : Nat} (p : Nat → Bool) (f : Nat → V) (hD : H1 D = none) (hz : n < sizeLine)
    (hs : ∀ i H, i < n → Same H1 H → LcTurnP g tt te vs σ (.int (lo + i)) H (p i) (f i)) (hd : ∀ H', Same H1 H' → H' D = some (.lst (((List.range n).filter p).map f)) → Qd H') :
    ∃ W : Nat → Nat → Hp → Prop, (∃ m, W 0 m (upd H1 D (.lst []))) ∧ ∀ i m H, W i m H →
      ((Itr lo n).stop i H ∧ Qd H) ∨ ((Itr lo n).go i H ∧ ∃ Nx : Hp → Prop, (∀ H', Nx H' → ∃ m', m' < m ∧ W (i + 1) m' H') ∧ ∀ x H', (Itr lo n).yld i H x H' → g x (wipe σ vs) H' fun σ2 H2 => wipe σ2 vs = wipe σ vs ∧ tt σ2 H2 fun b H3 =>
        if b = true then te σ2 H3 fun y H4 => ∃ acc, H4 D = some (.lst acc) ∧ acc.length < sizeLine ∧ Nx (upd H4 D (.lst (acc ++ [y]))) else Nx H3) :=
  lc_rangeR p (fun x y _ => y = f x) (fun _ _ _ _ h _ => h) hD hz (fun x H m _ s => LcTurnP.r (hs x H m s)) fun H' ys s hL ha => hd H' s (by rw [hL, ha.eq_map])
theorem lc_strP {l : List Nat} (p : Nat → Bool) (f : Nat → V) (hD : H1 D = none) (hz : l.length < sizeLine)
    (hs : ∀ c H, c ∈ l → Same H1 H → LcTurnP g tt te vs σ (.str ⟨#[c]⟩) H (p c) (f c)) (hd : ∀ H', Same H1 H' → H' D = some (.lst ((l.filter p).map f)) → Qd H') :
    ∃ W : Nat → Nat → Hp → Prop, (∃ m, W 0 m (upd H1 D (.lst []))) ∧ ∀ i m H, W i m H →
      ((Its (txt l)).stop i H ∧ Qd H) ∨ ((Its (txt l)).go i H ∧ ∃ Nx : Hp → Prop, (∀ H', Nx H' → ∃ m', m' < m ∧ W (i + 1) m' H') ∧ ∀ x H', (Its (txt l)).yld i H x H' → g x (wipe σ vs) H' fun σ2 H2 => wipe σ2 vs = wipe σ vs ∧ tt σ2 H2 fun b H3 =>
        if b = true then te σ2 H3 fun y H4 => ∃ acc, H4 D = some (.lst acc) ∧ acc.length < sizeLine ∧ Nx (upd H4 D (.lst (acc ++ [y]))) else Nx H3) :=
  lc_strR p (fun x y _ => y = f x) (fun _ _ _ _ h _ => h) hD hz (fun x H m _ s => LcTurnP.r (hs x H m s)) fun H' ys s hL ha => hd H' s (by rw [hL, ha.eq_map])
end
end L2

set_option Elab.async false
set_option linter.all false
set_option maxRecDepth 100000
set_option maxHeartbeats 4000000
namespace WM
open PySem
/-! what turns cost -/
def ab (t : Int) : Int := if t < 0 then -t else t
def tc (w t s : Int) : Int := if t * w < 0 then ab t + s else ab t
def wb (w t : Int) : Int := if 0 < t then 1 else if t < 0 then -1 else w
def okS (n : Int) : Bool := decide (0 ≤ n) && decide (n ≤ 9)
def cf (s : Int) (ts : List Int) : Int × Int := ts.foldl (fun p t => (p.1 + tc p.2 t s, wb p.2 t)) (0, 0)
theorem snoc_ind {α : Type} {P : List α → Prop} (h0 : P []) (h1 : ∀ l a, P l → P (l ++ [a])) : ∀ l, P l := by
  have : ∀ l : List α, P l.reverse := by
    intro l
    induction l with
    | nil => exact h0
    | cons a l ih => rw [List.reverse_cons]; exact h1 _ _ ih
  intro l
  have := this l.reverse
  rwa [List.reverse_reverse] at this
/-! the same by the turns that are not 0 -/
def gone (ts : List Int) : List Int := ts.filter fun t => decide (t ≠ 0)
def up (g : List Int) (i : Nat) : Bool := decide (0 < g.getD i 0)
def chg (g : List Int) : Nat := ((List.range (g.length - 1)).filter fun i => up g (1 + i) != up g i).length
/-! lists of ints as data -/
def dInts (ts : List Int) : PyData := .list (ts.map .int)
end WM
namespace WM
open PySem
/-! data of few levels: what equality asks -/
structure Sh (n : Nat) (d : PyData) : Prop where
  can : d.canLay0 = true
  dep : d.depth ≤ n
theorem Sh.shaped {n : Nat} {d : PyData} (h : Sh n d) (hn : n ≤ 64 := by decide) : SeqAt.shaped d = true := by
  show (d.canLay0 && decide (d.depth ≤ 64)) = true
  rw [h.can, decide_eq_true (Nat.le_trans h.dep hn)]; rfl
theorem Sh.eqv {n : Nat} {d : PyData} (h : Sh n d) : PyData.eqv d d = true := PySem.SeqAt.eqv_refl _ h.can
theorem Sh.int (i : Int) (n : Nat) : Sh n (.int i) := ⟨rfl, Nat.zero_le _⟩
theorem Sh.txt {l : List Nat} (h : ∀ c ∈ l, c < 1114112) (n : Nat) : Sh n (.str (txt l)) := by
  refine ⟨?_, Nat.zero_le _⟩
  show (l.toArray.all fun x => decide (x < 0x110000)) = true
  rw [Array.all_eq_true_iff_forall_mem]
  intro c hc
  exact decide_eq_true (h c (by simpa using hc))
theorem Sh.all {n : Nat} : ∀ {ds : List PyData}, (∀ d ∈ ds, Sh n d) → PyData.canLayAll0 ds = true ∧ PyData.depthAll ds ≤ n
  | [], _ => ⟨rfl, Nat.zero_le _⟩
  | d :: ds, h => by
    obtain ⟨a, b⟩ := Sh.all (ds := ds) fun e m => h e (List.mem_cons_of_mem _ m)
    have hd := h d List.mem_cons_self
    refine ⟨?_, ?_⟩
    · show (d.canLay0 && PyData.canLayAll0 ds) = true
      rw [hd.can, a]; rfl
    · show max d.depth (PyData.depthAll ds) ≤ n
      exact Nat.max_le.mpr ⟨hd.dep, b⟩
theorem Sh.list {n : Nat} {ds : List PyData} (h : ∀ d ∈ ds, Sh n d) : Sh (n + 1) (.list ds) := by
  obtain ⟨a, b⟩ := Sh.all h
  refine ⟨a, ?_⟩
  show PyData.depthAll ds + 1 ≤ n + 1
  omega
theorem Sh.ints (ts : List Int) : Sh 1 (dInts ts) := Sh.list fun d m => by
  obtain ⟨i, _, rfl⟩ := List.mem_map.mp m
  exact Sh.int i 0
end WM
namespace L2
open PySem WM
theorem Dp.ints {K : PySem.W.Frag} {H : Hp} {a : Addr} {ts : List Int} (h : SqL K H a (ts.map V.int)) : Dp K H (.ref a) (dInts ts) := by
  refine .lst h ?_
  clear h
  induction ts with
  | nil => exact .nil
  | cons t ts ih => exact .cons (.int t) ih
end L2

set_option Elab.async false
set_option linter.all false
set_option maxRecDepth 100000
set_option maxHeartbeats 4000000
namespace L2
open PySem WM
section
variable {K : PySem.W.Frag} {a D : Addr} {g : TG} {tt : TT} {te : TE} {vs : List Nat} {σ : St} {H1 : Hp} {Qd : Hp → Prop} {α : Type}
/-- for i, x in enumerate(xs), in a comprehension -/
theorem lc_enumL {xs : List V} (Pv : Nat → Hp → Prop) (h0 : Pv 0 (upd H1 D (.lst []))) (hl : ∀ i H, i ≤ xs.length → Pv i H → SqL K H a xs)
    (hs : ∀ i x T H, xs[i]? = some x → Pv i H → H T = none → g (.ref T) (wipe σ vs) (upd H T (.tup [.int (i : Nat), x])) fun σ2 H2 => wipe σ2 vs = wipe σ vs ∧ tt σ2 H2 fun b H3 =>
      if b = true then te σ2 H3 fun y H4 => ∃ acc, H4 D = some (.lst acc) ∧ acc.length < sizeLine ∧ Pv (i + 1) (upd H4 D (.lst (acc ++ [y]))) else Pv (i + 1) H3) (hd : ∀ H, Pv xs.length H → Qd H) :
    ∃ W : Nat → Nat → Hp → Prop, (∃ m, W 0 m (upd H1 D (.lst []))) ∧ ∀ i m H, W i m H →
      ((Ite K a).stop i H ∧ Qd H) ∨ ((Ite K a).go i H ∧ ∃ Nx : Hp → Prop, (∀ H', Nx H' → ∃ m', m' < m ∧ W (i + 1) m' H') ∧ ∀ y H', (Ite K a).yld i H y H' → g y (wipe σ vs) H' fun σ2 H2 => wipe σ2 vs = wipe σ vs ∧ tt σ2 H2 fun b H3 =>
        if b = true then te σ2 H3 fun y H4 => ∃ acc, H4 D = some (.lst acc) ∧ acc.length < sizeLine ∧ Nx (upd H4 D (.lst (acc ++ [y]))) else Nx H3) := by
  refine ⟨fun i m H => m = xs.length - i ∧ i ≤ xs.length ∧ Pv i H, ⟨xs.length, by simp, Nat.zero_le _, h0⟩, ?_⟩
  rintro i m H ⟨rfl, hi, p⟩
  have q := hl i H hi p
  by_cases hlt : i < xs.length
  · refine .inr ⟨⟨xs, xs[i], q, List.getElem?_eq_getElem hlt⟩, Pv (i + 1), fun H' p' => ⟨xs.length - (i + 1), by omega, rfl, hlt, p'⟩, fun y H' z => ?_⟩
    obtain ⟨T, c, e1, e2, e3, e4⟩ := z
    subst e1 e3
    exact hs i c T _ (e4 xs q) p e2
  · have e : i = xs.length := by omega
    subst e
    exact .inl ⟨⟨xs, q, Nat.le_refl _⟩, hd H p⟩
end
section
variable {K : PySem.W.Frag} {a : Addr} {g : TG} {tb : TS} {D : Ends} {σ : St} {H : Hp}
end
end L2
namespace WM
open PySem
/-! what turns strike -/
def stk (l : List Nat) (ts : List Int) : Int × List Nat := ts.foldl (fun p t => ((p.1 + t) % (l.length : Int), p.2 ++ [l.getD ((p.1 + t) % (l.length : Int)).toNat 0])) (0, [])
theorem stk_snoc (l : List Nat) (ts : List Int) (t : Int) : stk l (ts ++ [t]) = (((stk l ts).1 + t) % (l.length : Int), (stk l ts).2 ++ [l.getD (((stk l ts).1 + t) % (l.length : Int)).toNat 0]) := by
  unfold stk
  rw [List.foldl_append]
  rfl
theorem stk_len (l : List Nat) : ∀ ts, (stk l ts).2.length = ts.length := by
  apply snoc_ind
  · rfl
  · intro ts t ih
    rw [stk_snoc, List.length_append, List.length_append, ih]; rfl
theorem at_getD {l : List Nat} {z : Int} (h0 : 0 ≤ z) (h1 : z < l.length) : L2.atI l z = some (l.getD z.toNat 0) := by
  obtain ⟨n, rfl⟩ : ∃ n : Nat, z = (n : Int) := ⟨z.toNat, by omega⟩
  have hn : n < l.length := by omega
  refine L2.atI_nat ?_
  rw [show ((n : Int)).toNat = n by omega, List.getD_eq_getElem?_getD, List.getElem?_eq_getElem hn]
  rfl
/-- is it a plan -/
def pln (l o : List Nat) (ts : List Int) : Bool := ts.all (fun t => decide (ab t < (l.length : Int))) && decide ((stk l ts).2 = o)
end WM

set_option Elab.async false
set_option linter.all false
set_option maxRecDepth 100000
set_option maxHeartbeats 4000000
namespace W
open PySem L2 WM
def Cp (l : List Nat) : Prop := ∀ c ∈ l, c < 1114112
theorem Low.cp {l : List Nat} (h : Low l) : Cp l := fun c hc => by have := h c hc; omega
def dS (c : Nat) : PyData := .str (txt [c])
theorem shaped_signs {l : List Nat} (h : Cp l) : SeqAt.shaped (PyData.list (l.map dS)) = true := by
  have h1 : ∀ l : List Nat, Cp l → PyData.canLayAll0 (l.map dS) = true := by
    intro l
    induction l with
    | nil => intro _; rfl
    | cons a r ih =>
      intro h
      have ha := h a List.mem_cons_self
      show (PyData.canLay0 (dS a) && PyData.canLayAll0 (r.map dS)) = true
      rw [ih fun c hc => h c (List.mem_cons_of_mem _ hc), Bool.and_true]
      show (txt [a]).cps.all (· < 0x110000) = true
      show ([a].toArray.all fun x => decide (x < 0x110000)) = true
      simp
      exact ha
  have h2 : ∀ l : List Nat, PyData.depthAll (l.map dS) = 0 := by
    intro l
    induction l with
    | nil => rfl
    | cons a r ih =>
      show max (PyData.depth (dS a)) (PyData.depthAll (r.map dS)) = 0
      rw [ih]; rfl
  show (PyData.canLay0 (PyData.list (l.map dS)) && decide (PyData.depth (PyData.list (l.map dS)) ≤ 64)) = true
  have e1 : PyData.canLay0 (PyData.list (l.map dS)) = PyData.canLayAll0 (l.map dS) := rfl
  have e2 : PyData.depth (PyData.list (l.map dS)) = PyData.depthAll (l.map dS) + 1 := rfl
  rw [e1, e2, h1 l h, h2]
  rfl
theorem dp_signs {K : PySem.W.Frag} {H : Hp} : ∀ l : List Nat, DpAll K H (l.map fun c => V.str (txt [c])) (l.map dS)
  | [] => .nil
  | a :: r => .cons (.str _) (dp_signs r)
theorem mem_abc (c : Nat) : decide (c ∈ ("abcdefghijklmnopqrstuvwxyz" : Str).cps.toList) = okC c := by
  have e : ("abcdefghijklmnopqrstuvwxyz" : Str).cps.toList = abc := by decide +kernel
  rw [e]
  unfold okC
  by_cases h : 97 ≤ c ∧ c ≤ 122
  · rw [decide_eq_true h.1, decide_eq_true h.2]
    refine decide_eq_true ?_
    obtain ⟨n, rfl⟩ : ∃ n, c = 97 + n := ⟨c - 97, by omega⟩
    have hn : n < 26 := by omega
    have : ∀ n : Nat, n < 26 → 97 + n ∈ abc := by decide
    exact this n hn
  · have hne : ¬ c ∈ abc := fun hm => by
      have : ∀ x ∈ abc, 97 ≤ x ∧ x ≤ 122 := by decide
      exact h (this c hm)
    rw [decide_eq_false hne]
    by_cases h1 : 97 ≤ c
    · rw [decide_eq_true h1, decide_eq_false (by omega)]; rfl
    · rw [decide_eq_false h1]; rfl
def spLIsWord : Sp := fun vs H Q _ => ∃ l : List Nat, vs = [.str (txt l)] ∧ l.length ≤ 500 ∧ Cp l ∧ ∀ H', Same H H' → Q (.bl (isW l)) H'
def bad (l : List Nat) : List Nat := l.filter fun c => !okC c
theorem bad_all (l : List Nat) : (bad l).isEmpty = l.all okC := by
  unfold bad
  induction l with
  | nil => rfl
  | cons a r ih =>
    cases h : okC a with
    | true => rw [List.filter_cons_of_neg (by simp [h]), List.all_cons, h, ih]; rfl
    | false => rw [List.filter_cons_of_pos (by simp [h]), List.all_cons, h]; rfl
def sgA : Str := " !\"#$&'()*+,-./0123456789:;<=>?@"
def sgB : Str := "ABCDEFGHIJKLMNOPQRSTUVWXYZ[\\]^_`abcdefghijklmnopqrstuvwxyz{|}~\n"
theorem sg_len : (sgA ++ sgB).length = 95 := by decide +kernel
theorem sg_pos : (0 : Int) < (((sgA ++ sgB).length : Nat) : Int) := by rw [sg_len]; decide
theorem sg_lt : (((sgA ++ sgB).length : Nat) : Int) < 1073741824 := by rw [sg_len]; decide
theorem sg_cp : ∀ c ∈ (sgA ++ sgB).cps.toList, c < 1114112 := by decide +kernel
def spBent : Sp := fun vs H Q _ => ∃ (l : List Nat) (p : Addr), vs = [.str (txt l), .ref p] ∧ Cp l ∧ l.length ≤ 200 ∧ DrAt H p ∧ ∀ (m : List Nat) (H' : Hp), Cp m → m.length ≤ l.length + 1 → DrAt H' p → But p H H' → Q (.str (txt m)) H'
theorem Cp.take {l : List Nat} (h : Cp l) (n : Nat) : Cp (l.take n) := fun c hc => h c (List.mem_of_mem_take hc)
theorem Cp.drop {l : List Nat} (h : Cp l) (n : Nat) : Cp (l.drop n) := fun c hc => h c (List.mem_of_mem_drop hc)
theorem Cp.app {l m : List Nat} (h : Cp l) (h' : Cp m) : Cp (l ++ m) := fun c hc => (List.mem_append.mp hc).elim (h c) (h' c)
theorem at_some {l : List Nat} {z : Int} (h0 : 0 ≤ z) (h1 : z < l.length) : ∃ c, atI l z = some c ∧ c ∈ l := by
  obtain ⟨j, rfl⟩ : ∃ j : Nat, z = (j : Int) := ⟨z.toNat, by omega⟩
  have hj : j < l.length := by omega
  exact ⟨l[j], atI_nat (List.getElem?_eq_getElem hj), List.getElem_mem hj⟩
end W

set_option Elab.async false
set_option linter.all false
set_option maxRecDepth 100000
set_option maxHeartbeats 4000000
namespace W
open PySem L2 WM
theorem emp : (Str.ofString "") = txt [] := by decide +kernel
/-- a comprehension over a range whose turns draw: each told value has R -/
theorem lc_rangeD {p D : Addr} {g : TG} {tt : TT} {te : TE} {vs : List Nat} {σ : St} {H1 : Hp} {Qd : Hp → Prop} {lo : Int} {n : Nat} (R : V → Prop) (D1 : DrAt H1 p) (hD : H1 D = none) (hz : n < sizeLine)
    (hs : ∀ i H, i < n → DrAt H p → But p H1 H → (∃ l, H D = some (.lst l)) → ∀ (Qy : V → Hp → Prop), (∀ y H', R y → DrAt H' p → But p H H' → Qy y H') →
      g (.int (lo + i)) (wipe σ vs) H fun σ2 H2 => wipe σ2 vs = wipe σ vs ∧ tt σ2 H2 fun b H3 => b = true ∧ te σ2 H3 Qy)
    (hd : ∀ H' ys, ys.length = n → (∀ y ∈ ys, R y) → DrAt H' p → But p H1 H' → H' D = some (.lst ys) → Qd H')
    (mono : ∀ (σ2 : St) (H2 : Hp) (P Q : Bool → Hp → Prop), (∀ b H, P b H → Q b H) → tt σ2 H2 P → tt σ2 H2 Q) (mono2 : ∀ (v : V) (σ2 : St) (H2 : Hp) (P Q : St → Hp → Prop), (∀ s H, P s H → Q s H) → g v σ2 H2 P → g v σ2 H2 Q) :
    ∃ W : Nat → Nat → Hp → Prop, (∃ m, W 0 m (upd H1 D (.lst []))) ∧ ∀ i m H, W i m H →
      ((Itr lo n).stop i H ∧ Qd H) ∨ ((Itr lo n).go i H ∧ ∃ Nx : Hp → Prop, (∀ H', Nx H' → ∃ m', m' < m ∧ W (i + 1) m' H') ∧ ∀ x H', (Itr lo n).yld i H x H' → g x (wipe σ vs) H' fun σ2 H2 => wipe σ2 vs = wipe σ vs ∧ tt σ2 H2 fun b H3 =>
        if b = true then te σ2 H3 fun y H4 => ∃ acc, H4 D = some (.lst acc) ∧ acc.length < sizeLine ∧ Nx (upd H4 D (.lst (acc ++ [y]))) else Nx H3) := by
  have hDp : D ≠ p := D1.ne hD
  refine lc_range (lo := lo) (n := n) (fun i H => i ≤ n ∧ DrAt H p ∧ But p H1 H ∧ ∃ ys : List V, ys.length = i ∧ (∀ y ∈ ys, R y) ∧ H D = some (.lst ys)) ⟨Nat.zero_le _, D1.new hD, But.new hD, [], rfl, (fun y m => by cases m), upd_same⟩ (fun i H hi h => ?_) (fun H h => ?_)
  · obtain ⟨_, dH, bH, ys, hl, hR, hL⟩ := h
    refine mono2 _ _ _ _ _ ?_ (hs i H hi dH bH ⟨_, hL⟩ (fun y H4 => ∃ acc, H4 D = some (.lst acc) ∧ acc.length < sizeLine ∧ (i + 1 ≤ n ∧ DrAt (upd H4 D (.lst (acc ++ [y]))) p ∧ But p H1 (upd H4 D (.lst (acc ++ [y]))) ∧ ∃ ys : List V, ys.length = i + 1 ∧ (∀ y ∈ ys, R y) ∧ (upd H4 D (.lst (acc ++ [y]))) D = some (.lst ys))) ?_)
    · rintro s H2 ⟨e, h2⟩
      refine ⟨e, mono _ _ _ _ ?_ h2⟩
      rintro b H3 ⟨rfl, h3⟩
      rw [if_pos rfl]
      exact h3
    · intro y H' r d' b'
      refine ⟨ys, b' _ _ hL hDp, by omega, hi, d'.set hDp, (bH.trans b').set hD, ys ++ [y], by rw [List.length_append, hl]; rfl, ?_, upd_same⟩
      intro z hz'
      rcases List.mem_append.mp hz' with m | m
      · exact hR z m
      · rw [List.mem_singleton.mp m]; exact r
  · obtain ⟨_, dH, bH, ys, hl, hR, hL⟩ := h
    exact hd H ys hl hR dH bH hL
theorem ints_of {ys : List V} (h : ∀ y ∈ ys, ∃ n : Int, y = .int n) : ∃ ts : List Int, ys = ts.map V.int := by
  induction ys with
  | nil => exact ⟨[], rfl⟩
  | cons y ys ih =>
    obtain ⟨n, rfl⟩ := h y List.mem_cons_self
    obtain ⟨ts, rfl⟩ := ih fun z m => h z (List.mem_cons_of_mem _ m)
    exact ⟨n :: ts, rfl⟩
theorem yes_mono (σ2 : St) (H2 : Hp) (P Q : Bool → Hp → Prop) (h : ∀ b H, P b H → Q b H) (t : tYes σ2 H2 P) : tYes σ2 H2 Q := h _ _ t
theorem name_mono {i : Nat} (v : V) (σ2 : St) (H2 : Hp) (P Q : St → Hp → Prop) (h : ∀ s H, P s H → Q s H) (t : gName i v σ2 H2 P) : gName i v σ2 H2 Q := h _ _ t
theorem sh_str (n : Nat) (x : Str) (h : x.cps.toList.all (fun c => decide (c < 1114112)) = true) : Sh n (.str x) := by
  have := Sh.txt (l := x.cps.toList) (fun c m => of_decide_eq_true (List.all_eq_true.mp h c m)) n
  rwa [← txt_of x] at this
end W

set_option Elab.async false
set_option linter.all false
set_option maxRecDepth 100000
set_option maxHeartbeats 4000000
namespace L2
open PySem PySem.Spec PyProof.Rows
/-! sorting tuples of ints and texts -/
def kItem : Key → Int ⊕ List Nat
  | .inl n => .inl n
  | .inr x => .inr x.cps.toList
def Shaped (shape : Nat → Bool) : Nat → List Key → Prop
  | _, [] => True
  | i, .inl _ :: r => shape i = false ∧ Shaped shape (i + 1) r
  | i, .inr _ :: r => shape i = true ∧ Shaped shape (i + 1) r
def kLe (a b : List Key) : Prop := PyProof.Rows.lexLt PyProof.Rows.itemOrd (b.map kItem) (a.map kItem) = false
/-- tuples of keys at addresses -/
def TupsAt (H : Hp) (qs : List Addr) (kss : List (List Key)) : Prop := All2 (fun q ks => H q = some (.tup (ks.map kV))) qs kss
section
variable {X : Cx} {pins : List (Addr × Obj)} {σ : St} {H : Hp} {s : Shared}
end
theorem zip_snd {α β : Type} : ∀ {as : List α} {bs : List β}, as.length = bs.length → (as.zip bs).map (·.2) = bs
  | [], [], _ => rfl
  | [], _ :: _, h => by cases h
  | _ :: _, [], h => by cases h
  | a :: as, b :: bs, h => by
    show b :: (as.zip bs).map (·.2) = _
    rw [zip_snd (Nat.succ.inj h)]
section
variable {X : Cx}
/-- sorted(xs), xs a list of tuples of ints and texts, all of one shape -/
def rSortedT (K : PySem.W.Frag) (shape : Nat → Bool) : List V → Hp → VK → Prop := fun vs H Q => ∃ (a : Addr) (qs : List Addr) (kss : List (List Key)), vs = [V.ref a] ∧ SqL K H a (qs.map V.ref) ∧ TupsAt H qs kss ∧ (∀ ks ∈ kss, Shaped shape 0 ks ∧ ks ≠ []) ∧
  ∀ (qs' : List Addr) (kss' : List (List Key)) (p : Addr), kss'.Perm kss → kss'.Pairwise kLe → TupsAt H qs' kss' → H p = none → Q (.ref p) (upd H p (.lst (qs'.map V.ref)))
end
/-! walks over a dict's keys by a built-in: the raw dict -/
section
variable {prog : Program} {w : World} {A : Around} {E : Value → Shared → Prop} {s : Shared} {d : Addr} {od : Obj} {es : Array DictEntry} {ep : Nat}
end
section
variable {X : Cx} {pins : List (Addr × Obj)} {σ : St} {H : Hp} {s : Shared}
end
section
variable {X : Cx}
/-- list(d), d a dict with tuples as keys: the keys' own tuples -/
def rListT : List V → Hp → VK → Prop := fun vs H Q => ∃ (d : Addr) (kvs : List (List Key × V)), vs = [V.ref d] ∧ H d = some (.dT kvs) ∧ ∀ (qs : List Addr) (p : Addr), TupsAt H qs (kvs.map (·.1)) → H p = none → Q (.ref p) (upd H p (.lst (qs.map V.ref)))
/-- sorted(d), d a dict with tuples as keys, all of one shape -/
def rSortedDT (shape : Nat → Bool) : List V → Hp → VK → Prop := fun vs H Q => ∃ (d : Addr) (kvs : List (List Key × V)), vs = [V.ref d] ∧ H d = some (.dT kvs) ∧ (∀ kv ∈ kvs, Shaped shape 0 kv.1 ∧ kv.1 ≠ []) ∧
  ∀ (qs' : List Addr) (kss' : List (List Key)) (p : Addr), kss'.Perm (kvs.map (·.1)) → kss'.Pairwise kLe → TupsAt H qs' kss' → H p = none → Q (.ref p) (upd H p (.lst (qs'.map V.ref)))
end
end L2

set_option Elab.async false
set_option linter.all false
set_option maxRecDepth 100000
set_option maxHeartbeats 4000000
namespace L2
open PySem PySem.Spec PyProof.Rows
/-- {k: v}, k a tuple -/
def tDisp1T (tk tv : TE) : TE := fun σ H Q => ∀ p, H p = none → tPairs [(tk, tv)] σ (upd H p (.dT [])) fun ps H2 => ∃ (k : List Key) (b : Addr) (y : V), ps = [(.ref b, y)] ∧ H2 b = some (.tup (k.map kV)) ∧ H2 p = some (.dT []) ∧ Q (.ref p) (upd H2 p (.dT [(k, y)]))
end L2

set_option Elab.async false
set_option linter.all false
set_option maxRecDepth 100000
set_option maxHeartbeats 4000000
namespace WM
open PySem
/-! tables: stands, least costs -/
abbrev Std := Int × Int
/-- the turns that lead from a place to a sign, rising -/
def tts (l : List Nat) (p : Int) (c : Nat) : List Int :=
  ((List.range (2 * l.length - 1)).filter fun i : Nat => decide (l.getD ((p + (1 - (l.length : Int) + (i : Int))) % (l.length : Int)).toNat 0 = c)).map fun i : Nat => 1 - (l.length : Int) + (i : Int)
/-- one stand's ways on, each with its cost -/
def cnd1 (l : List Nat) (s : Int) (x : Std × Int) (t : Int) : Std × Int := (((x.1.1 + t) % (l.length : Int), wb x.1.2 t), x.2 + tc x.1.2 t s)
def cnd (l : List Nat) (c : Nat) (s : Int) (x : Std × Int) : List (Std × Int) := (tts l x.1.1 c).map (cnd1 l s x)
def stp (l : List Nat) (c : Nat) (s : Int) (X : List (Std × Int)) : List (Std × Int) := X.flatMap (cnd l c s)
/-- all plans of a word: where they lead, what they cost -/
def Xs (l : List Nat) (s : Int) (o : List Nat) : List (Std × Int) := o.foldl (fun X c => stp l c s X) [((0, 0), 0)]
/-- the least cost of a stand -/
def Lst (X : List (Std × Int)) (st : Std) (k : Int) : Prop := (st, k) ∈ X ∧ ∀ k', (st, k') ∈ X → k ≤ k'
/-! assoc lists by stands -/
section
variable {β : Type}
def lk (m : List (Std × β)) (st : Std) : Option β := (m.find? fun x => decide (x.1 = st)).map (·.2)
def pt (m : List (Std × β)) (st : Std) (k : β) : List (Std × β) :=
  if (m.any fun x => decide (x.1 = st)) = true then m.map (fun x => if x.1 = st then (x.1, k) else x) else m ++ [(st, k)]
end
/-- m has the least costs of what was gone through -/
structure MinOf (m xs : List (Std × Int)) : Prop where
  nd : (m.map (·.1)).Nodup
  mem : ∀ st k, (st, k) ∈ m ↔ Lst xs st k
/-! rows, sorted -/
def sLt (a b : Std) : Prop := a.1 < b.1 ∨ (a.1 = b.1 ∧ a.2 < b.2)
structure IsRow (X row : List (Std × Int)) : Prop where
  srt : row.Pairwise fun a b => sLt a.1 b.1
  mem : ∀ st k, (st, k) ∈ row ↔ Lst X st k
/-! where plans lead -/
structure InW (n : Nat) (st : Std) : Prop where
  p0 : 0 ≤ st.1
  p1 : st.1 < n
  w0 : -1 ≤ st.2
  w1 : st.2 ≤ 1
def code (st : Std) : Nat := (st.1 * 3 + st.2 + 1).toNat
/-- the table -/
def Rows (l : List Nat) (s : Int) (o : List Nat) (rows : List (List (Std × Int))) : Prop := rows.length = o.length + 1 ∧ ∀ i row, rows[i]? = some row → IsRow (Xs l s (o.take i)) row
end WM

set_option Elab.async false
set_option linter.all false
set_option maxRecDepth 100000
set_option maxHeartbeats 4000000
namespace W
open PySem L2 WM
/-! tables in the heap -/
def key (st : Std) : List Key := [.inl st.1, .inl st.2]
def rowOf (m : List (Std × Int)) (sts : List Std) : List (Std × Int) := sts.map fun st => (st, (lk m st).getD 0)
/-- a row of a table in the heap -/
def Tr3 (H : Hp) (q : Addr) (x : Std × Int) : Prop := H q = some (.tup [.int x.1.1, .int x.1.2, .int x.2])
def RowAt (H : Hp) (a : Addr) (row : List (Std × Int)) : Prop := ∃ qs : List Addr, H a = some (.lst (qs.map V.ref)) ∧ All2 (Tr3 H) qs row
/-- a table in the heap -/
def TabAt (H : Hp) (r : Addr) (rows : List (List (Std × Int))) (as : List Addr) : Prop := H r = some (.lst (as.map V.ref)) ∧ All2 (RowAt H) as rows
/-! as data -/
def d3 (x : Std × Int) : PyData := .tuple [.int x.1.1, .int x.1.2, .int x.2]
def dRow (row : List (Std × Int)) : PyData := .list (row.map d3)
def dTab (rows : List (List (Std × Int))) : PyData := .list (rows.map dRow)
/-- which refusal is due -/
def tsk (l o : List Nat) (s : Int) : Nat := if isWh l = false then 11 else if isW o = false then 12 else if okS s = false then 8 else if o.all (fun c => decide (c ∈ l)) = false then 0 else 99
end W

set_option Elab.async false
set_option linter.all false
set_option maxRecDepth 100000
set_option maxHeartbeats 4000000
namespace W
open PySem L2 WM
theorem refs_of {α β : Type} {R : Addr → β → Prop} {f : α → β} {as : List α} {ys : List V} (h : All2 (fun x y => ∃ q, y = V.ref q ∧ R q (f x)) as ys) : ∃ qs : List Addr, ys = qs.map V.ref ∧ All2 R qs (as.map f) := by
  induction h with
  | nil => exact ⟨[], rfl, .nil⟩
  | cons r _ ih =>
    obtain ⟨q, rfl, hq⟩ := r
    obtain ⟨qs, rfl, hqs⟩ := ih
    exact ⟨q :: qs, rfl, .cons hq hqs⟩
theorem zip_refs : ∀ {qs : List Addr} {sts : List Std}, qs.length = sts.length → (qs.zip sts).map (fun x => V.ref x.1) = qs.map V.ref
  | [], [], _ => rfl
  | [], _ :: _, h => by cases h
  | _ :: _, [], h => by cases h
  | q :: qs, s :: sts, h => by
    show V.ref q :: (qs.zip sts).map (fun x => V.ref x.1) = _
    rw [zip_refs (Nat.succ.inj h)]; rfl
/-- the program's dict of least costs -/
def RI (x : Std × Int) (kv : List Key × V) : Prop := kv = (key x.1, .int x.2)
end W

set_option Elab.async false
set_option linter.all false
set_option maxRecDepth 100000
set_option maxHeartbeats 4000000
namespace WM
open PySem
/-! least costs with how many plans have them -/
abbrev Wt := (Std × Int) × Int
/-- how much a stand and a cost weigh -/
def wc (xs : List Wt) (y : Std × Int) : Int := (xs.map fun x => if x.1 = y then x.2 else 0).sum
structure MinC (m : List (Std × (Int × Int))) (xs : List Wt) : Prop where
  nd : (m.map (·.1)).Nodup
  mem : ∀ st k c, (st, (k, c)) ∈ m ↔ Lst (xs.map (·.1)) st k ∧ c = wc xs (st, k)
/-- one sign on, with weights -/
def cndW (l : List Nat) (c : Nat) (s : Int) (x : Std × (Int × Int)) : List Wt := (cnd l c s (x.1, x.2.1)).map fun y => (y, x.2.2)
def stpW (l : List Nat) (c : Nat) (s : Int) (r : List (Std × (Int × Int))) : List Wt := r.flatMap (cndW l c s)
/-- how many plans lead to a stand at a cost -/
def cn (X : List (Std × Int)) (y : Std × Int) : Int := (X.count y : Nat)
/-- a dict of least costs and counts of all plans that were gone through -/
structure IsC (m : List (Std × (Int × Int))) (X : List (Std × Int)) : Prop where
  nd : (m.map (·.1)).Nodup
  mem : ∀ st k c, (st, (k, c)) ∈ m ↔ Lst X st k ∧ c = cn X (st, k)
/-- plans from a place -/
def Xf (l : List Nat) (s : Int) (p : Int) (o : List Nat) : List (Std × Int) := o.foldl (fun X c => stp l c s X) [((p, 0), 0)]
/-! all plans, as lists of turns -/
def Pl (l : List Nat) (o : List Nat) : List (List Int × Int) := o.foldl (fun X c => X.flatMap fun x => (tts l x.2 c).map fun t => (x.1 ++ [t], (x.2 + t) % (l.length : Int))) [([], 0)]
def plX (s : Int) (x : List Int × Int) : Std × Int := ((x.2, (cf s x.1).2), (cf s x.1).1)
end WM

set_option Elab.async false
set_option linter.all false
set_option maxRecDepth 100000
set_option maxHeartbeats 4000000
namespace L2
open PySem WM
section
variable {g : TG} {tb : TS} {D : Ends} {σ : St} {H : Hp}
end
end L2

set_option Elab.async false
set_option linter.all false
set_option maxRecDepth 100000
set_option maxHeartbeats 4000000
namespace W
open PySem L2 WM
/-! plans in the heap -/
def plS (l : List Nat) (c : Nat) (x : List Int × Int) : List (List Int × Int) := (tts l x.2 c).map fun t => (x.1 ++ [t], (x.2 + t) % (l.length : Int))
def PlanAt (H : Hp) (q : Addr) (x : List Int × Int) : Prop := ∃ a, H q = some (.tup [.ref a, .int x.2]) ∧ H a = some (.lst (x.1.map V.int))
end W

set_option Elab.async false
set_option linter.all false
set_option maxRecDepth 100000
set_option maxHeartbeats 4000000
namespace W
open PySem L2 WM
/-! the law's dicts of least costs and counts -/
def RC (H : Hp) (x : Std × (Int × Int)) (kv : List Key × V) : Prop := kv.1 = key x.1 ∧ ∃ q, kv.2 = .ref q ∧ H q = some (.tup [.int x.2.1, .int x.2.2])
def DicAt (H : Hp) (d : Addr) (m : List (Std × (Int × Int))) : Prop := ∃ kvs, H d = some (.dT kvs) ∧ All2 (RC H) m kvs
/-- rows as the law reckons them -/
def RowsC (l : List Nat) (s p : Int) (o : List Nat) (ms : List (List (Std × (Int × Int)))) : Prop := ms.length = o.length + 1 ∧ ∀ i m, ms[i]? = some m → IsC m (Xf l s p (o.take i))
theorem last_at {as : List Addr} {i : Nat} {b : Addr} (hl : as.length = i + 1) (hb : as[i]? = some b) : atI (as.map V.ref) (-1) = some (.ref b) := by
  have e : as.map V.ref = (as.map V.ref).take i ++ [V.ref b] := by
    have := List.take_add_one (l := as.map V.ref) (i := i)
    rw [List.getElem?_map, hb] at this
    have e2 : (as.map V.ref).take (i + 1) = as.map V.ref := List.take_of_length_le (by rw [List.length_map]; omega)
    rw [e2] at this
    exact this
  rw [e]
  exact atI_last _ _
end W

set_option Elab.async false
set_option linter.all false
set_option maxRecDepth 100000
set_option maxHeartbeats 4000000
namespace L2
open PySem WM
section
variable {K : PySem.W.Frag} {a D : Addr} {g : TG} {tt : TT} {te : TE} {vs : List Nat} {σ : St} {H1 : Hp} {Qd : Hp → Prop} {α : Type}
end
end L2
namespace W
open PySem L2 WM
theorem signs_of_vs {l : List Nat} {ys : List V} (h : ∀ y ∈ ys, ∃ c ∈ l, y = V.str (txt [c])) : ∃ o : List Nat, ys = (o.map fun c => txt [c]).map V.str ∧ o.length = ys.length ∧ ∀ c ∈ o, c ∈ l := by
  induction ys with
  | nil => exact ⟨[], rfl, rfl, fun c hc => by cases hc⟩
  | cons y ys ih =>
    obtain ⟨c, hc, rfl⟩ := h y List.mem_cons_self
    obtain ⟨o, h1, h2, h3⟩ := ih fun z m => h z (List.mem_cons_of_mem _ m)
    refine ⟨c :: o, by rw [h1]; rfl, by rw [List.length_cons, List.length_cons, h2], fun d hd => ?_⟩
    rcases List.mem_cons.mp hd with rfl | hd
    · exact hc
    · exact h3 d hd
theorem sum_ones (l : List Nat) : ((l.map fun c => txt [c]).map fun x : Str => x.length).sum = l.length := by
  induction l with
  | nil => rfl
  | cons a r ih =>
    rw [List.map_cons, List.map_cons, List.sum_cons, ih, txt_length]
    show 1 + r.length = r.length + 1
    omega
end W

set_option Elab.async false
set_option linter.all false
set_option maxRecDepth 100000
set_option maxHeartbeats 4000000
namespace L2
open PySem PySem.Spec PyProof.Rows
def NewD (e : HO) : Prop := e = .dT [] ∨ e = .dK []
section
variable {X : Cx}
def tDc (e0 : HO) (wi : TI) (g : TG) (tt : TT) (tk te : TE) (vs : List Nat) : TE := fun σ H Q => wi σ H fun J H1 => ∀ D, H1 D = none → ∃ W : Nat → Nat → Hp → Prop, (∃ m, W 0 m (upd H1 D e0)) ∧ ∀ i m H, W i m H →
  (J.stop i H ∧ Q (.ref D) H) ∨ (J.go i H ∧ ∃ Nx : Hp → Prop, (∀ H', Nx H' → ∃ m', m' < m ∧ W (i + 1) m' H') ∧ ∀ x H', J.yld i H x H' → g x (wipe σ vs) H' fun σ2 H2 => wipe σ2 vs = wipe σ vs ∧ tt σ2 H2 fun b H3 =>
    if b = true then tk σ2 H3 fun x H4 => te σ2 H4 fun y H5 => ∃ H6, DPut H5 D x y H6 ∧ Nx H6 else Nx H3)
end
section
variable {prog : Program} {w : World} {A : Around} {R : Result → Shared → Prop} {s : Shared} {kx elt t0 i0 t1 i1 : Expr} {ifs0 ifs1 : List Expr} {scope : Scope} {pos : Pos} {it : Value} {acc : Addr} {env : Env}
end

section
variable {X : Cx}
def tDc2 (e0 : HO) (wi : TI) (g : TG) (tt : TT) (wi1 : TI) (g1 : TG) (tt1 : TT) (tk te : TE) (vs vs1 : List Nat) : TE := fun σ H Q => wi σ H fun J H1 => ∀ D, H1 D = none → ∃ W : Nat → Nat → Hp → Prop, (∃ m, W 0 m (upd H1 D e0)) ∧ ∀ i m H, W i m H →
  (J.stop i H ∧ Q (.ref D) H) ∨ (J.go i H ∧ ∃ Nx : Hp → Prop, (∀ H', Nx H' → ∃ m', m' < m ∧ W (i + 1) m' H') ∧ ∀ x H', J.yld i H x H' → g x (wipe σ vs) H' fun σ2 H2 => wipe σ2 vs = wipe σ vs ∧ tt σ2 H2 fun b H3 =>
    if b = true then wi1 σ2 H3 fun J1 H4 => ∃ W1 : Nat → Nat → Hp → Prop, (∃ m, W1 0 m H4) ∧ ∀ j k H, W1 j k H →
      (J1.stop j H ∧ Nx H) ∨ (J1.go j H ∧ ∃ Nx1 : Hp → Prop, (∀ H', Nx1 H' → ∃ k', k' < k ∧ W1 (j + 1) k' H') ∧ ∀ x H', J1.yld j H x H' → g1 x (wipe σ2 vs1) H' fun σ3 H5 => wipe σ3 vs1 = wipe σ2 vs1 ∧ tt1 σ3 H5 fun b H6 =>
        if b = true then tk σ3 H6 fun x H7 => te σ3 H7 fun y H8 => ∃ H9, DPut H8 D x y H9 ∧ Nx1 H9 else Nx1 H6)
    else Nx H3)
end
end L2

set_option Elab.async false
set_option linter.all false
set_option maxRecDepth 100000
set_option maxHeartbeats 4000000
namespace L2
open PySem WM
/-! walks of comprehensions, whatever a turn does -/
section
variable {K : PySem.W.Frag} {a : Addr} {H0 : Hp} {Qd : Hp → Prop} {Step : (Hp → Prop) → V → Hp → Prop}
end
/-! tuples of the module -/
def GTup (K : PySem.W.Frag) (mg : Str → Option Value) (x : Str) (vs : List V) : Prop := ∃ a, mg x = some (.ref a) ∧ ∀ H, SqT K H a vs
def tGRef (K : PySem.W.Frag) (vs : List V) : TE := fun _ H Q => ∀ a, (∀ H, SqT K H a vs) → Q (.ref a) H
theorem pi_listK {X : Cx} {K : PySem.W.Frag} {tg l : Expr} {tl : TE} (hK : X.K = K) (h : PE X l tl) : PI X tg l (iList K tl) := by
  subst hK
  exact pi_list h
/-! d[y], y a tuple that is read in any way -/
def tDGetS (K : PySem.W.Frag) (td ty : TE) : TE := fun σ H Q => td σ H fun x H1 => ty σ H1 fun y H2 => ∃ (a b : Addr) (kvs : List (List Key × V)) (k : List Key) (v : V), x = .ref a ∧ y = .ref b ∧ Rd H2 a (.dT kvs) ∧ SqT K H2 b (k.map kV) ∧ valV kvs k = some v ∧ Q v H2
end L2

set_option Elab.async false
set_option linter.all false
set_option maxRecDepth 100000
set_option maxHeartbeats 4000000
namespace L2
open PySem PySem.Spec PyProof.Rows
theorem vals_of_get : ∀ {xs : List V} {us : List Value}, xs.length = us.length → (∀ (j : Nat) x u, xs[j]? = some x → us[j]? = some u → RelV x u) → Vals xs us
  | [], [], _, _ => .nil
  | x :: xs, u :: us, h, k => .cons (k 0 x u rfl rfl) (vals_of_get (Nat.succ.inj h) fun j => k (j + 1))
  | [], _ :: _, h, _ => nomatch h
  | _ :: _, [], h, _ => nomatch h
section
variable {X : Cx} {tg : Expr}
/-- range(n) as an argument -/
theorem ev_range1 {a : Expr} {ta : TA} {p pos : Pos} {pins : List (Addr × Obj)} {s : Shared} {σ : St} {H : Hp} {R : Nat → Hp → Prop} {Q' : Value → Shared → Prop} (hg : Gl X "range") (hm : X.mg "range" = none) (ha : PA X [a] ta) (I : Inv X pins σ H s)
    (h : ta σ H fun vs H1 => ∃ n : Nat, vs = [.int (n : Int)] ∧ (n : Int) < 2 ^ 62 ∧ R n H1) (k : ∀ (s2 : Shared) (n : Nat) (H1 : Hp) (t u v : Tok) (r : Addr), Inv X pins σ H1 s2 → (n : Int) < 2 ^ 62 → IsRange s2.heap r 0 (n : Int) 1 t u v → R n H1 → Q' (.ref r) s2) (hs : starEach [a] X.env = [(false, eval a X.env)] := by rfl) :
    wpAny (model X.prog X.w) X.A (eval (.Call (.Name "range" p) [a] [] pos) X.env) Q' X.xe s := by
  refine Call_ (ld_blt I hg hm boot_range (PyProof.Rows.callWith_type1 (thn (ha pos pins s σ H _ I h) fun us s1 ⟨vs, H1, I1, r1, q1⟩ => ?_) hs rfl))
  obtain ⟨n, e, hn, q⟩ := q1
  subst e
  cases r1 with
  | cons r rr =>
    cases rr
    obtain ⟨t, rfl⟩ := r
    exact call_range_1 (k _ n H1 _ _ _ _ (I1.kept fun b o e => Heap.get?_push_of_some _ e) hn (IsRange.new ..) q)
/-- list(range(n)) -/
def tListRange (ta : TA) : TE := fun σ H Q => ta σ H fun vs H1 => ∃ n : Nat, vs = [.int (n : Int)] ∧ (n : Int) < 2 ^ 62 ∧ n ≤ 1000 ∧ ∀ p, H1 p = none → Q (.ref p) (upd H1 p (.lst ((List.range n).map fun i : Nat => V.int i)))
theorem rangeSize0 (n : Nat) : Builtin.Range.rangeSize 0 (n : Int) 1 = n := by
  unfold Builtin.Range.rangeSize
  rw [if_pos (by decide)]
  by_cases h : (0 : Int) < n
  · rw [if_pos h]; omega
  · rw [if_neg h]; omega
theorem pe_listRange {a : Expr} {ta : TA} {p p2 pos pos2 : Pos} (hc : X.calm = true) (hl : Gl X "list") (hml : X.mg "list" = none) (hg : Gl X "range") (hm : X.mg "range" = none) (ha : PA X [a] ta) (hs : starEach [a] X.env = [(false, eval a X.env)] := by rfl)
    (hs2 : starEach [.Call (.Name "range" p) [a] [] pos] X.env = [(false, eval (.Call (.Name "range" p) [a] [] pos) X.env)] := by rfl) :
    PE X (.Call (.Name "list" p2) [.Call (.Name "range" p) [a] [] pos] [] pos2) (tListRange ta) := by
  intro pins s σ H Q I h
  refine Call_ (ld_blt I hl hml (u := .type "list") (by decide +kernel) (PyProof.Rows.callWith_type1 ?_ hs2 rfl))
  rw [hs2]
  show wpAny _ _ (spliced [(false, eval (.Call (.Name "range" p) [a] [] pos) X.env)]) _ _ s
  refine Calls.spliced_cons (ev_range1 hg hm ha I h (fun s2 n H1 t u v r I2 hn hr q => Calls.spliced_nil ?_) hs)
  obtain ⟨hn2, q⟩ := q
  refine call_list_range (n := n) (I2.ok.hd hc) hr (small_one (by decide) (by decide) (by omega) (by omega)) (rangeSize0 n) (by omega) fun h' tk acc' c' hk hS' hacc => ?_
  have hfr : H1 s2.heap.objs.size = none := I2.hok.fresh (Nat.le_refl _)
  refine ⟨.ref s2.heap.objs.size, _, I2.laid (t' := tk) (o := .lst ((List.range n).map fun i : Nat => V.int i)) hk (Nat.le_refl _) ?_, rfl, q _ hfr⟩
  obtain ⟨hsz, hit⟩ := hacc
  refine ⟨?_, acc'.toList, c', ?_, by simpa using hS'⟩
  · rw [List.length_map, List.length_range]; exact Nat.le_of_lt (small1000 hn2)
  · refine vals_of_get (by rw [List.length_map, List.length_range, Array.length_toList, hsz]) fun j x u hx hu => ?_
    rw [List.getElem?_map] at hx
    cases e : (List.range n)[j]? with
    | none => rw [e] at hx; cases hx
    | some i =>
      rw [e] at hx
      cases hx
      have hi : i = j := by
        obtain ⟨h1, h2⟩ := List.getElem?_eq_some_iff.mp e
        rw [List.getElem_range] at h2
        exact h2.symm
      subst hi
      obtain ⟨t, rfl⟩ := hit i u (by simpa using hu)
      exact ⟨t, by simp⟩
end
/-! reversed(range(n)) -/
section
variable {prog : Program} {w : World} {A : Around} {E : Value → Shared → Prop} {s : Shared}
def rrObj (n : Nat) : Obj := { cls := .type "range_iterator", data := .fields #[rawInt (0 + ((n : Int) - 1) * 1), rawInt (n : Int), rawInt (-1)] }
end
def iRevR (ta : TA) : TI := fun σ H R => ta σ H fun vs H1 => ∃ n : Nat, vs = [.int (n : Int)] ∧ (n : Int) < 2 ^ 62 ∧ R (Itc ((n : Int) - 1) (-1) n) H1
section
variable {X : Cx} {tg : Expr}
/-! xs[::-1] -/
theorem sliceRange_down (n : Nat) : sliceRange ((n : Int) - 1) (-1) (-1) = (List.range n).reverse := by
  unfold sliceRange
  have e : (if ((n : Int) - 1) > -1 then ((n : Int) - 1 - -1 - -1 - 1) / (- -1) else 0) = (n : Int) := by
    by_cases h : ((n : Int) - 1) > -1
    · rw [if_pos h, show (- -1 : Int) = 1 by decide, Int.ediv_one]; omega
    · rw [if_neg h]; omega
  rw [if_neg (by decide), e]
  dsimp only
  rw [Int.toNat_natCast]
  refine List.ext_getElem (by simp) fun i h1 h2 => ?_
  rw [List.getElem_map, List.getElem_range, List.getElem_reverse, List.getElem_range, List.length_range]
  simp at h1
  omega
theorem slicePick_rev (its : List Value) : slicePick its.toArray none none (some (-1)) = its.reverse.toArray := by
  unfold slicePick
  have e : sliceBounds none none (some (-1)) its.toArray.size = ((its.length : Int) - 1, -1, -1) := by
    unfold sliceBounds
    simp
  rw [e]
  dsimp only
  rw [sliceRange_down]
  congr 1
  rw [List.filterMap_reverse]
  congr 1
  have : ∀ k, (List.range k).filterMap (fun i => its.toArray[i]?) = its.take k := by
    intro k
    induction k with
    | zero => rfl
    | succ k ih =>
      rw [List.range_succ, List.filterMap_append, ih, List.take_add_one]
      congr 1
      cases e : its[k]? with
      | none => simp [e]
      | some v => simp [e]
  have h := this its.length
  rw [List.take_length] at h
  exact h
def tSlRev (K : PySem.W.Frag) (te : TE) (ts : TO) : TE := fun σ H Q => te σ H fun x H1 => ts σ H1 fun st H2 => st = some (-1) ∧ ∃ (a : Addr) (xs : List V), x = .ref a ∧ SqL K H2 a xs ∧ ∀ p, H2 p = none → Q (.ref p) (upd H2 p (.lst xs.reverse))
theorem pe_sliceRev {e st : Expr} {te : TE} {ts : TO} {pos p2 : Pos} (he : PE X e te) (ht : PO X (some st) ts) : PE X (.Subscript e (.Slice none none (some st) p2) pos) (tSlRev X.K te ts) := by
  intro pins s σ H Q I h
  refine Subscript_ (thn (he pins s σ H _ I h) fun v s1 ⟨x, H1, I1, r1, q1⟩ => ?_)
  refine wpAny_Slice (thn (po_none (X := X) pins s1 σ H1 (fun l H2 => l = none ∧ ts σ H2 fun st H3 => st = some (-1) ∧ ∃ (a : Addr) (xs : List V), x = .ref a ∧ SqL X.K H3 a xs ∧ ∀ p, H3 p = none → Q (.ref p) (upd H3 p (.lst xs.reverse))) I1 ⟨rfl, q1⟩) fun vl s2 ⟨l, H2, I2, pl, q2⟩ => thn (po_none (X := X) pins s2 σ H2 (fun u H3 => u = none ∧ ts σ H3 fun st H4 => st = some (-1) ∧ ∃ (a : Addr) (xs : List V), x = .ref a ∧ SqL X.K H4 a xs ∧ ∀ p, H4 p = none → Q (.ref p) (upd H4 p (.lst xs.reverse))) I2 ⟨rfl, q2.2⟩) fun vu s3 ⟨u, H3, I3, pu, q3⟩ => thn (ht pins s3 σ H3 _ I3 q3.2) fun vt s4 ⟨tt, H4, I4, pt, q4⟩ => ?_)
  obtain ⟨el, _⟩ := q2
  obtain ⟨eu, _⟩ := q3
  obtain ⟨et, a, xs, ex, hx, q⟩ := q4
  subst el eu et ex
  cases r1
  have I5 : Inv X pins σ H4 { s4 with heap := s4.heap.push { cls := .type "slice", data := .fields #[vl, vu, vt] } } := I4.kept (t' := s4.toks) fun b ob q => Heap.get?_push_of_some _ q
  obtain ⟨its, r, ht', hz⟩ := I5.list hx
  have hlen := r.length
  show wpAny (model X.prog X.w) X.A (subscriptTail e (.Slice none none (some st) p2) (.ref a) (.ref s4.heap.objs.size)) (EP X pins σ Q) X.xe { s4 with heap := s4.heap.push { cls := .type "slice", data := .fields #[vl, vu, vt] } }
  refine tail_any (ops := [.ref a, .ref s4.heap.objs.size]) ht'.isList.typeIs slot_list_getitem.lookup ?_ (by with_unfolding_all rfl)
  refine wpAny_getItem_list_slice ht'.isList (Heap.IsSliceOf.new ..) pl pu pt (by decide) ?_ (by rw [List.size_toArray] <;> omega)
  rw [slicePick_rev]
  generalize hs5 : ({ s4 with heap := s4.heap.push { cls := .type "slice", data := .fields #[vl, vu, vt] } } : Shared) = s5 at I5
  refine ⟨.ref s5.heap.objs.size, _, I5.laid (t' := s5.toks) (o := .lst xs.reverse) (fun b ob q => Heap.get?_push_of_some _ q) (Nat.le_refl _) ?_, ?_, q _ (I5.hok.fresh (Nat.le_refl _))⟩
  · exact ⟨by rw [List.length_reverse]; exact hz, _, 0, r.reverse, by subst hs5; exact Heap.get?_push_size _ rfl⟩
  · subst hs5; rfl
end
end L2

set_option Elab.async false
set_option linter.all false
set_option maxRecDepth 100000
set_option maxHeartbeats 4000000
namespace WM
open PySem
/-! all plans from a stand, least costs, how many, the first -/
def bh (l : List Nat) (st : Std) (t : Int) : Std := ((st.1 + t) % (l.length : Int), wb st.2 t)
def PF (l : List Nat) : List Nat → Int → List (List Int)
  | [], _ => [[]]
  | c :: o, p => (tts l p c).flatMap fun t => (PF l o ((p + t) % (l.length : Int))).map (t :: ·)
def cw (s : Int) : Int → List Int → Int
  | _, [] => 0
  | w, t :: ts => tc w t s + cw s (wb w t) ts
def cs (l : List Nat) (s : Int) (o : List Nat) (st : Std) : List Int := (PF l o st.1).map (cw s st.2)
/-- the least of a list, and how often it is there -/
structure Nd (xs : List Int) (x : Int × Int) : Prop where
  mem : x.1 ∈ xs
  le : ∀ y ∈ xs, x.1 ≤ y
  cnt : x.2 = (xs.count x.1 : Nat)
/-- what the rest of a word needs from a stand -/
noncomputable def nd (l : List Nat) (s : Int) (o : List Nat) (st : Std) : Int × Int := open Classical in if h : ∃ x, Nd (cs l s o st) x then h.choose else (0, 0)
/-- the turns by which nothing is lost -/
noncomputable def fit (l : List Nat) (s : Int) (c : Nat) (o : List Nat) (st : Std) : List Int := (tts l st.1 c).filter fun t => decide (tc st.2 t s + (nd l s o (bh l st t)).1 = (nd l s (c :: o) st).1)
noncomputable def lp (l : List Nat) (s : Int) : List Nat → Std → List Int
  | [], _ => []
  | c :: o, st => (fit l s c o st).headD 0 :: lp l s o (bh l st ((fit l s c o st).headD 0))
/-! plans are told in order -/
end WM

set_option Elab.async false
set_option linter.all false
set_option maxRecDepth 100000
set_option maxHeartbeats 4000000
namespace L2
open PySem WM
section
variable {D : Addr} {g : TG} {tt : TT} {te : TE} {vs : List Nat} {σ : St} {H1 : Hp} {Qd : Hp → Prop}
end
end L2
namespace WM
open PySem
theorem eq_sgn (a c : Nat) : decide (L2.V.str (txt [a]) = L2.V.str (txt [c])) = decide (a = c) := decide_eq_decide.mpr ⟨fun h => by
  have := txt_inj (l := [a]) (m := [c]) (L2.V.str.inj h)
  injection this, fun h => by rw [h]⟩
/-- the places of a sign -/
def plc (l : List Nat) (c : Nat) : List Nat := (List.range l.length).filter fun j => decide (l.getD j 0 = c)
/-- the places where the head may stand with so many signs struck -/
def pla (l o : List Nat) (i : Nat) : List Nat := if i = 0 then List.range l.length else plc l (o.getD (i - 1) 0)
/-- what a dict of needs tells -/
def NeedRow (l : List Nat) (s : Int) (o : List Nat) (i : Nat) (m : List (Std × (Int × Int))) : Prop := ∀ j ∈ pla l o i, ∀ w : Int, -1 ≤ w → w ≤ 1 → lk m ((j : Int), w) = some (nd l s (o.drop i) ((j : Int), w))
end WM
namespace W
open PySem L2 WM
/-- a pair of ints in the heap -/
def Tr2 (H : Hp) (q : Addr) (x : Int × Int) : Prop := H q = some (.tup [.int x.1, .int x.2])
theorem zip_facts {α β : Type} {R : α → β → Prop} {qs : List α} {xs : List β} (h : All2 R qs xs) : ∀ y ∈ qs.zip xs, R y.1 y.2 := by
  intro y hy
  obtain ⟨i, hi⟩ := List.getElem?_of_mem hy
  obtain ⟨g1, g2⟩ := List.getElem?_zip_eq_some.mp hi
  obtain ⟨b, g3, g4⟩ := h.get g1
  rw [g2] at g3
  cases g3
  exact g4
theorem zip_snd_map {α β γ : Type} {qs : List α} {xs : List β} (h : qs.length = xs.length) (f : β → γ) : (qs.zip xs).map (fun y => f y.2) = xs.map f := by
  have := congrArg (List.map f) (zip_snd h)
  rw [List.map_map] at this
  exact this
theorem zip_filter_map {α β γ : Type} {qs : List α} {xs : List β} (h : qs.length = xs.length) (p : β → Bool) (f : β → γ) : ((qs.zip xs).filter fun y => p y.2).map (fun y => f y.2) = (xs.filter p).map f := by
  induction qs generalizing xs with
  | nil =>
    cases xs with
    | nil => rfl
    | cons => cases h
  | cons a qs ih =>
    cases xs with
    | nil => cases h
    | cons x xs =>
      have hh : qs.length = xs.length := by simpa using h
      rw [List.zip_cons_cons, List.filter_cons, List.filter_cons]
      cases e : p x with
      | true => simp only [e, if_true, List.map_cons]; rw [ih hh]
      | false => simp only [e, Bool.false_eq_true, if_false]; rw [ih hh]
end W
namespace L2
open PySem WM
end L2
namespace W
open PySem L2 WM
theorem Tr2.same {H H' : Hp} {q : Addr} {x : Int × Int} (s : Same H H') (h : Tr2 H q x) : Tr2 H' q x := s _ _ h
theorem Tr2.updL {H : Hp} {q r : Addr} {x : Int × Int} {xs : List V} {o : HO} (h : Tr2 H q x) (hr : H r = some (.lst xs)) : Tr2 (upd H r o) q x := by
  unfold Tr2
  rw [upd_ne (ne_of h hr (fun z => nomatch z))]
  exact h
end W
namespace WM
end WM
namespace W
open PySem L2 WM
end W
namespace L2
theorem All2.append {α β : Type} {R : α → β → Prop} {as as' : List α} {bs bs' : List β} (h : All2 R as bs) (h' : All2 R as' bs') : All2 R (as ++ as') (bs ++ bs') := by
  induction h with
  | nil => exact h'
  | cons r _ ih => exact .cons r ih
end L2
namespace WM
theorem drop_cons {o : List Nat} {a c : Nat} (h : o[a]? = some c) : o.drop a = c :: o.drop (a + 1) := by
  obtain ⟨h1, h2⟩ := List.getElem?_eq_some_iff.mp h
  rw [List.drop_eq_getElem_cons h1, h2]
end WM
namespace L2
open PySem WM
section
variable {g : TG} {tb : TS} {D : Ends} {σ : St} {H : Hp}
/-- for i, c in enumerate(text) -/
theorem for_enumS {l : List Nat} (Pv : Nat → St → Hp → Prop) (h0 : Pv 0 σ H) (hs : ∀ i c T σ H, l[i]? = some c → Pv i σ H → H T = none → g (.ref T) σ (upd H T (.tup [.int (i : Nat), .str (txt [c])])) fun σ2 H2 => tb { D with nx := Pv (i + 1), ct := Pv (i + 1), bk := D.nx } σ2 H2) (hd : ∀ σ H, Pv l.length σ H → D.nx σ H) :
    ∃ W : Nat → Nat → St → Hp → Prop, (∃ m, W 0 m σ H) ∧ ∀ i m σ H, W i m σ H →
      ((Ites (txt l)).stop i H ∧ D.nx σ H) ∨ ((Ites (txt l)).go i H ∧ ∃ N : St → Hp → Prop, (∀ σ' H', N σ' H' → ∃ m', m' < m ∧ W (i + 1) m' σ' H') ∧ ∀ x H', (Ites (txt l)).yld i H x H' → g x σ H' fun σ2 H2 => tb { D with nx := N, ct := N, bk := D.nx } σ2 H2) := by
  have ez : (txt l).cps.size = l.length := by show l.toArray.size = _; simp
  refine ⟨fun i m σ H => m = l.length - i ∧ i ≤ l.length ∧ Pv i σ H, ⟨l.length, by simp, Nat.zero_le _, h0⟩, ?_⟩
  rintro i m σ H ⟨rfl, hi, p⟩
  by_cases hlt : i < l.length
  · refine .inr ⟨by show i < (txt l).cps.size; rw [ez]; exact hlt, Pv (i + 1), fun σ' H' p' => ⟨l.length - (i + 1), by omega, rfl, hlt, p'⟩, fun x H' y => ?_⟩
    obtain ⟨T, c, e1, e2, e3, e4⟩ := y
    subst e1 e4
    have hc : l[i]? = some c := by simpa [txt] using e3
    exact hs i c T σ H hc p e2
  · have e : i = l.length := by omega
    subst e
    exact .inl ⟨by show l.length = (txt l).cps.size; exact ez.symm, hd σ H p⟩
end
end L2
namespace L2
open PySem
end L2
namespace W
open PySem L2 WM
theorem isW_len {o : List Nat} (h : isW o = true) : o.length ≤ 80 := by
  unfold isW at h
  rw [Bool.and_eq_true] at h
  exact of_decide_eq_true h.1
end W
namespace W
end W

set_option Elab.async false
set_option linter.all false
set_option maxRecDepth 100000
set_option maxHeartbeats 4000000
namespace L2
open PySem PySem.Spec PyProof.Rows
section
variable {prog : Program} {w : World} {A : Around} {E : Value → Shared → Prop} {s : Shared}
end
section
variable {X : Cx} {pins : List (Addr × Obj)} {σ : St} {H : Hp} {s : Shared} {d : Addr} {o : Obj}
end
/-- the values of the locked dict at d, tuples as keys -/
def Itdt (d : Addr) (o : Obj) (kvs : List (List Key × V)) : It :=
  ⟨fun i H => H d = some (.frz o (.dT kvs)) ∧ i < kvs.length, fun i H x H' => H' = H ∧ ∃ k, kvs[i]? = some (k, x), fun i H => H d = some (.frz o (.dT kvs)) ∧ kvs.length ≤ i⟩
section
variable {P : Program} {w : World} {K : PySem.W.Frag} {tg : Expr} {d : Addr} {o : Obj} {es : Array DictEntry} {ep : Nat}
end
/-- d.values(), d locked, tuples as keys -/
def iValsT (td : TE) : TI := fun σ H R => td σ H fun x H1 => ∃ d o kvs, x = .ref d ∧ H1 d = some (.frz o (.dT kvs)) ∧ R (Itdt d o kvs) H1
section
variable {X : Cx} {tg e : Expr} {td : TE} {apos cpos : Pos}
end
section
variable {D : Addr} {g : TG} {tt : TT} {te : TE} {vs : List Nat} {σ : St} {H1 : Hp} {Qd : Hp → Prop} {α : Type}
end
end L2

set_option Elab.async false
set_option linter.all false
set_option maxRecDepth 100000
set_option maxHeartbeats 4000000
namespace L2
open PySem PySem.Spec PyProof.Rows
structure ApartD (z TI TO i1 i2 : Addr) (fp1 fp2 : List Addr) : Prop where
  TIz : TI ≠ z
  TOz : TO ≠ z
  i1z : i1 ≠ z
  i2z : i2 ≠ z
  TITO : TI ≠ TO
  TIi1 : TI ≠ i1
  TIi2 : TI ≠ i2
  TOi1 : TO ≠ i1
  TOi2 : TO ≠ i2
  i12 : i1 ≠ i2
  f1 : ∀ b ∈ fp1, b ≠ z ∧ b ≠ TO ∧ b ≠ i2
  f2 : ∀ b ∈ fp2, b ≠ z ∧ b ≠ TO ∧ b ≠ i1
section
variable {prog : Program} {w : World} {A : Around} {E : Value → Shared → Prop} {s : Shared}
theorem zip_itemD {z TI TO i1 i2 : Addr} {k1 k2 : Nat} {a b : Value} {Q : Value → Shared → Prop} {fp1 fp2 : List Addr} {n1 n2 : Nat} {P1 P2 : Nat → Value → Prop} {St1 St2 : Nat → Heap → Prop} (S1 : Draws prog w A i1 fp1 n1 P1 St1) (S2 : Draws prog w A i2 fp2 n2 P2 St2) (D : ApartD z TI TO i1 i2 fp1 fp2)
    (hz : IsZip s.heap z TI TO .none) (hTI : IsPair s.heap TI (.ref i1) (.ref i2)) (hTO : IsPair s.heap TO a b)
    (h1 : St1 k1 s.heap) (h2 : St2 k2 s.heap) (hl1 : k1 < n1) (hl2 : k2 < n2)
    (hQ : ∀ x y h' tk, P1 k1 x → P2 k2 y → IsZip h' z TI TO (rawInt s.heap.objs.size) → IsPair h' TO x y → St1 (k1 + 1) h' → St2 (k2 + 1) h' → IsPair h' s.heap.objs.size x y → h'.objs.size = s.heap.objs.size + 1 →
      (∀ c o, c ≠ z → c ≠ TO → c ≠ i1 → c ≠ i2 → s.heap.get? c = some o → h'.get? c = some o) → Q (.ref s.heap.objs.size) { s with heap := h', toks := tk }) :
    wpAny (model prog w) A (Builtin.«zip.__next__» ⟨[.ref z], []⟩) (fun fin s' => ∃ v, fin = .done (.ret v) ∧ Q v s') E s := by
  show wpAny _ _ (field (.ref z) 2 >>= _) _ _ _
  refine wpAny_bind (wpAny_field hz rfl (x := .bool false) rfl ?_)
  show wpAny _ _ (field (.ref z) 3 >>= _) _ _ _
  refine wpAny_bind (wpAny_field hz rfl (x := .ref TI) rfl ?_)
  refine wpAny_bind (wpAny_seqItems hTI rfl ?_)
  show wpAny _ _ (Builtin.SmallTypes.ownedTupleIsFree (.ref z) >>= _) _ _ _
  refine wpAny_bind ?_
  unfold Builtin.SmallTypes.ownedTupleIsFree
  refine wpAny_bind (wpAny_field hz rfl (x := .none) rfl (wpAny_pure ?_))
  simp only [if_true]
  refine wpAny_bind (wpAny_rule ?_)
  refine wpAny_bind (wpAny_field hz rfl (x := .ref TO) rfl ?_)
  refine wpAny_bind (wpAny_setField_rec hz (by simp) fun h₁ hz₁ hs₁ => ?_)
  replace hz₁ : IsZip h₁ z TI TO .ellipsis := hz₁
  refine wpAny_bind ?_
  simp only [List.zipIdx_cons, List.zipIdx_nil, List.forIn_cons, List.forIn_nil]

  refine wpAny_bind (wpAny_bind (wpAny_onRaise ?_))
  show wpAny _ _ (Builtin.SmallTypes.nextOf (.ref i1) >>= _) _ _ _
  refine wpAny_bind (S1.item k1 _ _ _ hl1 (S1.frame _ _ _ h1 fun b hb o e => hs₁.extBut _ _ (D.f1 b hb).1 e) fun x h₂ tk₂ hPx h1₂ hs₂ => wpAny_pure ?_)
  have hTO₂ : IsPair h₂ TO a b := hs₂.extBut _ _ D.TOi1 (hs₁.extBut _ _ D.TOz hTO)
  refine wpAny_bind (wpAny_seqItems hTO₂ rfl ?_)
  refine wpAny_bind (wpAny_updateSeq_pair hTO₂ fun h₃ hTO₃ hs₃ => ?_)
  replace hTO₃ : IsPair h₃ TO x b := hTO₃
  refine wpAny_bind (wpAny_letGo (wpAny_pure ?_))

  refine wpAny_bind (wpAny_bind (wpAny_onRaise ?_))
  show wpAny _ _ (Builtin.SmallTypes.nextOf (.ref i2) >>= _) _ _ _
  refine wpAny_bind (S2.item k2 _ _ _ hl2 (S2.frame _ _ _ h2 fun b hb o e => hs₃.extBut _ _ (D.f2 b hb).2.1 (hs₂.extBut _ _ (D.f2 b hb).2.2 (hs₁.extBut _ _ (D.f2 b hb).1 e))) fun y h₄ tk₄ hPy h2₄ hs₄ => wpAny_pure ?_)
  have hTO₄ : IsPair h₄ TO x b := hs₄.extBut _ _ D.TOi2 hTO₃
  refine wpAny_bind (wpAny_seqItems hTO₄ rfl ?_)
  refine wpAny_bind (wpAny_updateSeq_pair hTO₄ fun h₅ hTO₅ hs₅ => ?_)
  replace hTO₅ : IsPair h₅ TO x y := hTO₅
  refine wpAny_bind (wpAny_letGo (wpAny_pure (wpAny_pure ?_)))

  refine wpAny_bind (wpAny_seqItems hTO₅ rfl ?_)
  refine wpAny_bind (wpAny_newTuple ?_)
  have hsz : h₅.objs.size = s.heap.objs.size := by rw [hs₅.1, hs₄.1, hs₃.1, hs₂.1, hs₁.1]
  have hz₅ : IsZip h₅ z TI TO .ellipsis := hs₅.extBut _ _ D.TOz.symm (hs₄.extBut _ _ D.i2z.symm (hs₃.extBut _ _ D.TOz.symm (hs₂.extBut _ _ D.i1z.symm hz₁)))
  have hk₅ : ∀ c o, c ≠ z → c ≠ TO → c ≠ i1 → c ≠ i2 → s.heap.get? c = some o → h₅.get? c = some o := fun c o c1 c2 c3 c4 e =>
    hs₅.extBut _ _ c2 (hs₄.extBut _ _ c4 (hs₃.extBut _ _ c2 (hs₂.extBut _ _ c3 (hs₁.extBut _ _ c1 e))))
  have h1₅ : St1 (k1 + 1) h₅ := S1.frame _ _ _ h1₂ fun b hb o e => hs₅.extBut _ _ (D.f1 b hb).2.1 (hs₄.extBut _ _ (D.f1 b hb).2.2 (hs₃.extBut _ _ (D.f1 b hb).2.1 e))
  have h2₅ : St2 (k2 + 1) h₅ := S2.frame _ _ _ h2₄ fun b hb o e => hs₅.extBut _ _ (D.f2 b hb).2.1 e
  have hzlt : z < h₅.objs.size := Heap.lt_size hz₅
  have hTOlt : TO < h₅.objs.size := Heap.lt_size hTO₅
  have hi1lt : i1 < h₅.objs.size := by obtain ⟨_, e⟩ := S1.live _ _ h1₅; exact Heap.lt_size e
  have hi2lt : i2 < h₅.objs.size := by obtain ⟨_, e⟩ := S2.live _ _ h2₅; exact Heap.lt_size e
  show wpAny _ _ (Builtin.SmallTypes.ownedTupleHandOut (.ref z) (.ref h₅.objs.size) >>= _) _ _ _
  refine wpAny_bind ?_
  unfold Builtin.SmallTypes.ownedTupleHandOut
  have hz₆ : IsZip (h₅.push { cls := .type "tuple", data := .seq #[x, y] }) z TI TO .ellipsis := Heap.get?_push_of_some _ hz₅
  refine wpAny_bind (wpAny_setField_rec hz₆ (by simp) fun h₇ hz₇ hs₇ => ?_)
  replace hz₇ : IsZip h₇ z TI TO (rawInt h₅.objs.size) := hz₇
  refine wpAny_setField_rec hz₇ (by simp) fun h₈ hz₈ hs₈ => ?_
  replace hz₈ : IsZip h₈ z TI TO (rawInt h₅.objs.size) := hz₈
  have up : ∀ c o, c ≠ z → h₅.get? c = some o → h₈.get? c = some o := fun c o c1 e => hs₈.extBut _ _ c1 (hs₇.extBut _ _ c1 (Heap.get?_push_of_some _ e))
  have hT₈ : IsPair h₈ h₅.objs.size x y := hs₈.extBut _ _ (Nat.ne_of_gt hzlt) (hs₇.extBut _ _ (Nat.ne_of_gt hzlt) (Heap.get?_push_size _ rfl))
  have hz8 : h₈.objs.size = h₅.objs.size + 1 := by rw [hs₈.1, hs₇.1, Heap.size_push]
  rw [hsz] at hz₈ hT₈ hz8
  refine wpAny_pure ⟨_, rfl, ?_⟩
  show Q (.ref h₅.objs.size) _
  rw [hsz]
  exact hQ x y h₈ tk₄ hPx hPy hz₈ (up _ _ D.TOz hTO₅) (S1.frame _ _ _ h1₅ fun b hb o e => up b o (D.f1 b hb).1 e) (S2.frame _ _ _ h2₅ fun b hb o e => up b o (D.f2 b hb).1 e) hT₈ hz8 fun c o c1 c2 c3 c4 e => up c o c1 (hk₅ c o c1 c2 c3 c4 e)

theorem zip_endD {z TI TO i1 i2 : Addr} {k1 k2 : Nat} {a b : Value} {Q : Fin → Shared → Prop} {fp1 fp2 : List Addr} {n1 n2 : Nat} {P1 P2 : Nat → Value → Prop} {St1 St2 : Nat → Heap → Prop} (S1 : Draws prog w A i1 fp1 n1 P1 St1) (S2 : Draws prog w A i2 fp2 n2 P2 St2) (D : ApartD z TI TO i1 i2 fp1 fp2)
    (hz : IsZip s.heap z TI TO .none) (hTI : IsPair s.heap TI (.ref i1) (.ref i2)) (hTO : IsPair s.heap TO a b)
    (h1 : St1 k1 s.heap) (h2 : St2 k2 s.heap) (hend : k1 = n1 ∨ (k1 < n1 ∧ k2 = n2))
    (hE : ∀ h' tk e, (∀ c o, c ≠ z → c ≠ TO → c ≠ i1 → c ≠ i2 → s.heap.get? c = some o → h'.get? c = some o) → (∃ o, h'.get? e = some o ∧ o.cls = .type "StopIteration") → E (.ref e) { s with heap := h', toks := tk }) :
    wpAny (model prog w) A (Builtin.«zip.__next__» ⟨[.ref z], []⟩) Q E s := by
  show wpAny _ _ (field (.ref z) 2 >>= _) _ _ _
  refine wpAny_bind (wpAny_field hz rfl (x := .bool false) rfl ?_)
  show wpAny _ _ (field (.ref z) 3 >>= _) _ _ _
  refine wpAny_bind (wpAny_field hz rfl (x := .ref TI) rfl ?_)
  refine wpAny_bind (wpAny_seqItems hTI rfl ?_)
  show wpAny _ _ (Builtin.SmallTypes.ownedTupleIsFree (.ref z) >>= _) _ _ _
  refine wpAny_bind ?_
  unfold Builtin.SmallTypes.ownedTupleIsFree
  refine wpAny_bind (wpAny_field hz rfl (x := .none) rfl (wpAny_pure ?_))
  simp only [if_true]
  refine wpAny_bind (wpAny_rule ?_)
  refine wpAny_bind (wpAny_field hz rfl (x := .ref TO) rfl ?_)
  refine wpAny_bind (wpAny_setField_rec hz (by simp) fun h₁ hz₁ hs₁ => ?_)
  replace hz₁ : IsZip h₁ z TI TO .ellipsis := hz₁
  refine wpAny_bind ?_
  simp only [List.zipIdx_cons, List.zipIdx_nil, List.forIn_cons, List.forIn_nil]
  refine wpAny_bind (wpAny_bind (wpAny_onRaise ?_))
  show wpAny _ _ (Builtin.SmallTypes.nextOf (.ref i1) >>= _) _ _ _
  rcases hend with hx | ⟨hx, hy⟩
  · subst hx
    refine wpAny_bind (S1.done _ _ _ (S1.frame _ _ _ h1 fun b hb o e => hs₁.extBut _ _ (D.f1 b hb).1 e) fun h₂ e hs₂ he => ?_)
    obtain ⟨oe, hoe, hce⟩ := he
    have hz₂ : IsZip h₂ z TI TO .ellipsis := hs₂ _ _ D.i1z.symm hz₁
    have hez : e ≠ z := fun x => by subst x; rw [hz₂] at hoe; cases hoe; simp at hce
    refine wpAny_setField_rec hz₂ (by simp) fun h₃ _ hs₃ => hE h₃ _ e (fun c o c1 _ c3 _ x => hs₃.extBut _ _ c1 (hs₂ _ _ c3 (hs₁.extBut _ _ c1 x))) ⟨oe, hs₃.extBut _ _ hez hoe, hce⟩
  · subst hy
    refine wpAny_bind (S1.item k1 _ _ _ hx (S1.frame _ _ _ h1 fun b hb o e => hs₁.extBut _ _ (D.f1 b hb).1 e) fun x h₂ tk₂ hPx h1₂ hs₂ => wpAny_pure ?_)
    have hTO₂ : IsPair h₂ TO a b := hs₂.extBut _ _ D.TOi1 (hs₁.extBut _ _ D.TOz hTO)
    refine wpAny_bind (wpAny_seqItems hTO₂ rfl ?_)
    refine wpAny_bind (wpAny_updateSeq_pair hTO₂ fun h₃ hTO₃ hs₃ => ?_)
    refine wpAny_bind (wpAny_letGo (wpAny_pure ?_))
    refine wpAny_bind (wpAny_bind (wpAny_onRaise ?_))
    show wpAny _ _ (Builtin.SmallTypes.nextOf (.ref i2) >>= _) _ _ _
    refine wpAny_bind (S2.done _ _ _ (S2.frame _ _ _ h2 fun b hb o e => hs₃.extBut _ _ (D.f2 b hb).2.1 (hs₂.extBut _ _ (D.f2 b hb).2.2 (hs₁.extBut _ _ (D.f2 b hb).1 e))) fun h₄ e hs₄ he => ?_)
    obtain ⟨oe, hoe, hce⟩ := he
    have hz₄ : IsZip h₄ z TI TO .ellipsis := hs₄ _ _ D.i2z.symm (hs₃.extBut _ _ D.TOz.symm (hs₂.extBut _ _ D.i1z.symm hz₁))
    have hez : e ≠ z := fun x => by subst x; rw [hz₄] at hoe; cases hoe; simp at hce
    refine wpAny_setField_rec hz₄ (by simp) fun h₅ _ hs₅ => hE h₅ _ e (fun c o c1 c2 c3 c4 x => hs₅.extBut _ _ c1 (hs₄ _ _ c4 (hs₃.extBut _ _ c2 (hs₂.extBut _ _ c3 (hs₁.extBut _ _ c1 x))))) ⟨oe, hs₅.extBut _ _ hez hoe, hce⟩


theorem next_zip_itemD {z TI TO i1 i2 : Addr} {k1 k2 : Nat} {a b : Value} {Q : Option Value → Shared → Prop} {fp1 fp2 : List Addr} {n1 n2 : Nat} {P1 P2 : Nat → Value → Prop} {St1 St2 : Nat → Heap → Prop} (S1 : Draws prog w A.in1 i1 fp1 n1 P1 St1) (S2 : Draws prog w A.in1 i2 fp2 n2 P2 St2) (D : ApartD z TI TO i1 i2 fp1 fp2)
    (hz : IsZip s.heap z TI TO .none) (hTI : IsPair s.heap TI (.ref i1) (.ref i2)) (hTO : IsPair s.heap TO a b) (h1 : St1 k1 s.heap) (h2 : St2 k2 s.heap) (hl1 : k1 < n1) (hl2 : k2 < n2)
    (hQ : ∀ x y h' tk, P1 k1 x → P2 k2 y → IsZip h' z TI TO (rawInt s.heap.objs.size) → IsPair h' TO x y → St1 (k1 + 1) h' → St2 (k2 + 1) h' → IsPair h' s.heap.objs.size x y → h'.objs.size = s.heap.objs.size + 1 →
      (∀ c o, c ≠ z → c ≠ TO → c ≠ i1 → c ≠ i2 → s.heap.get? c = some o → h'.get? c = some o) → Q (some (.ref s.heap.objs.size)) { s with heap := h', toks := tk }) :
    wpAny (model prog w) A (pyNext (.ref z)) Q E s := by
  have hT : s.TypeIs (.ref z) "zip" := ⟨_, hz, rfl⟩
  unfold pyNext
  exact wpAny_bind (wpAny_attempt (wpAny_callSpecial?_slot (name := Str.ofString "__next__") hT F.slot_zip_next
    (wpAny_call_entry F.slot_zip_next hT F.entry_zip_next
      (zip_itemD S1 S2 D hz hTI hTO h1 h2 hl1 hl2 fun x y h' tk b1 b2 a1 a2 a3 a4 a5 a6 a7 => wpAny_pure (hQ x y h' tk b1 b2 a1 a2 a3 a4 a5 a6 a7)) (F.args_zip_next_1 _))))
theorem next_zip_endD {z TI TO i1 i2 : Addr} {k1 k2 : Nat} {a b : Value} {Q : Option Value → Shared → Prop} {fp1 fp2 : List Addr} {n1 n2 : Nat} {P1 P2 : Nat → Value → Prop} {St1 St2 : Nat → Heap → Prop} (S1 : Draws prog w A.in1 i1 fp1 n1 P1 St1) (S2 : Draws prog w A.in1 i2 fp2 n2 P2 St2) (D : ApartD z TI TO i1 i2 fp1 fp2)
    (hz : IsZip s.heap z TI TO .none) (hTI : IsPair s.heap TI (.ref i1) (.ref i2)) (hTO : IsPair s.heap TO a b) (h1 : St1 k1 s.heap) (h2 : St2 k2 s.heap) (hend : k1 = n1 ∨ (k1 < n1 ∧ k2 = n2))
    (hQ : ∀ h' tk, (∀ c o, c ≠ z → c ≠ TO → c ≠ i1 → c ≠ i2 → s.heap.get? c = some o → h'.get? c = some o) → Q none { s with heap := h', toks := tk }) : wpAny (model prog w) A (pyNext (.ref z)) Q E s := by
  have hT : s.TypeIs (.ref z) "zip" := ⟨_, hz, rfl⟩
  unfold pyNext
  refine wpAny_bind (wpAny_attempt (wpAny_callSpecial?_slot (name := Str.ofString "__next__") hT F.slot_zip_next
    (wpAny_call_entry F.slot_zip_next hT F.entry_zip_next (zip_endD S1 S2 D hz hTI hTO h1 h2 hend fun h' tk e hk he => ?_) (F.args_zip_next_1 _))))
  obtain ⟨o, ho, hc⟩ := he
  refine wpAny_bind (wpAny_isInstance (T := "StopIteration") (b := true) ⟨o, ho, hc⟩ isSubtype_stop ?_)
  exact wpAny_pure (hQ _ _ hk)
end
abbrev zG1 (h : Heap) (o1 : Obj) : Heap := h.push o1
abbrev zG2 (h : Heap) (o1 o2 : Obj) : Heap := (zG1 h o1).push o2
abbrev zG3 (h : Heap) (o1 o2 : Obj) : Heap := (zG2 h o1 o2).push { cls := .type "tuple", data := .seq #[.ref h.objs.size, .ref (zG1 h o1).objs.size] }
abbrev zG4 (h : Heap) (o1 o2 : Obj) : Heap := (zG3 h o1 o2).push { cls := .type "tuple", data := .seq #[.none, .none] }
abbrev zG5 (h : Heap) (o1 o2 : Obj) : Heap := (zG4 h o1 o2).push { cls := .type "zip", data := .fields #[.none, .bool false, .bool false, .ref (zG2 h o1 o2).objs.size, .ref (zG3 h o1 o2).objs.size] }
/-- iter(v) is a new object -/
def IterNew (prog : Program) (w : World) (v : Value) (o : Obj) (s : Shared) : Prop := ∀ {A : Around} {Q : Value → Shared → Prop} {E : Value → Shared → Prop}, Q (.ref s.heap.objs.size) { s with heap := s.heap.push o } → wpAny (model prog w) A (pyIter v) Q E s
theorem meets_zip_newG {prog : Program} {w : World} (v1 v2 : Value) (o1 o2 : Obj) :
    MeetsIn prog w (Builtin.«zip.__new__» ⟨[.type "zip", v1, v2], []⟩) (fun _ R s => IterNew prog w v1 o1 s ∧ IterNew prog w v2 o2 { s with heap := s.heap.push o1 } ∧
      R (.ok (.ret (.ref (zG4 s.heap o1 o2).objs.size))) { s with heap := zG5 s.heap o1 o2 }) :=
  .of_wp fun A R s h => by
    obtain ⟨hp, g, d, tk, os⟩ := s; obtain ⟨hl1, hl2, h⟩ := h
    have hsub := sub_zip
    have k1 : ∀ {A : Around} {Q : Value → Shared → Prop} {E : Value → Shared → Prop}, Q (.ref hp.objs.size) ⟨hp.push o1, g, d, tk, os⟩ → wpAny (model prog w) A (pyIter v1) Q E ⟨hp, g, d, tk, os⟩ := fun h => hl1 h
    have k2 : ∀ {A : Around} {Q : Value → Shared → Prop} {E : Value → Shared → Prop}, Q (.ref (hp.push o1).objs.size) ⟨(hp.push o1).push o2, g, d, tk, os⟩ → wpAny (model prog w) A (pyIter v2) Q E ⟨hp.push o1, g, d, tk, os⟩ := fun h => hl2 h
    wp_walk using k1, k2
    exact ⟨_, rfl, h⟩
section
variable {prog : Program} {w : World} {A : Around} {E : Value → Shared → Prop} {s : Shared}
theorem call_zipG {v1 v2 : Value} {o1 o2 : Obj} {Q : Value → Shared → Prop} (f1 : o1.isFreed = false) (f2 : o2.isFreed = false) (hl1 : IterNew prog w v1 o1 s) (hl2 : IterNew prog w v2 o2 { s with heap := s.heap.push o1 })
    (h : ∀ h', IsZip h' (s.heap.objs.size + 4) (s.heap.objs.size + 2) (s.heap.objs.size + 3) .none → IsPair h' (s.heap.objs.size + 2) (.ref s.heap.objs.size) (.ref (s.heap.objs.size + 1)) →
      IsPair h' (s.heap.objs.size + 3) .none .none → h'.get? s.heap.objs.size = some o1 → h'.get? (s.heap.objs.size + 1) = some o2 → h'.objs.size = s.heap.objs.size + 5 →
      (∀ c o, s.heap.get? c = some o → h'.get? c = some o) → Q (.ref (s.heap.objs.size + 4)) { s with heap := h' }) :
    wpAny (model prog w) A (call (.type "zip") [v1, v2]) Q E s := by
  refine callType_newIn F.called_zip (by decide) (F.typeCall_zip_2 _ _) (F.newCall_zip_2 _ _) (fun obj => F.args_object_init_3 obj _ _) F.entry_zip_new
    (meets_zip_newG v1 v2 o1 o2) ⟨hl1, hl2, ?_⟩
  have z1 : (zG1 s.heap o1).objs.size = s.heap.objs.size + 1 := Heap.size_push ..
  have z2 : (zG2 s.heap o1 o2).objs.size = s.heap.objs.size + 2 := by rw [Heap.size_push, z1]
  have z3 : (zG3 s.heap o1 o2).objs.size = s.heap.objs.size + 3 := by rw [Heap.size_push, z2]
  have z4 : (zG4 s.heap o1 o2).objs.size = s.heap.objs.size + 4 := by rw [Heap.size_push, z3]
  have z5 : (zG5 s.heap o1 o2).objs.size = s.heap.objs.size + 5 := by rw [Heap.size_push, z4]
  have g5 : (zG5 s.heap o1 o2).get? (zG4 s.heap o1 o2).objs.size = some _ := Heap.get?_push_size _ rfl
  have g4 : (zG5 s.heap o1 o2).get? (zG3 s.heap o1 o2).objs.size = some _ := Heap.get?_push_of_some _ (Heap.get?_push_size _ rfl)
  have g3 : (zG5 s.heap o1 o2).get? (zG2 s.heap o1 o2).objs.size = some _ := Heap.get?_push_of_some _ (Heap.get?_push_of_some _ (Heap.get?_push_size _ rfl))
  have g2 : (zG5 s.heap o1 o2).get? (zG1 s.heap o1).objs.size = some o2 := Heap.get?_push_of_some _ (Heap.get?_push_of_some _ (Heap.get?_push_of_some _ (Heap.get?_push_size _ f2)))
  have g1 : (zG5 s.heap o1 o2).get? s.heap.objs.size = some o1 := Heap.get?_push_of_some _ (Heap.get?_push_of_some _ (Heap.get?_push_of_some _ (Heap.get?_push_of_some _ (Heap.get?_push_size _ f1))))
  show _ ∧ _
  rw [z2, z3, z4] at g5
  rw [z1, z2] at g3
  rw [z3] at g4
  rw [z1] at g2
  rw [z4]
  exact ⟨⟨_, g5, rfl⟩, h _ g5 g3 g4 g1 g2 z5 fun c o x =>
    Heap.get?_push_of_some _ (Heap.get?_push_of_some _ (Heap.get?_push_of_some _ (Heap.get?_push_of_some _ (Heap.get?_push_of_some _ x))))⟩
end
def StrTy (ty : String) : Prop := ty = "str_ascii_iterator" ∨ ty = "str_iterator"
theorem strTy (x : Str) : StrTy (strIterType x) := by
  unfold strIterType
  split
  · exact .inl rfl
  · exact .inr rfl
theorem Draws.str {prog : Program} {w : World} {A : Around} (hh : A.handled = none) (it : Addr) (x : Str) (t : Tok) {ty : String} (hty : StrTy ty) :
    Draws prog w A it [it] x.cps.size (fun i v => ∃ c u, x.cps[i]? = some c ∧ v = .str ⟨#[c]⟩ u) (fun i h => h.IsStrIter it ty x t i) := by
  rcases hty with z | z
  · rw [z]; exact Draws.strAscii hh it x t
  · rw [z]; exact Draws.strWide hh it x t
/-- zip, LS -/
def ItzLS (K : PySem.W.Frag) (a1 : Addr) (y2 : Str) : It :=
  ⟨fun i H => (∃ (xs : List V) (x : V), SqL K H a1 xs ∧ xs[i]? = some x) ∧ i < y2.cps.size,
    fun i H v H' => ∃ T x y, v = .ref T ∧ H T = none ∧ H' = upd H T (.tup [x, y]) ∧ (∀ xs, SqL K H a1 xs → xs[i]? = some x) ∧ (∃ c, y2.cps[i]? = some c ∧ y = .str ⟨#[c]⟩),
    fun i H => (∃ xs : List V, SqL K H a1 xs ∧ xs.length = i) ∨ ((∃ (xs : List V) (x : V), SqL K H a1 xs ∧ xs[i]? = some x) ∧ (i = y2.cps.size))⟩
/-- zip, SS -/
def ItzSS (y1 : Str) (y2 : Str) : It :=
  ⟨fun i H => i < y1.cps.size ∧ i < y2.cps.size,
    fun i H v H' => ∃ T x y, v = .ref T ∧ H T = none ∧ H' = upd H T (.tup [x, y]) ∧ (∃ c, y1.cps[i]? = some c ∧ x = .str ⟨#[c]⟩) ∧ (∃ c, y2.cps[i]? = some c ∧ y = .str ⟨#[c]⟩),
    fun i H => (i = y1.cps.size) ∨ (i < y1.cps.size ∧ (i = y2.cps.size))⟩
theorem iter_list_new {prog : Program} {w : World} {s : Shared} {a : Addr} {items : Array Value} (h : s.heap.IsList a items) : IterNew prog w (.ref a) { cls := .type "list_iterator", data := .fields #[.ref a, .int 0 0] } s := fun hQ => wpAny_pyIter_list h hQ
theorem iter_str_new {prog : Program} {w : World} {s : Shared} {x : Str} {t : Tok} : IterNew prog w (.str x t) { cls := .type (strIterType x), data := .fields #[.str x t, .int 0 0] } s := fun hQ => wpAny_pyIter_strU hQ
section
variable {X : Cx} {e e2 : Expr} {ta : TA} {p pos tpos : Pos} {elts : List Expr} {kk : Nat}
def iZipLS (K : PySem.W.Frag) (ta : TA) : TI := fun σ H R => ta σ H fun vs H1 => ∃ (a : Addr) (xs : List V) (y : Str), vs = [.ref a, .str y] ∧ SqL K H1 a xs ∧ R (ItzLS K a y) H1
def iZipSS (ta : TA) : TI := fun σ H R => ta σ H fun vs H1 => ∃ x y : Str, vs = [.str x, .str y] ∧ R (ItzSS x y) H1
end
section
variable {g : TG} {tb : TS} {D : Ends} {σ : St} {H : Hp}
open WM
end
end L2

set_option Elab.async false
set_option linter.all false
set_option maxRecDepth 100000
set_option maxHeartbeats 4000000
namespace WM
open PySem
/-- the place behind some turns -/
def atP (l : List Nat) (p : Int) (ts : List Int) : Int := ts.foldl (fun p t => (p + t) % (l.length : Int)) p
end WM
namespace W
open PySem L2 WM
variable {K : PySem.W.Frag}
end W

set_option Elab.async false
set_option linter.all false
set_option maxRecDepth 100000
set_option maxHeartbeats 4000000
namespace L2
open PySem PySem.Spec PyProof.Rows
section
variable {X : Cx}
/-- list.count, flat items -/
def rCountL (K : PySem.W.Frag) : V → List V → Hp → VK → Prop := fun x xs H Q => ∃ (a : Addr) (ys : List V) (y : V), x = V.ref a ∧ xs = [y] ∧ SqL K H a ys ∧ flatV y = true ∧ ys.all flatV = true ∧ Q (.int (ys.countP fun z => eqV z y : Nat)) H
end
end L2

set_option Elab.async false
set_option linter.all false
set_option maxRecDepth 100000
set_option maxHeartbeats 4000000
namespace L2
open PySem PySem.Spec PyProof.Rows
section
open PySem.SeqAt
open PySem.AutoSeq1 (wpAny_loadPart')
open PySem.MeetsSeq PySem.MeetsSeq2 PySem.MeetsSeq3
end
section
variable {X : Cx}
/-- xs < ys of lists of ints, as long -/
def rLtL (K : PySem.W.Frag) : R2 := fun x y H Q => ∃ (a b : Addr) (ns ms : List Int), x = .ref a ∧ y = .ref b ∧ SqL K H a (ns.map V.int) ∧ SqL K H b (ms.map V.int) ∧ ns.length = ms.length ∧ Q (.bl (HT.lexLt ns ms)) H
end
end L2

set_option Elab.async false
set_option linter.all false
set_option maxRecDepth 100000
set_option maxHeartbeats 4000000
namespace W
open PySem L2 WM
theorem zip_refsG {β : Type} : ∀ {qs : List Addr} {xs : List β}, qs.length = xs.length → (qs.zip xs).map (fun x => V.ref x.1) = qs.map V.ref
  | [], [], _ => rfl
  | q :: qs, x :: xs, h => by rw [List.zip_cons_cons, List.map_cons, List.map_cons, zip_refsG (by simpa using h)]
  | [], _ :: _, h => nomatch h
  | _ :: _, [], h => nomatch h
theorem dInts_eqv (ts : List Int) : PyData.eqv (dInts ts) (dInts ts) = true := (Sh.ints ts).eqv
end W
namespace W
open PySem L2 WM
end W
namespace WM
end WM
namespace W
open PySem L2 WM
/-- a pair of numbers, as data -/
def d2 (a b : Int) : PyData := .tuple [.int a, .int b]
end W

set_option Elab.async false
set_option linter.all false
set_option maxRecDepth 100000
set_option maxHeartbeats 4000000
namespace WM
/-- what is left, by stands -/
def RestRow (l : List Nat) (s : Int) (o : List Nat) (i : Nat) (m : List (Std × Int)) : Prop := ∀ j ∈ pla l o i, ∀ w : Int, -1 ≤ w → w ≤ 1 → lk m ((j : Int), w) = some (nd l s (o.drop i) ((j : Int), w)).1
end WM
namespace W
open PySem L2 WM
/-- a dict of numbers, by stands -/
def DicI (H : Hp) (d : Addr) (m : List (Std × Int)) : Prop := ∃ kvs, H d = some (.dT kvs) ∧ All2 RI m kvs
end W

set_option Elab.async false
set_option linter.all false
set_option maxRecDepth 100000
set_option maxHeartbeats 4000000
namespace PySem
open Sem (wp)
def CmpSt (prog : Program) (w : World) (A : Around) (op : CmpOp) (P : Nat → Value → Prop) (St : Nat → Heap → Prop) (bt : Nat → Nat → Bool) : Prop :=
  ∀ i j k vi vj (s : Shared) (Q : Value → Shared → Prop) (E : Value → Shared → Prop), St k s.heap → P i vi → P j vj → Q (.bool (bt i j)) s → wpAny (model prog w) A (richCompare op vi vj) Q E s
section
variable {prog : Program} {w : World} {A : Around} {R : Result → Shared → Prop} {I : Addr} {fp wr : List Addr} {n : Nat} {P : Nat → Value → Prop} {St : Nat → Heap → Prop}
end

section
variable {prog : Program} {w : World} {A : Around} {E : Value → Shared → Prop} {s : Shared}

end


end PySem
namespace L2
open PySem PySem.Spec PyProof.Rows
/-- what the heap has of a list of tuples of ints -/
def TupsHp (h : Heap) (its : List Value) (xs : List (List Int)) : Prop := ∀ (i : Nat) (v : Value), its[i]? = some v → ∃ b items, v = .ref b ∧ IsTup h b items ∧ IntsAre items.toList (xs.getD i [])
section
variable {X : Cx}
/-- min of a list of pairs -/
def rMinT (K : PySem.W.Frag) : List V → Hp → VK → Prop := fun vs H Q => ∃ (a : Addr) (qs : List Addr) (xs : List (Int × Int)), vs = [V.ref a] ∧ SqL K H a (qs.map V.ref) ∧ All2 (fun q (x : Int × Int) => H q = some (.tup [.int x.1, .int x.2])) qs xs ∧ 0 < xs.length ∧ ∀ q x, x ∈ xs → H q = some (.tup [.int x.1, .int x.2]) → (∀ y ∈ xs, x.1 < y.1 ∨ x.1 = y.1 ∧ x.2 ≤ y.2) → Q (.ref q) H
end
end L2

set_option Elab.async false
set_option linter.all false
set_option maxRecDepth 100000
set_option maxHeartbeats 4000000
namespace WM
/-- a wheel begun elsewhere -/
def rot (l : List Nat) (p : Nat) : List Nat := l.drop p ++ l.take p
end WM
namespace W
open PySem L2 WM
end W

set_option Elab.async false
set_option linter.all false
set_option maxRecDepth 100000
set_option maxHeartbeats 4000000
namespace WM
/-- a stand's number is let by -/
def hoT (l : List Nat) (s : Int) (c : Nat) (beh : List (Std × Int)) (x : Std × Int) : Bool := (tts l x.1.1 c).all fun t => decide ((lk beh (bh l x.1 t)).getD 0 ≤ x.2 + tc x.1.2 t s)
def ho (l : List Nat) (s : Int) (c : Nat) (row beh : List (Std × Int)) : Bool := row.all (hoT l s c beh)
def sto (row : List (Std × Int)) : List Std := row.map (·.1)
def firstN (pap : List (List (Std × Int))) : Int := (((pap.getD 0 []).getD 0 ((0, 0), 0)).2)
/-- a paper that is let by -/
def lb (l : List Nat) (s : Int) (o : List Nat) (rows pap : List (List (Std × Int))) : Bool :=
  decide (pap.map sto = rows.map sto) && (decide (firstN pap ≤ 0) && o.zipIdx.all fun y => ho l s y.1 (pap.getD y.2 []) (pap.getD (y.2 + 1) []))
end WM
namespace W
open PySem L2 WM
def dSt (x : Std) : PyData := d2 x.1 x.2
def dSto (xs : List Std) : PyData := .list (xs.map dSt)
def dStos (xs : List (List Std)) : PyData := .list (xs.map dSto)
/-- a list of stands in the heap -/
def StoAt (H : Hp) (a : Addr) (sts : List Std) : Prop := ∃ qs : List Addr, H a = some (.lst (qs.map V.ref)) ∧ All2 (fun q (st : Std) => H q = some (.tup [.int st.1, .int st.2])) qs sts
end W

set_option Elab.async false
set_option linter.all false
set_option maxRecDepth 100000
set_option maxHeartbeats 4000000
namespace L2
open PySem PySem.Spec PyProof.Rows
/-- a call whose answer is let fall, within try -/
def qDrop (te : TEx) : TSx := fun D R σ H => te σ H (fun _ H1 => D.nx σ H1) R
theorem px_expr {X : Cx} {e : Expr} {pos : Pos} {te : TEx} (he : PEx X e te) (hs : swapsWith e none pos.line X.env = pure false := by rfl) : PSx X (.Expr e pos) (qDrop te) := by
  intro pins s σ H D R I h
  exact wpAny_Expr_any (thn (he pins s σ H _ R I h) fun v s1 ⟨x, H1, I1, r1, q1⟩ => ⟨σ, H1, I1, q1⟩) I.quiet hs
end L2

set_option Elab.async false
set_option linter.all false
set_option maxRecDepth 100000
set_option maxHeartbeats 4000000
namespace L2
open PySem PySem.Spec PyProof.Rows
end L2
namespace WM
def up1 (r : List (Std × Int)) : List (Std × Int) := r.map fun x => (x.1, x.2 + 1)
end WM
namespace W
open PySem L2 WM
end W

set_option Elab.async false
set_option linter.all false
set_option maxRecDepth 100000
set_option maxHeartbeats 4000000
namespace WM
/-! a wheel in the glass -/
def gls (l : List Nat) : List Nat := l.getD 0 0 :: (l.drop 1).reverse
/-- the place in the glass -/
def ng (l : List Nat) (p : Int) : Int := ((l.length : Int) - p) % (l.length : Int)
/-! stands in the glass -/
def mir (l : List Nat) (st : Std) : Std := (ng l st.1, -st.2)
end WM

set_option Elab.async false
set_option linter.all false
set_option maxRecDepth 100000
set_option maxHeartbeats 4000000
namespace WM
/-! more slack -/
/-! less of the word -/
/-! each sign twice -/
def dbl (o : List Nat) : List Nat := o.flatMap fun c => [c, c]
end WM

set_option Elab.async false
set_option linter.all false
set_option maxRecDepth 100000
set_option maxHeartbeats 4000000
namespace W
open PySem L2 WM
def key3 (x : Std × Int) : List Key := [.inl x.1.1, .inl x.1.2, .inl x.2]
end W

set_option Elab.async false
set_option linter.all false
set_option maxRecDepth 100000
set_option maxHeartbeats 4000000
namespace L2
open PySem PySem.Spec PyProof.Rows
section
variable {prog : Program} {w : World} {A : Around} {E : Value → Shared → Prop} {s : Shared}
end
section
variable {X : Cx}
/-- xs[a:c] = ys, at a list -/
def rSetSl : V → Option Int → Option Int → V → Hp → (Hp → Prop) → Prop := fun o lo hi v H Q => ∃ (l b : Addr) (xs ys : List V) (a : Nat) (c : Int), o = .ref l ∧ v = .ref b ∧ lo = some (a : Int) ∧ hi = some c ∧ H l = some (.lst xs) ∧ H b = some (.lst ys) ∧ l ≠ b ∧ a ≤ xs.length ∧ (a : Int) ≤ c ∧ xs.length + ys.length ≤ sizeLine ∧ Q (upd H l (.lst (xs.take a ++ ys ++ xs.drop (min c.toNat xs.length))))
def gSubSl (to : TE) (tl th : TO) : TG := fun v σ H Q => to σ H fun o H1 => tl σ H1 fun lo H2 => th σ H2 fun hi H3 => rSetSl o lo hi v H3 fun H4 => Q σ H4
def rInsert : V → List V → Hp → VK → Prop := fun x vs H Q => ∃ (l : Addr) (xs : List V) (i : Nat) (y : V), x = .ref l ∧ vs = [.int (i : Int), y] ∧ H l = some (.lst xs) ∧ i ≤ xs.length ∧ xs.length < sizeLine ∧ Q .non (upd H l (.lst (xs.take i ++ [y] ++ xs.drop i)))
end
end L2

set_option Elab.async false
set_option linter.all false
set_option maxRecDepth 100000
set_option maxHeartbeats 4000000
namespace W
open PySem L2 WM
end W

set_option Elab.async false
set_option linter.all false
set_option maxRecDepth 100000
set_option maxHeartbeats 4000000
namespace L2
open PySem
def rListOf (K : PySem.W.Frag) : List V → Hp → VK → Prop := fun xs H Q => ∃ p ys, xs = [.ref p] ∧ (SqL K H p ys ∨ SqT K H p ys) ∧ ∀ l, H l = none → Q (.ref l) (upd H l (.lst ys))
end L2
namespace W
open PySem L2 WM
theorem cutV_from (xs : List V) {k : Nat} (h : k ≤ xs.length) : cutV xs (some (k : Int)) none = xs.drop k := by
  unfold cutV
  rw [HT.sIx_none, HT.sIx_nat, Nat.min_eq_left h]
  exact List.take_of_length_le (by rw [List.length_drop]; exact Nat.le_refl _)
end W

set_option Elab.async false
set_option linter.all false
set_option maxRecDepth 100000
set_option maxHeartbeats 4000000
namespace WM
/-- what slips add ahead of strike j -/
def sAt (sl : List (Int × Int)) (j : Int) : Int := ((sl.filter fun x => decide (x.1 = j)).map (·.2)).sum
/-- the turns by which the head really goes -/
def slt (ts : List Int) (sl : List (Int × Int)) : List Int := (List.range ts.length).map fun i => ts.getD i 0 + sAt sl (i : Int)
theorem slt_len (ts : List Int) (sl : List (Int × Int)) : (slt ts sl).length = ts.length := by unfold slt; simp
theorem slt_get {ts : List Int} {sl : List (Int × Int)} {i : Nat} {t : Int} (h : ts[i]? = some t) : (slt ts sl)[i]? = some (t + sAt sl (i : Int)) := by
  have hi := (List.getElem?_eq_some_iff.mp h).1
  unfold slt
  rw [List.getElem?_map, List.getElem?_range hi]
  show some (ts.getD i 0 + sAt sl (i : Int)) = _
  rw [List.getD_eq_getElem?_getD, h]
  rfl
theorem slt_take {ts : List Int} {sl : List (Int × Int)} {i : Nat} {t : Int} (h : ts[i]? = some t) : (slt ts sl).take (i + 1) = (slt ts sl).take i ++ [t + sAt sl (i : Int)] := by
  rw [List.take_add_one, slt_get h]; rfl
end WM
namespace L2
end L2
namespace W
open PySem L2 WM
/-- a list of pairs of ints in the heap -/
def PrAt (H : Hp) (a : Addr) (sl : List (Int × Int)) (qs : List Addr) : Prop := H a = some (.lst (qs.map V.ref)) ∧ All2 (Tr2 H) qs sl
theorem PrAt.same {H H' : Hp} {a : Addr} {sl : List (Int × Int)} {qs : List Addr} (s : Same H H') (h : PrAt H a sl qs) : PrAt H' a sl qs := ⟨s _ _ h.1, h.2.imp fun q x _ r => r.same s⟩
def dPr (sl : List (Int × Int)) : PyData := .list (sl.map fun x => d2 x.1 x.2)
end W

set_option Elab.async false
set_option linter.all false
set_option maxRecDepth 100000
set_option maxHeartbeats 4000000
namespace L2
open PySem PyProof.Rows
/-! a set of texts: how its table keeps its marks -/
section
variable {prog : Program} {w : World} {A : Around} {E : Value → Shared → Prop} {s : Shared}
/-- the object of a set of texts -/
structure TxEs (prog : Program) (w : World) (es : Array (Int × Value)) (t : SetTable) (xs : List Str) (led : Bool) : Prop where
  el : ElemsOf (PySem.strKind prog w) es.toList
  st : StrsAre (es.toList.map (·.2)) xs
  sm : es.size < scanBound
  ft : t.fits es.size = true
  ld : t.led = led
  pl : es.size = 0 ∨ t.plain = false
def setObj (es : Array (Int × Value)) (ep : Nat) (t : SetTable) : Obj := { cls := .type "set", dict := none, data := .set es ep t }
def TxSet (prog : Program) (w : World) (h : Heap) (a : Addr) (xs : List Str) (led : Bool) : Prop := ∃ es ep t, h.get? a = some (setObj es ep t) ∧ TxEs prog w es t xs led
end
end L2

set_option Elab.async false
set_option linter.all false
set_option maxRecDepth 100000
set_option maxHeartbeats 4000000
namespace L2
open PySem PyProof.Rows
section
variable {prog : Program} {w : World} {A : Around} {E : Value → Shared → Prop} {s : Shared}
/-- is the order of sets given by the text -/
def byT (w : World) : Bool := w.params.followText "set-order"
def set0 (w : World) : Obj := setObj #[] 0 (.fresh 0 0 (!byT w))
end
end L2

set_option Elab.async false
set_option linter.all false
set_option maxRecDepth 100000
set_option maxHeartbeats 4000000
namespace L2
open PySem PyProof.Rows
/-- the texts met, each once -/
structure Once (val : Nat → Str) (n : Nat) (xs : List Str) : Prop where
  nd : xs.Nodup
  mem : ∀ x, x ∈ xs ↔ ∃ i, i < n ∧ val i = x
section
variable {prog : Program} {w : World} {A : Around} {R : Result → Shared → Prop} {I : Addr} {fp wr : List Addr} {G : Array GenState → Array GenState → Prop} {n : Nat} {P : Nat → Value → Prop} {St : Nat → Shared → Prop}
end
section
variable {prog : Program} {w : World} {A : Around} {E : Value → Shared → Prop} {s : Shared}
end
end L2

set_option Elab.async false
set_option linter.all false
set_option maxRecDepth 100000
set_option maxHeartbeats 4000000
namespace L2
open PySem PyProof.Rows
/-! walking over a set of texts -/
section
variable {prog : Program} {w : World} {A : Around} {E : Value → Shared → Prop} {s : Shared}
/-- the iterator's object -/
def itO (f : Value) (i : Nat) (a : Addr) (n ep : Nat) : Obj := { cls := .type "set_iterator", data := .fields #[f, .int i 0, .ref a, .int n 0, .int ep 0] }
end
end L2

set_option Elab.async false
set_option linter.all false
set_option maxRecDepth 100000
set_option maxHeartbeats 4000000
namespace L2
open PySem PyProof.Rows
section
variable {prog : Program} {w : World} {A : Around} {E : Value → Shared → Prop} {s : Shared}
/-- drawn places: a turn, and the end -/
def plO (ps : List Nat) : Obj := { cls := .type "tuple", data := .seq (ps.map fun (i : Nat) => rawInt i).toArray }
end
end L2

set_option Elab.async false
set_option linter.all false
set_option maxRecDepth 100000
set_option maxHeartbeats 4000000
namespace L2
open PySem PyProof.Rows
def at2 (es : Array (Int × Value)) (p : Nat) : Option Value := (es[p]?).map fun e => e.2
section
variable {prog : Program} {w : World} {A : Around} {E : Value → Shared → Prop} {s : Shared}
/-- what a walk over a set of texts is -/
structure SetWalk (prog : Program) (w : World) (a : Addr) (xs : List Str) (s s1 : Shared) (I : Addr) (fp : List Addr) (ord : List Value) (ys : List Str) (St : Nat → Shared → Prop) : Prop where
  pm : ys.Perm xs
  st : StrsAre ord ys
  wk : ∀ A' : Around, A'.handled = none → WalksS prog w A' I fp [I] (fun a b => b = a) xs.length (fun i v => ord[i]? = some v) St
  s0 : St 0 s1
  lt : ∀ b ∈ fp, b < s1.heap.objs.size
  ii : I ∈ fp
  new : s.heap.objs.size ≤ I
  own : ∀ b ∈ fp, b = a ∨ s.heap.objs.size ≤ b
  eq : ∃ h d, s1 = { s with heap := h, drawn := d } ∧ ∀ b o, s.heap.get? b = some o → h.get? b = some o
end
end L2

set_option Elab.async false
set_option linter.all false
set_option maxRecDepth 100000
set_option maxHeartbeats 4000000
namespace L2
open PySem PyProof.Rows
section
variable {prog : Program} {w : World} {A : Around} {E : Value → Shared → Prop} {s : Shared}
end
end L2

set_option Elab.async false
set_option linter.all false
set_option maxRecDepth 100000
set_option maxHeartbeats 4000000
namespace L2
open PySem PyProof.Rows
section
variable {X : Cx} {pins : List (Addr × Obj)} {σ : St} {H : Hp} {s : Shared}
end
/-- where the texts come from -/
def SrcOf (K : PySem.W.Frag) (H : Hp) (vs : List V) (ts : List Str) : Prop := (∃ z : Str, vs = [.str z] ∧ ts = z.cps.toList.map fun c => (⟨#[c]⟩ : Str)) ∨ ∃ a, vs = [.ref a] ∧ SqL K H a (ts.map V.str)
def tSortSet (K : PySem.W.Frag) (t : TA) : TE := fun σ H Q => t σ H fun vs H1 => ∃ ts : List Str, SrcOf K H1 vs ts ∧ ts.length < 4000 ∧ ∀ (ys : List Str) (p : Addr), ys.Nodup → (∀ x, x ∈ ys ↔ x ∈ ts) → sortedS ys = true → H1 p = none → Q (.ref p) (upd H1 p (.lst (ys.map V.str)))
def tLenSet (K : PySem.W.Frag) (t : TA) : TE := fun σ H Q => t σ H fun vs H1 => ∃ ts : List Str, SrcOf K H1 vs ts ∧ ts.length < 4000 ∧ ∀ (ys : List Str), ys.Nodup → (∀ x, x ∈ ys ↔ x ∈ ts) → Q (.int ys.length) H1
section
variable {X : Cx} {e : Expr} {t : TA} {p1 p2 pos pos2 : Pos}
end
end L2

set_option Elab.async false
set_option linter.all false
set_option maxRecDepth 100000
set_option maxHeartbeats 4000000
namespace WM
/-- the signs that turns strike from a place -/
def stkP (l : List Nat) (p : Int) (ts : List Int) : Int × List Nat := ts.foldl (fun q t => ((q.1 + t) % (l.length : Int), q.2 ++ [l.getD ((q.1 + t) % (l.length : Int)).toNat 0])) (p, [])
/-- the word from each place -/
def wds (l : List Nat) (ts : List Int) : List (List Nat) := (List.range l.length).map fun k => (stkP l (k : Nat) ts).2
/-- where the head may have stood -/
def plb (l : List Nat) (ts : List Int) (o : List Nat) : List Nat := (List.range l.length).filter fun k => decide ((stkP l (k : Nat) ts).2 = o)
/-- are all words unlike -/
def apart (l : List Nat) (ts : List Int) : Bool := decide ((wds l ts).Nodup)
/-- what is refused of a report of turns -/
def rep (l o : List Nat) (ts : List Int) : Nat := if W.isWh l = false then 11 else if W.isW o = false then 12 else if ts.length ≠ o.length then 10 else 99
def kdr (n : Nat) : PySem.Str := if n = 11 then "NoWheel+" else if n = 12 then "NoWord+" else if n = 10 then "NoTurns+" else if n = 0 then "Lacks+" else ""
end WM
namespace L2
open PySem PySem.Spec PyProof.Rows
def CDivW (_ j : Int) : Prop := 0 < j ∧ j < 2 ^ 200
end L2
namespace W
open PySem L2 WM
def spDrawW : Sp := fun vs H Q _ => ∃ (p : Addr) (m : Int), vs = [.ref p, .int m] ∧ DrAt H p ∧ (0 < m ∧ m < 2 ^ 200) ∧ ∀ (r : Int) (H' : Hp), 0 ≤ r → r < m → DrAt H' p → But p H H' → Q (.int r) H'
end W

set_option Elab.async false
set_option linter.all false
set_option maxRecDepth 100000
set_option maxHeartbeats 4000000
namespace L2
open PySem PyProof.Rows
/-! min, max of two texts -/
def ltS (a b : Str) : Bool := decide (a.cps.toList < b.cps.toList)
section
variable {prog : Program} {w : World} {A : Around} {E : Value → Shared → Prop} {s : Shared}
def valTwo (a b : Str) (i : Nat) : Str := if i = 0 then a else b
end
section
variable {X : Cx}
/-! sorted of any number of texts -/
def rSortedSA (K : PySem.W.Frag) : List V → Hp → VK → Prop := fun vs H Q => ∃ (a : Addr) (xs : List Str), vs = [V.ref a] ∧ SqL K H a (xs.map V.str) ∧ xs.length ≤ sizeLine ∧
  ∀ (ys : List Str) (p : Addr), ys.Perm xs → sortedS ys = true → H p = none → Q (.ref p) (upd H p (.lst (ys.map V.str)))
/-! list(d), d a dict with texts or ints as keys -/
def rListDK : List V → Hp → VK → Prop := fun vs H Q => ∃ (d : Addr) (kvs : List (Key × V)), vs = [V.ref d] ∧ H d = some (.dK kvs) ∧ ∀ p : Addr, H p = none → Q (.ref p) (upd H p (.lst (kvs.map fun kv => kV kv.1)))
end
end L2

set_option Elab.async false
set_option linter.all false
set_option maxRecDepth 100000
set_option maxHeartbeats 4000000
namespace WM
/-! counts by pairs of signs -/
abbrev Pr := Nat × Nat
section
variable {α : Type} [DecidableEq α]
def cnP (xs : List α) (k : α) : Nat := xs.countP fun x => decide (x = k)
def lkP (m : List (α × Int)) (k : α) : Option Int := (m.find? fun x => decide (x.1 = k)).map (·.2)
def ptP (m : List (α × Int)) (k : α) (v : Int) : List (α × Int) := if (m.any fun x => decide (x.1 = k)) = true then m.map (fun x => if x.1 = k then (x.1, v) else x) else m ++ [(k, v)]
structure CntM (m : List (α × Int)) (xs : List α) : Prop where
  nd : (m.map (·.1)).Nodup
  mem : ∀ k n, (k, n) ∈ m ↔ (n = (cnP xs k : Int) ∧ 0 < cnP xs k)
end
section
open L2
variable {α κ : Type} [DecidableEq α] [DecidableEq κ] (kf : α → κ) (inj : ∀ a b, kf a = kf b → a = b)
/-- counts as a dict has them -/
def entK (m : List (α × Int)) : List (κ × V) := m.map fun x => (kf x.1, V.int x.2)
include inj
end
/-- neighbours in a word, the lesser sign first -/
def adjP (p : Pr) : Pr := (min p.1 p.2, max p.1 p.2)
def adj (w : List Nat) : List Pr := ((w.zip (w.drop 1)).filter fun p => decide (p.1 ≠ p.2)).map adjP
def adjU (w : List Nat) (i : Nat) : List Pr := (((w.zip (w.drop 1)).take i).filter fun p => decide (p.1 ≠ p.2)).map adjP
def adjs (bk : List (List Nat)) : List Pr := bk.flatMap adj
/-- what comes first -/
def pLt (a b : Pr) : Prop := a.1 < b.1 ∨ (a.1 = b.1 ∧ a.2 < b.2)
/-- the pairs of a book, told -/
structure IsPrs (xs : List Pr) (ps : List (Pr × Int)) : Prop where
  srt : ps.Pairwise fun a b => pLt a.1 b.1
  mem : ∀ k n, (k, n) ∈ ps ↔ (n = (cnP xs k : Int) ∧ 0 < cnP xs k)
/-- a cut -/
def cutV' (ps : List (Pr × Int)) (sg : List Nat) : Int := ((ps.filter fun x => decide (x.1.1 ∈ sg) != decide (x.1.2 ∈ sg)).map (·.2)).sum
/-- the signs of a book -/
def IsSg (bk : List (List Nat)) (sg : List Nat) : Prop := sg.Pairwise (· < ·) ∧ ∀ c, c ∈ sg ↔ c ∈ bk.flatten
end WM

set_option Elab.async false
set_option linter.all false
set_option maxRecDepth 100000
set_option maxHeartbeats 4000000
namespace W
open PySem L2 WM PyProof.Rows
def wkey (p : Pr) : Key := .inr (txt [p.1, p.2])
def tkey (p : Pr) : List Key := [.inr (txt [p.1]), .inr (txt [p.2])]
/-! sorted texts -/
/-! books in the heap -/
def isBk (bk : List (List Nat)) : Bool := decide (bk.length ≤ 20) && bk.all isW
/-- a pair of signs with its count -/
def Tr3s (H : Hp) (q : Addr) (x : Pr × Int) : Prop := H q = some (.tup [.str (txt [x.1.1]), .str (txt [x.1.2]), .int x.2])
def PrsAt (H : Hp) (a : Addr) (ps : List (Pr × Int)) (qs : List Addr) : Prop := H a = some (.lst (qs.map V.ref)) ∧ All2 (Tr3s H) qs ps
def d3s (x : Pr × Int) : PyData := .tuple [.str (txt [x.1.1]), .str (txt [x.1.2]), .int x.2]
def dPrs (ps : List (Pr × Int)) : PyData := .list (ps.map d3s)
end W
namespace W
open PySem L2 WM
/-- a dict of counts by tuples, by texts of two signs -/
def CntT (H : Hp) (d : Addr) (xs : List Pr) (m : List (Pr × Int)) : Prop := H d = some (.dT (entK tkey m)) ∧ CntM m xs
def CntW (H : Hp) (d : Addr) (xs : List Pr) (m : List (Pr × Int)) : Prop := H d = some (.dK (entK wkey m)) ∧ CntM m xs
end W

set_option Elab.async false
set_option linter.all false
set_option maxRecDepth 100000
set_option maxHeartbeats 4000000
namespace L2
open PySem WM
section
variable {D : Addr} {g : TG} {tt : TT} {te : TE} {vs : List Nat} {σ : St} {H1 : Hp} {Qd : Hp → Prop} {α : Type}
end
section
variable {g : TG} {tb : TS} {D : Ends} {σ : St} {H : Hp}
end
end L2
namespace W
open PySem L2 WM
end W

set_option Elab.async false
set_option linter.all false
set_option maxRecDepth 100000
set_option maxHeartbeats 4000000
namespace L2
open PySem PySem.Spec PyProof.Rows
section
variable {X : Cx}
/-- text.index(sign), where the sign is there -/
def rIndexS : V → List V → Hp → VK → Prop := fun x xs H Q => ∃ (z : Str) (c : Nat), x = V.str z ∧ xs = [V.str ⟨#[c]⟩] ∧ c ∈ z.cps.toList ∧ Q (.int (z.cps.toList.idxOf c : Nat)) H
/-- sorted(text) -/
def rSortedT1 : List V → Hp → VK → Prop := fun vs H Q => ∃ z : Str, vs = [V.str z] ∧ z.length ≤ sizeLine ∧
  ∀ (ys : List Str) (p : Addr), ys.Perm (z.cps.toList.map fun c => (⟨#[c]⟩ : Str)) → sortedS ys = true → H p = none → Q (.ref p) (upd H p (.lst (ys.map V.str)))
end
/-- f(g(..)) within try, f built in, g may raise -/
def qB1 (r : List V → Hp → VK → Prop) (te : TEx) : TEx := fun σ H Q R => te σ H (fun v H1 => r [v] H1 Q) R
end L2

set_option Elab.async false
set_option linter.all false
set_option maxRecDepth 100000
set_option maxHeartbeats 4000000
namespace W
open PySem L2 WM PyProof.Rows
/-- an order of a book's signs -/
def IsOrd (bk : List (List Nat)) (l : List Nat) : Prop := l.Nodup ∧ ∀ c, c ∈ l ↔ c ∈ bk.flatten
/-! places -/
def skey (c : Nat) : Key := .inr (txt [c])
def plcs (l : List Nat) : List (Nat × Int) := l.zipIdx.map fun x => (x.1, (x.2 : Int))
/-! reach and spread -/
def wyR (n a b : Int) : Int := min (if a - b < 0 then -(a - b) else a - b) (n - (if a - b < 0 then -(a - b) else a - b))
def rchV (l : List Nat) (ps : List (Pr × Int)) : Int := (ps.map fun x => x.2 * wyR l.length (l.idxOf x.1.1) (l.idxOf x.1.2)).sum
def sprV (l : List Nat) (ps : List (Pr × Int)) : Int := (ps.map fun x => x.2 * (if (l.idxOf x.1.1 : Int) - (l.idxOf x.1.2 : Int) < 0 then -((l.idxOf x.1.1 : Int) - (l.idxOf x.1.2 : Int)) else (l.idxOf x.1.1 : Int) - (l.idxOf x.1.2 : Int))).sum
/-- the halves of an order -/
def hlv (l : List Nat) : List (List Nat) := (List.range l.length).map fun i => ((l ++ l).drop i).take (l.length / 2)
end W

set_option Elab.async false
set_option linter.all false
set_option maxRecDepth 100000
set_option maxHeartbeats 4000000
namespace W
open PySem L2 WM PyProof.Rows
/-! counting -/
def sumN (f : Nat → Nat) : Nat → Nat
  | 0 => 0
  | n + 1 => sumN f n + f n
def iv (lo hi : Int) (i : Nat) : Nat := if lo < (i : Int) ∧ (i : Int) ≤ hi then 1 else 0
/-! places -/
/-! windows that hold just one of two places -/
def xr (p q : Prop) [Decidable p] [Decidable q] : Bool := decide p != decide q
def inHalf (a n k i : Nat) : Prop := (i ≤ a ∧ a < i + k) ∨ a + n < i + k
instance (a n k i : Nat) : Decidable (inHalf a n k i) := by unfold inHalf; infer_instance
/-! orders turned and from the end -/
end W

set_option Elab.async false
set_option linter.all false
set_option maxRecDepth 100000
set_option maxHeartbeats 4000000
namespace W
open PySem L2 WM PyProof.Rows
/-! wheels with each sign once, no slack -/
noncomputable def cW (l : List Nat) : List Nat → Nat → Int
  | [], _ => 0
  | c :: o, p => wyR l.length p (l.idxOf c) + cW l o (l.idxOf c)
noncomputable def cM (l : List Nat) : List Nat → Nat → Int
  | [], _ => 1
  | c :: o, p => (if 2 * (if (p : Int) - (l.idxOf c : Int) < 0 then -((p : Int) - (l.idxOf c : Int)) else (p : Int) - (l.idxOf c : Int)) = (l.length : Int) then 2 else 1) * cM l o (l.idxOf c)
/-! reach as the sum of the words' costs -/
noncomputable def wyP (l : List Nat) (x : Pr) : Int := wyR l.length (l.idxOf x.1) (l.idxOf x.2)
noncomputable def wCost (l w : List Nat) : Int := match w with | [] => 0 | a :: r => cW l (a :: r) (l.idxOf a)
end W

set_option Elab.async false
set_option linter.all false
set_option maxRecDepth 100000
set_option maxHeartbeats 4000000
/-! min of a list of tuples of ints and texts, all of one kind place by place -/
namespace L2
open PySem PySem.Spec PyProof.Rows
def kKind : Key → Bool
  | .inl _ => false
  | .inr _ => true
def kLt (a b : List Key) : Bool := PyProof.Rows.lexLt PyProof.Rows.itemOrd (a.map kItem) (b.map kItem)
section
open PySem.SeqAt
open PySem.AutoSeq1 (wpAny_loadPart')
open PySem.MeetsSeq PySem.MeetsSeq2 PySem.MeetsSeq3
end
section
variable {prog : Program} {w : World} {A : Around} {E : Value → Shared → Prop} {s : Shared}
end
/-- what the heap has of a list of tuples of keys -/
def KeysHp (h : Heap) (its : List Value) (xs : List (List Key)) : Prop := ∀ (i : Nat) (v : Value), its[i]? = some v → ∃ b items, v = .ref b ∧ IsTup h b items ∧ Vals ((xs.getD i []).map kV) items.toList
section
variable {X : Cx}
/-- min of a list of tuples of keys, told from what is known of the least one -/
def rMinK (K : PySem.W.Frag) : List V → Hp → VK → Prop := fun vs H Q => ∃ (a : Addr) (qs : List Addr) (kss : List (List Key)) (sh : List Bool), vs = [V.ref a] ∧ SqL K H a (qs.map V.ref) ∧ TupsAt H qs kss ∧ (∀ ks ∈ kss, ks.map kKind = sh) ∧ 0 < kss.length ∧ ∀ q ks, ks ∈ kss → H q = some (.tup (ks.map kV)) → (∀ ms ∈ kss, kLt ms ks = false) → Q (.ref q) H
end
end L2

set_option Elab.async false
set_option linter.all false
set_option maxRecDepth 100000
set_option maxHeartbeats 4000000
/-! loops of comprehensions with two clauses: one rule for each source, whatever a turn does -/
namespace L2
open PySem WM
section
variable {K : PySem.W.Frag} {a : Addr} {B : V → Hp → (Hp → Prop) → Prop} {S : Hp} {Qd : Hp → Prop}
end
end L2

set_option Elab.async false
set_option linter.all false
set_option maxRecDepth 100000
set_option maxHeartbeats 4000000
/-! a wheel with one sign more -/
namespace WM
open PySem L2 W
def wmore (l : List Nat) (p c : Nat) : List Nat := l.take p ++ [c] ++ l.drop p
def IsSo (o sg : List Nat) : Prop := sg.Pairwise (· < ·) ∧ ∀ c, c ∈ sg ↔ c ∈ o
def lck (l sg : List Nat) : List Nat := sg.filter fun c => !decide (c ∈ l)
def toAdd (l sg : List Nat) : List Nat := if lck l sg = [] then sg else lck l sg
/-- two signs of o that l lacks -/
def TwoL (l o : List Nat) : Prop := ∃ a ∈ o, ∃ b ∈ o, a ∉ l ∧ b ∉ l ∧ a ≠ b
/-- a try: its cost, its place, its sign -/
abbrev Try := Int × Nat × Nat
def tKey (t : Try) : List Key := [.inl t.1, .inl (t.2.1 : Int), .inr (txt [t.2.2])]
noncomputable def tCost (l o : List Nat) (s : Int) (p c : Nat) : Try := ((nd (wmore l p c) s o (0, 0)).1, p, c)
/-- the best of all tries -/
structure IsBest (l o : List Nat) (s : Int) (t : Try) : Prop where
  mem : ∃ p c, p ≤ l.length ∧ c ∈ o ∧ (∀ x ∈ o, x ∈ wmore l p c) ∧ t = tCost l o s p c
  low : ∀ p c, p ≤ l.length → c ∈ o → (∀ x ∈ o, x ∈ wmore l p c) → kLt (tKey (tCost l o s p c)) (tKey t) = false
open Classical in
/-- what is refused of a sign more, or 99 -/
noncomputable def bmr (l o : List Nat) (s : Int) : Nat := if isWh l = false then 11 else if isW o = false then 12 else if okS s = false then 8 else if l.length ≤ 12 ∧ 1 ≤ o.length ∧ o.length ≤ 20 then (if TwoL l o then 0 else 99) else 13
def kn (n : Nat) : Str := if n = 11 then "NoWheel+" else if n = 12 then "NoWord+" else if n = 8 then "NoSlack+" else if n = 0 then "Lacks+" else "TooMany+"
end WM

set_option Elab.async false
set_option linter.all false
set_option maxRecDepth 100000
set_option maxHeartbeats 4000000
/-! strikers: deeds one after another, and what they come to -/
namespace WM
open PySem L2
/-- the stand behind some turns -/
def stdL (l : List Nat) (ts : List Int) : Std := ts.foldl (bh l) (0, 0)
end WM
namespace W
open PySem L2 WM
/-! a method that may be called -/
def CalM (P : Program) (w : World) (K : PySem.W.Frag) (mg : Str → Option Value) (base : Heap) (CX : CXT) (k : Nat) (C : Addr) (m : Str) (ps : List Str) (sp : Sp) : Prop :=
  ∃ f fd, FnOk P w K mg base CX k f fd ps sp ∧ Binds K fd ps [] ∧ Meth K C m f
def DefM (K : PySem.W.Frag) (C : Addr) (m qual : Str) (st : Stmt) (ps : List Str) : Prop := ∃ f fd, Fun K m qual st f fd ∧ Binds K fd ps [] ∧ Meth K C m f
/-- a class of one's own, as it is made -/
def CalC (P : Program) (w : World) (K : PySem.W.Frag) (mg : Str → Option Value) (base : Heap) (CX : CXT) (k : Nat) (C : Addr) (x : Str) (ps : List Str) (sp : Sp) : Prop :=
  ∃ f fd, FnOk P w K mg base CX k f fd ps sp ∧ Binds K fd ps [] ∧ Mk K C f ∧ mg x = some (.ref C)
/-- the attributes of a striker, in the order in which they are stored -/
def sflds (l : List Nat) (s : Int) (d : Addr) : List (Str × V) := putF "deeds" (.ref d) (putF "slack" (.int s) (putF "wheel" (.str (txt l)) []))
/-- what the class has -/
structure SCls (K : PySem.W.Frag) (C : Addr) : Prop where
  cl : Cls K C
  nW : NoAttr K C "wheel"
  nS : NoAttr K C "slack"
  nD : NoAttr K C "deeds"
section
variable {K : PySem.W.Frag}
/-- one deed at q: pre the turns ahead of it, ts its own -/
def DeedAt (K : PySem.W.Frag) (H : Hp) (l : List Nat) (s : Int) (pre ts : List Int) (q : Addr) : Prop := ∃ (tq sq : Addr) (sg : List Nat), H q = some (.tup [.ref tq, .str (txt sg), .ref sq, .int (cf s (pre ++ ts)).1]) ∧ SqT K H tq (ts.map V.int) ∧
  SqT K H sq [.int (stdL l (pre ++ ts)).1, .int (stdL l (pre ++ ts)).2] ∧ (stk l pre).2 ++ sg = (stk l (pre ++ ts)).2
inductive Deeds (K : PySem.W.Frag) (H : Hp) (l : List Nat) (s : Int) : List Addr → List (List Int) → Prop
  | nil : Deeds K H l s [] []
  | snoc {qs : List Addr} {tss : List (List Int)} {q : Addr} {ts : List Int} : Deeds K H l s qs tss → DeedAt K H l s tss.flatten ts q → Deeds K H l s (qs ++ [q]) (tss ++ [ts])
/-- a striker at x, its deeds at d -/
structure StrAt (K : PySem.W.Frag) (C : Addr) (H : Hp) (x d : Addr) (l : List Nat) (s : Int) (tss : List (List Int)) : Prop where
  ob : ∃ dx, H x = some (.ins C dx (sflds l s d))
  ds : ∃ qs, H d = some (.lst (qs.map V.ref)) ∧ Deeds K H l s qs tss
end
end W

set_option Elab.async false
set_option linter.all false
set_option maxRecDepth 100000
set_option maxHeartbeats 4000000
/-! plans from any stand, gone through on the wheel turned -/
namespace WM
open PySem L2 W
/-- costs from a way, turn by turn -/
def cwf (s : Int) (w : Int) (ts : List Int) : Int × Int := ts.foldl (fun p t => (p.1 + tc p.2 t s, wb p.2 t)) (0, w)
end WM

set_option Elab.async false
set_option linter.all false
set_option maxRecDepth 100000
set_option maxHeartbeats 4000000
/-! methods that may raise, and classes whose __init__ may, within a try -/
namespace L2
open PySem PySem.Spec PyProof.Rows
section
variable {X : Cx} {C f : Addr} {k : Nat} {fd : FuncData} {ps : List Str} {sp : Sp} {m x : Str} {p pos apos : Pos} {e o : Expr} {es : List Expr} {ta : TE} {t : TA}
def qMeth (C : Addr) (m : Str) (sp : Sp) (ta : TE) (t : TA) : TEx := fun σ H Q R => ta σ H fun x H1 => ∃ a dx fs, x = .ref a ∧ H1 a = some (.ins C dx fs) ∧ fs.lookup m = none ∧ t σ H1 fun vs H2 => sp (x :: vs) H2 Q fun c _ H2 => ∃ C, c = .ref C ∧ R σ C H2
def qMake (C : Addr) (sp : Sp) (t : TA) : TEx := fun σ H Q R => t σ H fun vs H1 => ∀ x dx, H1 x = none → H1 dx = none → dx ≠ x → sp (.ref x :: vs) (upd (upd H1 dx (.own x)) x (.ins C dx [])) (fun v H2 => v = .non ∧ Q (.ref x) H2) fun c _ H2 => ∃ C, c = .ref C ∧ R σ C H2
/-- isinstance(t, tuple) of a tuple, tracked or the module's own -/
def rIsiT (K : PySem.W.Frag) : List V → Hp → VK → Prop := fun xs H Q => ∃ (a : Addr) (ys : List V), xs = [.ref a, .ty "tuple"] ∧ SqT K H a ys ∧ Q (.bl true) H
end
end L2

set_option Elab.async false
set_option linter.all false
set_option maxRecDepth 100000
set_option maxHeartbeats 4000000
/-! rows of stands that are reached, and what is left from each -/
namespace WM
open PySem L2
/-- reached behind k signs of o, from st -/
def Rch (l o : List Nat) (st : Std) : Nat → Std → Prop
  | 0, x => x = st
  | k + 1, x => ∃ y t c, Rch l o st k y ∧ o[k]? = some c ∧ t ∈ tts l y.1 c ∧ x = bh l y t
end WM
namespace W
open PySem L2 WM
/-- a dict of truths, by stands -/
def RB (x : Std × Bool) (kv : List Key × V) : Prop := kv = (key x.1, .bl x.2)
def DicB (H : Hp) (d : Addr) (m : List (Std × Bool)) : Prop := ∃ kvs, H d = some (.dT kvs) ∧ All2 RB m kvs
end W

set_option Elab.async false
set_option linter.all false
set_option maxRecDepth 100000
set_option maxHeartbeats 4000000
namespace WM
/-! the least of pairs, and the sum of what goes with it -/
structure GBest (xs : List (Int × Int)) (r : Int × Int) : Prop where
  mem : r.1 ∈ xs.map (·.1)
  le : ∀ y ∈ xs.map (·.1), r.1 ≤ y
  cnt : r.2 = ((xs.filter fun x => decide (x.1 = r.1)).map (·.2)).sum
def lmin : List Int → Int
  | [] => 0
  | [x] => x
  | x :: y :: r => if x ≤ lmin (y :: r) then x else lmin (y :: r)
theorem lmin_ok : ∀ {xs : List Int}, xs ≠ [] → lmin xs ∈ xs ∧ ∀ y ∈ xs, lmin xs ≤ y
  | [], h => absurd rfl h
  | [x], _ => ⟨List.mem_cons_self, fun y hy => by rw [List.mem_singleton.mp hy]; exact Int.le_refl _⟩
  | x :: y :: r, _ => by
    obtain ⟨h1, h2⟩ := lmin_ok (xs := y :: r) (by simp)
    show (if x ≤ lmin (y :: r) then x else lmin (y :: r)) ∈ _ ∧ ∀ z ∈ _, (if x ≤ lmin (y :: r) then x else lmin (y :: r)) ≤ z
    by_cases h : x ≤ lmin (y :: r)
    · rw [if_pos h]
      refine ⟨List.mem_cons_self, fun z hz => ?_⟩
      rcases List.mem_cons.mp hz with rfl | hz
      · exact Int.le_refl _
      · exact Int.le_trans h (h2 z hz)
    · rw [if_neg h]
      refine ⟨List.mem_cons_of_mem _ h1, fun z hz => ?_⟩
      rcases List.mem_cons.mp hz with rfl | hz
      · omega
      · exact h2 z hz
theorem lmin_uniq {xs : List Int} {k : Int} (h1 : k ∈ xs) (h2 : ∀ y ∈ xs, k ≤ y) : k = lmin xs := by
  obtain ⟨a, b⟩ := lmin_ok (xs := xs) (fun e => by rw [e] at h1; cases h1)
  exact Int.le_antisymm (h2 _ a) (b _ h1)
def bst (xs : List (Int × Int)) : Int × Int := (lmin (xs.map (·.1)), ((xs.filter fun x => decide (x.1 = lmin (xs.map (·.1)))).map (·.2)).sum)
theorem bst_ok {xs : List (Int × Int)} (h : xs ≠ []) : GBest xs (bst xs) := by
  obtain ⟨a, b⟩ := lmin_ok (xs := xs.map (·.1)) (by simpa using h)
  exact ⟨a, b, rfl⟩
theorem bst_uniq {xs : List (Int × Int)} {k c : Int} (h1 : k ∈ xs.map (·.1)) (h2 : ∀ y ∈ xs.map (·.1), k ≤ y) (h3 : c = ((xs.filter fun x => decide (x.1 = k)).map (·.2)).sum) : (k, c) = bst xs := by
  have hk := lmin_uniq h1 h2
  unfold bst
  rw [← hk, h3]
/-! moves from state to state that strike a word -/
section
variable {σ μ : Type} (mv : σ → Nat → List (μ × σ)) (ct : μ → Int)
def gP : List Nat → σ → List (List μ)
  | [], _ => [[]]
  | c :: o, s => (mv s c).flatMap fun m => (gP o m.2).map (m.1 :: ·)
def gC (ms : List μ) : Int := (ms.map ct).sum
def gCs (o : List Nat) (s : σ) : List Int := (gP mv o s).map (gC ct)
def gN : List Nat → σ → Int × Int
  | [], _ => (0, 1)
  | c :: o, s => bst ((mv s c).map fun m => (ct m.1 + (gN o m.2).1, (gN o m.2).2))
def gFit (c : Nat) (o : List Nat) (s : σ) : List (μ × σ) := (mv s c).filter fun m => decide (ct m.1 + (gN mv ct o m.2).1 = (gN mv ct (c :: o) s).1)
def gF : List Nat → σ → List μ
  | [], _ => []
  | c :: o, s => match gFit mv ct c o s with
    | [] => []
    | m :: _ => m.1 :: gF o m.2
/-- the least of a list, and how often it is there -/
structure GNd (xs : List Int) (x : Int × Int) : Prop where
  mem : x.1 ∈ xs
  le : ∀ y ∈ xs, x.1 ≤ y
  cnt : x.2 = (xs.count x.1 : Nat)
/-- the word can be struck on from each state that is reached -/
def gOk (S : σ → Prop) (o : List Nat) : Prop := ∀ s, S s → ∀ c ∈ o, mv s c ≠ [] ∧ ∀ m ∈ mv s c, S m.2
end
/-! some moves are enough -/
section
variable {σ μ : Type} {mv mw : σ → Nat → List (μ × σ)} {ct : μ → Int}
/-- mw: some of the moves of mv; for each other one there is one to the same state that costs less -/
def Enough (mv mw : σ → Nat → List (μ × σ)) (ct : μ → Int) (S : σ → Prop) : Prop := ∀ s, S s → ∀ c, ∃ p : μ × σ → Bool, mw s c = (mv s c).filter p ∧ ∀ m ∈ mv s c, p m = false → ∃ n ∈ mv s c, p n = true ∧ n.2 = m.2 ∧ ct n.1 < ct m.1
end
end WM

set_option Elab.async false
set_option linter.all false
set_option maxRecDepth 100000
set_option maxHeartbeats 4000000
namespace PySem.F
open PySem
end PySem.F

set_option Elab.async false
set_option linter.all false
set_option maxRecDepth 100000
set_option maxHeartbeats 4000000
namespace L2
open PySem PySem.Spec PyProof.Rows
def rvsObj (x : Str) (t : Tok) (i : Int) : Obj := { cls := .type "reversed", data := .fields #[.str x t, rawInt i] }
def IsRvs (h : Heap) (a : Addr) (x : Str) (t : Tok) (i : Int) : Prop := ∃ o, h.get? a = some o ∧ o.cls = .type "reversed" ∧ o.data = .fields #[.str x t, rawInt i]
section
variable {prog : Program} {w : World} {A : Around} {E : Value → Shared → Prop} {s : Shared}
end
end L2
namespace L2
open PySem PySem.Spec PyProof.Rows
/-! for sign in reversed(text) -/
def Itrs (x : Str) : It := ⟨fun i _ => i < x.cps.size, fun i H v H' => H' = H ∧ ∃ c, x.cps[x.cps.size - 1 - i]? = some c ∧ v = .str ⟨#[c]⟩, fun i _ => x.cps.size ≤ i⟩
def iRevS (ta : TA) : TI := fun σ H R => ta σ H fun vs H1 => ∃ x : Str, vs = [.str x] ∧ x.length ≤ sizeLine ∧ R (Itrs x) H1
section
variable {X : Cx} {tg : Expr}
end
section
variable {g : TG} {tb : TS} {D : Ends} {σ : St} {H : Hp}
open WM
end
end L2

set_option Elab.async false
set_option linter.all false
set_option maxRecDepth 100000
set_option maxHeartbeats 4000000
namespace L2
open PySem PySem.Spec PyProof.Rows
/-! t + u, any of them perhaps empty -/
section
variable {prog : Program} {w : World} {A : Around} {E : Value → Shared → Prop} {s : Shared}
end
section
variable {X : Cx}
def rCatG : R2 := fun x y H Q => ∃ a b xs ys, x = .ref a ∧ y = .ref b ∧ H a = some (.tup xs) ∧ H b = some (.tup ys) ∧ xs.length + ys.length ≤ sizeLine ∧
  ∀ p H', Same H H' → H' p = some (.tup (xs ++ ys)) → Q (.ref p) H'
def ipM : TIp := fun x y H Q => ∃ i j, x = .int i ∧ y = .int j ∧ CMul i j ∧ Q (.int (i * j)) H
end
end L2

set_option Elab.async false
set_option linter.all false
set_option maxRecDepth 100000
set_option maxHeartbeats 4000000
namespace WM
/-! banks: several wheels with a head each -/
abbrev Mv := (Int × Int) × List Int
/-- the shortest turns -/
def sts (l : List Nat) (p : Int) (c : Nat) : List Int :=
  ((List.range (2 * (l.length / 2) + 1)).filter fun i : Nat => decide (l.getD ((p + (-((l.length / 2 : Nat) : Int) + (i : Int))) % (l.length : Int)).toNat 0 = c)).map fun i : Nat => -((l.length / 2 : Nat) : Int) + (i : Int)
def isShort (l : List Nat) (t : Int) : Bool := decide (-((l.length / 2 : Nat) : Int) ≤ t) && decide (t ≤ ((l.length / 2 : Nat) : Int))
/-- the moves of all heads that strike a sign -/
def mvs (tt : List Nat → Int → Nat → List Int) (b : List (List Nat)) (ps : List Int) (c : Nat) : List Mv :=
  (List.range b.length).flatMap fun k => (tt (b.getD k []) (ps.getD k 0) c).map fun t => (((k : Int), t), ps.set k ((ps.getD k 0 + t) % ((b.getD k []).length : Int)))
abbrev mvA (b : List (List Nat)) : List Int → Nat → List Mv := mvs tts b
abbrev mvS (b : List (List Nat)) : List Int → Nat → List Mv := mvs sts b
def mct (m : Int × Int) : Int := ab m.2
structure InB (b : List (List Nat)) (ps : List Int) : Prop where
  len : ps.length = b.length
  at_ : ∀ k, k < b.length → 0 ≤ ps.getD k 0 ∧ ps.getD k 0 < ((b.getD k []).length : Int)
def OkB (b : List (List Nat)) : Prop := ∀ l ∈ b, 1 ≤ l.length
def covers (b : List (List Nat)) (o : List Nat) : Prop := ∀ c ∈ o, ∃ l ∈ b, c ∈ l
def shortM (b : List (List Nat)) (m : Mv) : Bool := isShort (b.getD m.1.1.toNat []) m.1.2
/-- least joint cost and count; the first joint plan -/
def bN (b : List (List Nat)) (o : List Nat) (ps : List Int) : Int × Int := gN (mvA b) mct o ps
def bF (b : List (List Nat)) (o : List Nat) (ps : List Int) : List (Int × Int) := gF (mvA b) mct o ps
/-! all stands -/
def cntB (b : List (List Nat)) : Nat := b.foldl (fun c l => c * l.length) 1
def stB (b : List (List Nat)) : List (List Int) := b.foldl (fun S l => S.flatMap fun s => (List.range l.length).map fun p : Nat => s ++ [(p : Int)]) [[]]
end WM

set_option Elab.async false
set_option linter.all false
set_option maxRecDepth 100000
set_option maxHeartbeats 4000000
namespace W
open PySem L2 WM
/-! stands and moves in the heap -/
def kS (ps : List Int) : List Key := ps.map Sum.inl
def vS (ps : List Int) : List V := ps.map V.int
/-- a tuple of places -/
def StAt (H : Hp) (q : Addr) (ps : List Int) : Prop := H q = some (.tup (vS ps))
/-- a dict from stands -/
def DicV (R : Hp → V → List Int → Prop) (H : Hp) (d : Addr) (n : Nat) (S : List Int → Prop) : Prop :=
  ∃ kvs, H d = some (.dT kvs) ∧ kvs.length ≤ n ∧ ∀ ps, S ps → ∃ v, valV kvs (kS ps) = some v ∧ R H v ps
def Mon (R : Hp → V → List Int → Prop) : Prop := ∀ H H' v ps, Same H H' → R H v ps → R H' v ps
def Stb (R : Hp → V → List Int → Prop) : Prop := ∀ H H' D kvs v ps, H D = some (.dT kvs) → But D H H' → R H v ps → R H' v ps
/-- a pair of ints that a dict tells -/
def R2v (f : List Int → Int × Int) : Hp → V → List Int → Prop := fun H v ps => ∃ q, v = .ref q ∧ Tr2 H q (f ps)
/-- a move -/
def MvAt (H : Hp) (q : Addr) (m : Mv) : Prop := ∃ a, H q = some (.tup [.int m.1.1, .int m.1.2, .ref a]) ∧ StAt H a m.2
/-- a list of moves -/
def MvsAt (H : Hp) (a : Addr) (ms : List Mv) : Prop := ∃ qs : List Addr, H a = some (.lst (qs.map V.ref)) ∧ All2 (MvAt H) qs ms
def RMv (f : List Int → List Mv) : Hp → V → List Int → Prop := fun H v ps => ∃ a, v = .ref a ∧ MvsAt H a (f ps)
/-- the moves by signs and stands -/
def DicM (b : List (List Nat)) (H : Hp) (d : Addr) (n : Nat) (S : Nat → Prop) : Prop :=
  ∃ kvs : List (Key × V), H d = some (.dK kvs) ∧ kvs.length ≤ n ∧ ∀ c, S c → ∃ e, valV kvs (Sum.inr (txt [c])) = some (.ref e) ∧ DicV (RMv fun ps => mvS b ps c) H e 400 (InB b)
/-! a bank -/
def isBnk (b : List (List Nat)) : Bool := (decide (1 ≤ b.length) && decide (b.length ≤ 3)) && (b.all isWh && decide (cntB b ≤ 400))
structure Bnk (b : List (List Nat)) : Prop where
  l1 : 1 ≤ b.length
  l3 : b.length ≤ 3
  wh : ∀ l ∈ b, Wheel l
  cn : cntB b ≤ 400
end W
namespace L2
open PySem WM
section
variable {g : TG} {tb : TS} {D : Ends} {σ : St} {H : Hp}
end
end L2
namespace W
open PySem L2 WM
end W
namespace WM
end WM
namespace W
open PySem L2 WM
end W
namespace L2
open PySem WM
/-! a written list of lists of constants, all at once -/
def listsE : List Expr → Option (List (List V))
  | [] => some []
  | .List es _ :: r => (consV es).bind fun zs => (listsE r).map (zs :: ·)
  | _ => none
def setLL : Stmt → Option (Str × List (List V))
  | .Assign [.Name n _] (.List es _) _ => (listsE es).map fun ws => (n, ws)
  | _ => none
def tLLs (zss : List (List V)) : TA := fun _ H Q => ∀ (as : List Addr) (H' : Hp), Same H H' → All2 (fun a zs => H a = none ∧ H' a = some (.lst zs)) as zss → Q (as.map V.ref) H'
section
variable {X : Cx}
end
end L2
namespace L2
open PySem PySem.Spec PyProof.Rows
/-- sep.join(a list of texts), within a comprehension -/
def tJoin (K : PySem.W.Frag) (to te : TE) : TE := tM1 (fun x xs H Q => ∃ a p, ∃ ys : List Str, x = .str a ∧ xs = [.ref p] ∧ (SqL K H p (ys.map V.str) ∨ SqT K H p (ys.map V.str)) ∧
      (ys.map (·.length)).sum + ys.length * a.length ≤ 16777216 ∧ Q (.str (Txt.join a ys)) H) to te
end L2

set_option Elab.async false
set_option linter.all false
set_option maxRecDepth 100000
set_option maxHeartbeats 4000000
namespace WM
/-! one system of moves within another -/
section
variable {σ μ σ' μ' : Type} {mv : σ → Nat → List (μ × σ)} {ct : μ → Int} {mv' : σ' → Nat → List (μ' × σ')} {ct' : μ' → Int}
end
/-! orders of the same things -/
structure Bij (n : Nat) (π ρ : Nat → Nat) : Prop where
  to : ∀ i, i < n → π i < n ∧ ρ (π i) = i
  fro : ∀ j, j < n → ρ j < n ∧ π (ρ j) = j
def prm {α : Type} (n : Nat) (π : Nat → Nat) (d : α) (xs : List α) : List α := (List.range n).map fun i => xs.getD (π i) d
end WM

set_option Elab.async false
set_option linter.all false
set_option maxRecDepth 100000
set_option maxHeartbeats 4000000
namespace WM
/-- heads of one bank that are among those of another one -/
structure Emb (up : Nat → Nat) (b' b : List (List Nat)) : Prop where
  lt : ∀ j, j < b'.length → up j < b.length
  eq : ∀ j, j < b'.length → b'.getD j [] = b.getD (up j) []
  inj : ∀ i j, i < b'.length → j < b'.length → up i = up j → i = j
def REmb (up : Nat → Nat) (b' b : List (List Nat)) (ps' ps : List Int) : Prop := ps'.length = b'.length ∧ ps.length = b.length ∧ ∀ j, j < b'.length → ps'.getD j 0 = ps.getD (up j) 0
end WM
namespace W
open PySem L2 WM
end W

set_option Elab.async false
set_option linter.all false
set_option maxRecDepth 100000
set_option maxHeartbeats 4000000
namespace L2
open PySem PySem.Spec PyProof.Rows PySem.Builtin
/-! a tuple times an int from 1 on -/
section
variable {X : Cx}
def rRepT : R2 := fun x y H Q => ∃ a k xs, x = .ref a ∧ y = .int k ∧ H a = some (.tup xs) ∧ xs ≠ [] ∧ 1 ≤ k ∧ k ≤ 1000 ∧ xs.length * k.toNat ≤ sizeLine ∧
  ∀ p H', Same H H' → H' p = some (.tup (List.replicate k.toNat xs).flatten) → Q (.ref p) H'
end
end L2

set_option Elab.async false
set_option linter.all false
set_option maxRecDepth 100000
set_option maxHeartbeats 4000000
namespace WM
/-! all plans, sign by sign -/
section
variable {σ μ : Type} (mv : σ → Nat → List (μ × σ))
def gQs (X : List (List μ × σ)) (c : Nat) : List (List μ × σ) := X.flatMap fun x => (mv x.2 c).map fun m => (x.1 ++ [m.1], m.2)
def gQ (o : List Nat) (s : σ) : List (List μ × σ) := o.foldl (gQs mv) [([], s)]
end
/-! how many turns strike a sign -/
/-- so many plans at most -/
def capB (b : List (List Nat)) (o : List Nat) : Nat := o.foldl (fun m c => m * 2 * b.flatten.count c) 1
end WM
namespace W
open PySem L2 WM
/-! deeds: ((head, turn), stand) -/
def DdAt (H : Hp) (q : Addr) (m : Mv) : Prop := ∃ a b, H q = some (.tup [.ref a, .ref b]) ∧ Tr2 H a m.1 ∧ StAt H b m.2
def DdsAt (H : Hp) (a : Addr) (ms : List Mv) : Prop := ∃ qs : List Addr, H a = some (.lst (qs.map V.ref)) ∧ All2 (DdAt H) qs ms
/-- a plan and the stand behind it -/
def BQAt (H : Hp) (q : Addr) (x : List (Int × Int) × List Int) : Prop := ∃ a b rs, H q = some (.tup [.ref a, .ref b]) ∧ PrAt H a x.1 rs ∧ StAt H b x.2
end W

set_option Elab.async false
set_option linter.all false
set_option maxRecDepth 100000
set_option maxHeartbeats 4000000
namespace W
open PySem L2 WM
/-! text.count(sign) -/
/-! plans of several heads, as data -/
def dPl (pl : List (Int × Int)) : PyData := .list (pl.map fun x => d2 x.1 x.2)
end W

set_option Elab.async false
set_option linter.all false
set_option maxRecDepth 100000
set_option maxHeartbeats 4000000
namespace WM
/-- stands that are come to -/
def RcB (b : List (List Nat)) (o : List Nat) (s : List Int) (k : Nat) (ps : List Int) : Prop := ∃ x ∈ gQ (mvA b) (o.take k) s, x.2 = ps
end WM
namespace W
open PySem L2 WM
/-- a dict whose keys are these stands -/
def LatAt (H : Hp) (d : Addr) (L : List (List Int)) : Prop := ∃ kvs, H d = some (.dT kvs) ∧ kvs.map (·.1) = L.map kS ∧ L.Nodup
end W

set_option Elab.async false
set_option linter.all false
set_option maxRecDepth 100000
set_option maxHeartbeats 4000000
/-! min of a list of tuples of ints that end in a reference; no two of the same ints -/
namespace L2
open PySem PySem.Spec PyProof.Rows
section
open PySem.SeqAt
open PySem.AutoSeq1 (wpAny_loadPart')
open PySem.MeetsSeq PySem.MeetsSeq2 PySem.MeetsSeq3
end
section
variable {prog : Program} {w : World} {A : Around} {E : Value → Shared → Prop} {s : Shared}
end
def KeysHpP (h : Heap) (its : List Value) (xs : List (List Key)) (rs : List Addr) : Prop := ∀ (i : Nat) (v : Value), its[i]? = some v → ∃ b items, v = .ref b ∧ IsTup h b items ∧ ∃ us, items.toList = us ++ [Value.ref (rs.getD i 0)] ∧ Vals ((xs.getD i []).map kV) us
section
variable {X : Cx}
/-- min of a list of tuples of keys that end in a reference, no two of the same keys -/
def rMinP (K : PySem.W.Frag) : List V → Hp → VK → Prop := fun vs H Q => ∃ (a : Addr) (qs : List Addr) (kss : List (List Key)) (rs : List Addr) (sh : List Bool), vs = [V.ref a] ∧ SqL K H a (qs.map V.ref) ∧ qs.length = kss.length ∧ rs.length = kss.length ∧
  (∀ (i : Nat) (q : Addr) (ks : List Key) (r : Addr), qs[i]? = some q → kss[i]? = some ks → rs[i]? = some r → H q = some (.tup (ks.map kV ++ [.ref r]))) ∧ kss.Nodup ∧ (∀ ks ∈ kss, ks.map kKind = sh) ∧ 0 < kss.length ∧
  ∀ (i : Nat) (q : Addr) (ks : List Key) (r : Addr), qs[i]? = some q → kss[i]? = some ks → rs[i]? = some r → (∀ ms ∈ kss, kLt ms ks = false) → Q (.ref q) H
end
end L2

set_option Elab.async false
set_option linter.all false
set_option maxRecDepth 100000
set_option maxHeartbeats 4000000
namespace WM
/-! the near plan: for each sign the first of the shortest turns -/
def lm (ms : List Mv) : Int := lmin (ms.map fun m => mct m.1)
def nr (ms : List Mv) : List Mv := ms.filter fun m => decide (mct m.1 = lm ms)
def nF (b : List (List Nat)) : List Nat → List Int → List (Int × Int)
  | [], _ => []
  | c :: o, ps => match nr (mvA b ps c) with
    | [] => []
    | m :: _ => m.1 :: nF b o m.2
/-- moves rise by head and turn -/
def mLt (m n : Mv) : Prop := m.1.1 < n.1.1 ∨ (m.1.1 = n.1.1 ∧ m.1.2 < n.1.2)
end WM
namespace W
open PySem L2 WM
def tri (m : Mv) : List Key := [Sum.inl (mct m.1), Sum.inl m.1.1, Sum.inl m.1.2]
end W

set_option Elab.async false
set_option linter.all false
set_option maxRecDepth 100000
set_option maxHeartbeats 4000000
namespace WM
end WM

set_option Elab.async false
set_option linter.all false
set_option maxRecDepth 100000
set_option maxHeartbeats 4000000
/-! slips: what the doors of slips.py ask and answer, by GenM -/
namespace WM
/-- the place behind some turns, from 0 -/
def pls (n : Int) (ts : List Int) : Int := ts.foldl (fun p t => (p + t) % n) 0
theorem pls_snoc (n : Int) (ts : List Int) (t : Int) : pls n (ts ++ [t]) = (pls n ts + t) % n := by
  unfold pls; rw [List.foldl_append]; rfl
/-- the places told -/
def ptl (n : Int) (ts : List Int) : List Int := (List.range ts.length).map fun i => pls n (ts.take (i + 1))
theorem ptl_len (n : Int) (ts : List Int) : (ptl n ts).length = ts.length := by unfold ptl; simp
theorem ptl_snoc (n : Int) (ts : List Int) (t : Int) : ptl n (ts ++ [t]) = ptl n ts ++ [(pls n ts + t) % n] := by
  unfold ptl
  rw [List.length_append, show ts.length + [t].length = ts.length + 1 from rfl, List.range_succ, List.map_append]
  congr 1
  · refine List.map_congr_left fun i hi => ?_
    have := List.mem_range.mp hi
    rw [List.take_append_of_le_length (by omega)]
  · show [pls n ((ts ++ [t]).take (ts.length + 1))] = _
    rw [List.take_of_length_le (by rw [List.length_append]; exact Nat.le_refl _), pls_snoc]
theorem ptl_take {n : Int} {ts : List Int} {i : Nat} {t : Int} (h : ts[i]? = some t) : ptl n (ts.take (i + 1)) = ptl n (ts.take i) ++ [pls n (ts.take (i + 1))] := by
  have e : ts.take (i + 1) = ts.take i ++ [t] := by rw [List.take_add_one, h]; rfl
  rw [e, ptl_snoc, pls_snoc]
theorem pls_take {n : Int} {ts : List Int} {i : Nat} {t : Int} (h : ts[i]? = some t) : pls n (ts.take (i + 1)) = (pls n (ts.take i) + t) % n := by
  have e : ts.take (i + 1) = ts.take i ++ [t] := by rw [List.take_add_one, h]; rfl
  rw [e, pls_snoc]
/-- all ways on: how far it slips, how far it is off then -/
def wys (l : List Nat) (p off : Int) (c : Nat) : List (Int × Int) :=
  ((List.range l.length).filter fun b : Nat => decide (l.getD ((p + off + (b : Int)) % (l.length : Int)).toNat 0 = c)).map fun b : Nat => ((b : Int), (off + (b : Int)) % (l.length : Int))
theorem mem_wys {l : List Nat} {p off : Int} {c : Nat} {m : Int × Int} : m ∈ wys l p off c ↔ ∃ b : Nat, b < l.length ∧ l.getD ((p + off + (b : Int)) % (l.length : Int)).toNat 0 = c ∧ m = ((b : Int), (off + (b : Int)) % (l.length : Int)) := by
  unfold wys
  rw [List.mem_map]
  refine ⟨fun ⟨b, hb, e⟩ => ?_, fun ⟨b, h1, h2, e⟩ => ⟨b, List.mem_filter.mpr ⟨List.mem_range.mpr h1, decide_eq_true h2⟩, e.symm⟩⟩
  obtain ⟨h1, h2⟩ := List.mem_filter.mp hb
  exact ⟨b, List.mem_range.mp h1, of_decide_eq_true h2, e.symm⟩
theorem wys_ne {l : List Nat} {p off : Int} {c : Nat} (h : 1 ≤ l.length) (hc : c ∈ l) : wys l p off c ≠ [] := by
  obtain ⟨j, hj, e⟩ := List.getElem_of_mem hc
  have hn : (l.length : Int) ≠ 0 := by omega
  have h0 := Int.emod_nonneg ((j : Int) - (p + off)) hn
  have h1 := Int.emod_lt_of_pos ((j : Int) - (p + off)) (show (0 : Int) < (l.length : Int) by omega)
  have hm : (((((j : Int) - (p + off)) % (l.length : Int)).toNat : Int), (off + ((((j : Int) - (p + off)) % (l.length : Int)).toNat : Int)) % (l.length : Int)) ∈ wys l p off c := by
    refine mem_wys.mpr ⟨_, by omega, ?_, rfl⟩
    rw [Int.toNat_of_nonneg h0, Int.add_emod_emod, show p + off + ((j : Int) - (p + off)) = (j : Int) by omega, Int.emod_eq_of_lt (by omega) (by omega), Int.toNat_natCast, List.getD_eq_getElem?_getD, List.getElem?_eq_getElem hj, e]
    rfl
  exact List.ne_nil_of_mem hm
/-- how many slips it takes to go by so many places more -/
def sfo (b : Int) : Int := if b > 0 then 1 else 0
/-- the moves, for GenM: how far it slips; what stands behind: the places told that are left, how far it is off -/
def wyM (l : List Nat) (s : List Int × Int) (c : Nat) : List ((Int × Int) × (List Int × Int)) := (wys l (s.1.headD 0) s.2 c).map fun m => (m, (s.1.tail, m.2))
def wyC (m : Int × Int) : Int := sfo m.1
/-- fewest slips, and how many lists -/
def wyN (l o : List Nat) (ps : List Int) (off : Int) : Int × Int := gN (wyM l) wyC o (ps, off)
end WM
namespace W
open PySem L2 WM
/-- what need_report refuses with (99: nothing) -/
def rpk (l : List Nat) (ts : List Int) (o : List Nat) : Nat :=
  if isWh l = false then 11 else if isW o = false then 12 else if ts.length ≠ o.length then 10 else if o.all (fun c => decide (c ∈ l)) = false then 0 else 99
theorem rpk_good {l : List Nat} {ts : List Int} {o : List Nat} (h : rpk l ts o = 99) : Wheel l ∧ isW o = true ∧ ts.length = o.length ∧ ∀ c ∈ o, c ∈ l := by
  unfold rpk at h
  by_cases h1 : isWh l = false
  · rw [if_pos h1] at h; cases h
  rw [if_neg h1] at h
  by_cases h2 : isW o = false
  · rw [if_pos h2] at h; cases h
  rw [if_neg h2] at h
  by_cases h3 : ts.length ≠ o.length
  · rw [if_pos h3] at h; cases h
  rw [if_neg h3] at h
  by_cases h4 : o.all (fun c => decide (c ∈ l)) = false
  · rw [if_pos h4] at h; cases h
  refine ⟨wheel_of (by simpa using h1), by simpa using h2, by omega, fun c hc => ?_⟩
  have := (Bool.not_eq_false _).mp h4
  exact of_decide_eq_true (List.all_eq_true.mp this c hc)
end W

set_option Elab.async false
set_option linter.all false
set_option maxRecDepth 100000
set_option maxHeartbeats 4000000
namespace L2
open PySem PySem.Spec PyProof.Rows
/-! list(zip(list, text)) -/
abbrev IsZipF (h : Heap) (z TI TO a : Addr) (f : Bool) : Prop :=
  h.get? z = some { cls := .type "zip", dict := none, data := .fields #[rawInt a, .bool f, .bool false, .ref TI, .ref TO], slots := #[] }
section
variable {prog : Program} {w : World} {A : Around} {E : Value → Shared → Prop} {s : Shared}
theorem owned_out {z TI TO a : Addr} {f : Bool} {oa : Obj} {Q : Bool → Shared → Prop} (hz : IsZipF s.heap z TI TO a f) (ha : s.heap.get? a = some oa)
    (hQ : ∀ h', IsZipF h' z TI TO a true → Heap.SameBut z s.heap h' → Q false { s with heap := h' }) : wpAny (model prog w) A (Builtin.SmallTypes.ownedTupleIsFree (.ref z)) Q E s := by
  unfold Builtin.SmallTypes.ownedTupleIsFree
  refine wpAny_bind (wpAny_field hz rfl (x := rawInt a) rfl ?_)
  show wpAny _ _ (loadIfAlive ((a : Int).toNat) >>= _) _ _ _
  rw [Int.toNat_natCast]
  refine wpAny_bind (PySem.W.kdx_alive ha ?_)
  simp only [Option.isNone_some, Bool.false_eq_true, if_false]
  refine wpAny_bind (wpAny_field hz rfl (x := .bool f) rfl ?_)
  cases f with
  | true =>
    rw [if_neg (show ¬ ((Value.bool true != Value.bool true) = true) from Bool.false_ne_true)]
    exact wpAny_pure (hQ s.heap hz (Heap.SameBut.refl _ _))
  | false =>
    rw [if_pos (show (Value.bool false != Value.bool true) = true from rfl)]
    refine wpAny_bind (wpAny_setField_rec hz (by simp) fun h₃ he₃ hs₃ => ?_)
    exact wpAny_pure (hQ h₃ he₃ hs₃)
theorem zip_outD {z TI TO i1 i2 a : Addr} {f : Bool} {oa : Obj} {k1 k2 : Nat} {Q : Value → Shared → Prop} {fp1 fp2 : List Addr} {n1 n2 : Nat} {P1 P2 : Nat → Value → Prop} {St1 St2 : Nat → Heap → Prop} (S1 : Draws prog w A i1 fp1 n1 P1 St1) (S2 : Draws prog w A i2 fp2 n2 P2 St2) (D : ApartD z TI TO i1 i2 fp1 fp2)
    (hz : IsZipF s.heap z TI TO a f) (ha : s.heap.get? a = some oa) (hTI : IsPair s.heap TI (.ref i1) (.ref i2))
    (h1 : St1 k1 s.heap) (h2 : St2 k2 s.heap) (hl1 : k1 < n1) (hl2 : k2 < n2)
    (hQ : ∀ x y h' tk, P1 k1 x → P2 k2 y → IsZipF h' z TI TO a true → St1 (k1 + 1) h' → St2 (k2 + 1) h' → IsPair h' s.heap.objs.size x y → h'.objs.size = s.heap.objs.size + 1 →
      (∀ c o, c ≠ z → c ≠ i1 → c ≠ i2 → s.heap.get? c = some o → h'.get? c = some o) → Q (.ref s.heap.objs.size) { s with heap := h', toks := tk }) :
    wpAny (model prog w) A (Builtin.«zip.__next__» ⟨[.ref z], []⟩) (fun fin s' => ∃ v, fin = .done (.ret v) ∧ Q v s') E s := by
  show wpAny _ _ (field (.ref z) 2 >>= _) _ _ _
  refine wpAny_bind (wpAny_field hz rfl (x := .bool false) rfl ?_)
  show wpAny _ _ (field (.ref z) 3 >>= _) _ _ _
  refine wpAny_bind (wpAny_field hz rfl (x := .ref TI) rfl ?_)
  refine wpAny_bind (wpAny_seqItems hTI rfl ?_)
  show wpAny _ _ (Builtin.SmallTypes.ownedTupleIsFree (.ref z) >>= _) _ _ _
  refine wpAny_bind (owned_out hz ha fun h₁ hz₁ hs₁ => ?_)
  simp only [Bool.false_eq_true, if_false]
  refine wpAny_bind ?_
  rw [← Array.forIn_toList]
  simp only [List.forIn_cons, List.forIn_nil]
  refine wpAny_bind (wpAny_bind (wpAny_holding ?_))
  show wpAny _ _ (Builtin.SmallTypes.nextOf (.ref i1) >>= _) _ _ _
  refine wpAny_bind (S1.item k1 _ _ _ hl1 (S1.frame _ _ _ h1 fun b hb o e => hs₁.extBut _ _ (D.f1 b hb).1 e) fun x h₂ tk₂ hPx h1₂ hs₂ => wpAny_pure ?_)
  refine wpAny_pure ?_
  refine wpAny_bind (wpAny_bind (wpAny_holding ?_))
  show wpAny _ _ (Builtin.SmallTypes.nextOf (.ref i2) >>= _) _ _ _
  refine wpAny_bind (S2.item k2 _ _ _ hl2 (S2.frame _ _ _ h2 fun b hb o e => hs₂.extBut _ _ (D.f2 b hb).2.2 (hs₁.extBut _ _ (D.f2 b hb).1 e)) fun y h₄ tk₄ hPy h2₄ hs₄ => wpAny_pure ?_)
  refine wpAny_pure (wpAny_pure ?_)
  refine wpAny_bind (wpAny_newTuple (hsz := by show 2 ≤ sizeLine; decide) ?_)
  have hsz : h₄.objs.size = s.heap.objs.size := by rw [hs₄.1, hs₂.1, hs₁.1]
  have hz₄ : IsZipF h₄ z TI TO a true := hs₄.extBut _ _ D.i2z.symm (hs₂.extBut _ _ D.i1z.symm hz₁)
  have hk₄ : ∀ c o, c ≠ z → c ≠ i1 → c ≠ i2 → s.heap.get? c = some o → h₄.get? c = some o := fun c o c1 c3 c4 e => hs₄.extBut _ _ c4 (hs₂.extBut _ _ c3 (hs₁.extBut _ _ c1 e))
  have h1₄ : St1 (k1 + 1) h₄ := S1.frame _ _ _ h1₂ fun b hb o e => hs₄.extBut _ _ (D.f1 b hb).2.2 e
  have up : ∀ c o, h₄.get? c = some o → (h₄.push { cls := .type "tuple", data := .seq #[x, y] }).get? c = some o := fun c o e => Heap.get?_push_of_some _ e
  have hT : IsPair (h₄.push { cls := .type "tuple", data := .seq #[x, y] }) s.heap.objs.size x y := by rw [← hsz]; exact Heap.get?_push_size _ rfl
  refine wpAny_pure ⟨_, rfl, ?_⟩
  show Q (.ref h₄.objs.size) _
  rw [hsz]
  exact hQ x y _ tk₄ hPx hPy (up _ _ hz₄) (S1.frame _ _ _ h1₄ fun b hb o e => up b o e) (S2.frame _ _ _ h2₄ fun b hb o e => up b o e) hT (by rw [Heap.size_push, hsz]) fun c o c1 c3 c4 e => up c o (hk₄ c o c1 c3 c4 e)
end
end L2

set_option Elab.async false
set_option linter.all false
set_option maxRecDepth 100000
set_option maxHeartbeats 4000000
namespace L2
open PySem PySem.Spec PyProof.Rows
open Sem (wp)
/-! list(zip(list, text)): the walk -/
section
variable {prog : Program} {w : World} {A : Around} {E : Value → Shared → Prop} {s : Shared}
theorem zip_outEndD {z TI TO i1 i2 a : Addr} {f : Bool} {oa : Obj} {Q : Fin → Shared → Prop} {fp1 fp2 : List Addr} {n1 n2 : Nat} {P1 P2 : Nat → Value → Prop} {St1 St2 : Nat → Heap → Prop} (S1 : Draws prog w A i1 fp1 n1 P1 St1) (D : ApartD z TI TO i1 i2 fp1 fp2)
    (hz : IsZipF s.heap z TI TO a f) (ha : s.heap.get? a = some oa) (hTI : IsPair s.heap TI (.ref i1) (.ref i2)) (h1 : St1 n1 s.heap)
    (hE : ∀ h' e, (∀ c o, c ≠ z → c ≠ i1 → c ≠ i2 → s.heap.get? c = some o → h'.get? c = some o) → (∃ o, h'.get? e = some o ∧ o.cls = .type "StopIteration") → E (.ref e) { s with heap := h' }) :
    wpAny (model prog w) A (Builtin.«zip.__next__» ⟨[.ref z], []⟩) Q E s := by
  show wpAny _ _ (field (.ref z) 2 >>= _) _ _ _
  refine wpAny_bind (wpAny_field hz rfl (x := .bool false) rfl ?_)
  show wpAny _ _ (field (.ref z) 3 >>= _) _ _ _
  refine wpAny_bind (wpAny_field hz rfl (x := .ref TI) rfl ?_)
  refine wpAny_bind (wpAny_seqItems hTI rfl ?_)
  show wpAny _ _ (Builtin.SmallTypes.ownedTupleIsFree (.ref z) >>= _) _ _ _
  refine wpAny_bind (owned_out hz ha fun h₁ hz₁ hs₁ => ?_)
  simp only [Bool.false_eq_true, if_false]
  refine wpAny_bind ?_
  rw [← Array.forIn_toList]
  simp only [List.forIn_cons, List.forIn_nil]
  refine wpAny_bind (wpAny_bind (wpAny_holding ?_))
  show wpAny _ _ (Builtin.SmallTypes.nextOf (.ref i1) >>= _) _ _ _
  refine wpAny_bind (S1.done _ _ _ (S1.frame _ _ _ h1 fun b hb o e => hs₁.extBut _ _ (D.f1 b hb).1 e) fun h₂ e hs₂ he => ?_)
  exact hE h₂ e (fun c o c1 c3 _ x => hs₂ _ _ c3 (hs₁.extBut _ _ c1 x)) he
theorem next_zip_outD {z TI TO i1 i2 a : Addr} {f : Bool} {oa : Obj} {k1 k2 : Nat} {Q : Option Value → Shared → Prop} {fp1 fp2 : List Addr} {n1 n2 : Nat} {P1 P2 : Nat → Value → Prop} {St1 St2 : Nat → Heap → Prop} (S1 : Draws prog w A.in1 i1 fp1 n1 P1 St1) (S2 : Draws prog w A.in1 i2 fp2 n2 P2 St2) (D : ApartD z TI TO i1 i2 fp1 fp2)
    (hz : IsZipF s.heap z TI TO a f) (ha : s.heap.get? a = some oa) (hTI : IsPair s.heap TI (.ref i1) (.ref i2))
    (h1 : St1 k1 s.heap) (h2 : St2 k2 s.heap) (hl1 : k1 < n1) (hl2 : k2 < n2)
    (hQ : ∀ x y h' tk, P1 k1 x → P2 k2 y → IsZipF h' z TI TO a true → St1 (k1 + 1) h' → St2 (k2 + 1) h' → IsPair h' s.heap.objs.size x y → h'.objs.size = s.heap.objs.size + 1 →
      (∀ c o, c ≠ z → c ≠ i1 → c ≠ i2 → s.heap.get? c = some o → h'.get? c = some o) → Q (some (.ref s.heap.objs.size)) { s with heap := h', toks := tk }) :
    wpAny (model prog w) A (pyNext (.ref z)) Q E s := by
  have hT : s.TypeIs (.ref z) "zip" := ⟨_, hz, rfl⟩
  unfold pyNext
  exact wpAny_bind (wpAny_attempt (wpAny_callSpecial?_slot (name := Str.ofString "__next__") hT F.slot_zip_next
    (wpAny_call_entry F.slot_zip_next hT F.entry_zip_next
      (zip_outD S1 S2 D hz ha hTI h1 h2 hl1 hl2 fun x y h' tk b1 b2 a1 a2 a3 a4 a5 a6 => wpAny_pure (hQ x y h' tk b1 b2 a1 a2 a3 a4 a5 a6)) (F.args_zip_next_1 _))))
theorem next_zip_outEndD {z TI TO i1 i2 a : Addr} {f : Bool} {oa : Obj} {Q : Option Value → Shared → Prop} {fp1 fp2 : List Addr} {n1 : Nat} {P1 : Nat → Value → Prop} {St1 : Nat → Heap → Prop} (S1 : Draws prog w A.in1 i1 fp1 n1 P1 St1) (D : ApartD z TI TO i1 i2 fp1 fp2)
    (hz : IsZipF s.heap z TI TO a f) (ha : s.heap.get? a = some oa) (hTI : IsPair s.heap TI (.ref i1) (.ref i2)) (h1 : St1 n1 s.heap)
    (hQ : ∀ h', (∀ c o, c ≠ z → c ≠ i1 → c ≠ i2 → s.heap.get? c = some o → h'.get? c = some o) → Q none { s with heap := h' }) : wpAny (model prog w) A (pyNext (.ref z)) Q E s := by
  have hT : s.TypeIs (.ref z) "zip" := ⟨_, hz, rfl⟩
  unfold pyNext
  refine wpAny_bind (wpAny_attempt (wpAny_callSpecial?_slot (name := Str.ofString "__next__") hT F.slot_zip_next
    (wpAny_call_entry F.slot_zip_next hT F.entry_zip_next (zip_outEndD (n2 := 0) (P2 := fun _ _ => True) (St2 := fun _ _ => True) S1 D hz ha hTI h1 fun h' e hk he => ?_) (F.args_zip_next_1 _))))
  obtain ⟨o, ho, hc⟩ := he
  refine wpAny_bind (wpAny_isInstance (T := "StopIteration") (b := true) ⟨o, ho, hc⟩ isSubtype_stop ?_)
  exact wpAny_pure (hQ _ hk)
theorem zip_no_len : typeLookup (.type "zip") "__len__" = pure none := by rw [typeLookup_type, builtinLookup_eq_fast]; kernel_rfl
theorem zip_no_hint : typeLookup (.type "zip") "__length_hint__" = pure none := by rw [typeLookup_type, builtinLookup_eq_fast]; kernel_rfl
end
/-- a walk whose items live in the heap: `P` may speak of it, and stays where the objects beside `wr` stay -/
structure WalkZ (prog : Program) (w : World) (A : Around) (I S : Addr) (wr : List Addr) (n : Nat) (P : Nat → Value → Heap → Prop) (St : Nat → Heap → Prop) : Prop where
  frame : ∀ i h h', St i h → (∀ b o, b ≠ S → h.get? b = some o → h'.get? b = some o) → St i h'
  keepS : ∀ i v h h', P i v h → (∀ b o, b ≠ S → h.get? b = some o → h'.get? b = some o) → P i v h'
  keep : ∀ i v h h', P i v h → (∀ b o, b ∉ wr → h.get? b = some o → h'.get? b = some o) → P i v h'
  item : ∀ i (s : Shared) (Q : Option Value → Shared → Prop) (E : Value → Shared → Prop), i < n → St i s.heap → (∃ o, s.heap.get? S = some o) →
    (∀ v h' tk, s.toks ≤ tk → P i v h' → St (i + 1) h' → (∀ b o, b ∉ wr → s.heap.get? b = some o → h'.get? b = some o) → Q (some v) { s with heap := h', toks := tk }) → wpAny (model prog w) A (pyNext (.ref I)) Q E s
  done : ∀ (s : Shared) (Q : Option Value → Shared → Prop) (E : Value → Shared → Prop), St n s.heap → (∀ h' tk, s.toks ≤ tk → (∀ b o, b ∉ wr → s.heap.get? b = some o → h'.get? b = some o) → Q none { s with heap := h', toks := tk }) → wpAny (model prog w) A (pyNext (.ref I)) Q E s
  self : ∀ (s : Shared) (Q : Value → Shared → Prop) (E : Value → Shared → Prop), St 0 s.heap → Q (.ref I) s → wpAny (model prog w) A (pyIter (.ref I)) Q E s
section
variable {prog : Program} {w : World} {A : Around} {R : Result → Shared → Prop} {I S : Addr} {wr : List Addr} {n : Nat} {P : Nat → Value → Heap → Prop} {St : Nat → Heap → Prop}
/-- what stands beside `wr` stays -/
def Kept (wr : List Addr) (s s' : Shared) : Prop := (∀ b o, b ∉ wr → s.heap.get? b = some o → s'.heap.get? b = some o) ∧ s'.gens = s.gens ∧ s'.drawn = s.drawn ∧ s'.os = s.os ∧ s.toks ≤ s'.toks
theorem Kept.trans {s s' s'' : Shared} (x : Kept wr s s') (y : Kept wr s' s'') : Kept wr s s'' :=
  ⟨fun b o hb e => y.1 b o hb (x.1 b o hb e), y.2.1.trans x.2.1, y.2.2.1.trans x.2.2.1, y.2.2.2.1.trans x.2.2.2.1, Nat.le_trans x.2.2.2.2 y.2.2.2.2⟩
def ItemsZ (P : Nat → Value → Heap → Prop) (acc : Array Value) (i : Nat) (h : Heap) : Prop := acc.size = i ∧ ∀ j v, acc[j]? = some v → P j v h
theorem extend_loopZ (W : WalkZ prog w A.in1 I S wr n P St) (hn : n ≤ sizeLine) (hSw : S ∉ wr) (res : Value) :
    ∀ (k i : Nat) (s : Shared) (acc : Array Value) (c : Nat), n - i = k → i ≤ n → St i s.heap → s.heap.get? S = some { cls := .type "list", dict := none, data := .seq acc c, slots := #[] } → ItemsZ P acc i s.heap →
    (∀ s' acc' c', Kept (S :: wr) s s' → s'.heap.get? S = some { cls := .type "list", dict := none, data := .seq acc' c', slots := #[] } → ItemsZ P acc' n s'.heap → R (.ok (.ret res)) s') →
    codeAny (model prog w) A (.builtin "list.extend.loop" ⟨[.ref S, .ref I, res], []⟩) R s := by
  intro k
  induction k with
  | zero =>
    intro i s acc c hk hi hst hS hacc hR
    have hin : i = n := by omega
    subst hin
    refine codeAny_builtin F.entry_extend_loop ?_
    rw [Around.under_plainId F.plain_extend_loop _]
    show wpAny _ A.in1 (pyNext (.ref I) >>= _) _ _ s
    refine wpAny_bind (W.done s _ _ hst fun h' tk htk hm => ?_)
    exact wpAny_pure (hR _ acc c ⟨fun b o hb e => hm b o (fun x => hb (List.mem_cons_of_mem _ x)) e, rfl, rfl, rfl, htk⟩ (hm S _ hSw hS) ⟨hacc.1, fun j v e => W.keep j v _ _ (hacc.2 j v e) hm⟩)
  | succ k ih =>
    intro i s acc c hk hi hst hS hacc hR
    have hlt : i < n := by omega
    refine codeAny_builtin F.entry_extend_loop ?_
    rw [Around.under_plainId F.plain_extend_loop _]
    show wpAny _ A.in1 (pyNext (.ref I) >>= _) _ _ s
    refine wpAny_bind (W.item i s _ _ hlt hst ⟨_, hS⟩ fun v h' tk htk hP hst' hm => ?_)
    have hS' := hm S _ hSw hS
    have hacc' : ItemsZ P (acc.push v) (i + 1) h' := by
      refine ⟨by rw [Array.size_push, hacc.1], fun j u e => ?_⟩
      rw [Array.getElem?_push] at e
      split at e
      · rename_i hj
        cases e
        rw [hj, hacc.1]; exact hP
      · exact W.keep j u _ _ (hacc.2 j u e) hm
    show wpAny _ A.in1 (updateSeq S (·.push v) >>= _) _ _ _
    refine wpAny_bind ?_
    refine wpAny_updateSeq hS' rfl (wpAny_pure ⟨plainId_quiet F.plain_extend_loop _, ih (i + 1) _ (acc.push v) _ (by omega) hlt (W.frame _ h' _ hst' fun b o hb e => ?_) (Heap.get?_update_self _ hS' rfl)
      ⟨hacc'.1, fun j u e => W.keepS j u _ _ (hacc'.2 j u e) fun b o hb e' => (Heap.get?_update_other _ _ (Ne.symm hb)).trans e'⟩ fun s'' acc' c' hm'' hS'' hacc'' => ?_⟩)
      (by rw [hacc.1]; omega) (by show (acc.push v).size ≤ sizeLine + 1; rw [Array.size_push, hacc.1]; omega)
    · exact (Heap.get?_update_other _ _ (Ne.symm hb)).trans e
    · refine hR s'' acc' c' (Kept.trans ?_ hm'') hS'' hacc''
      refine ⟨fun b o hb e => ?_, rfl, rfl, rfl, htk⟩
      exact (Heap.get?_update_other _ _ (fun h : S = b => hb (by rw [h]; exact List.mem_cons_self))).trans (hm b o (fun x => hb (List.mem_cons_of_mem _ x)) e)
theorem extendZ (W : WalkZ prog w A.in1 I S wr n P St) (hT : ∀ i (s : Shared), St i s.heap → s.TypeIs (.ref I) "zip") (res : Value) (c₀ : Nat) {s : Shared} (hst : St 0 s.heap) (hSw : S ∉ wr) (hSI : S ≠ I)
    (hS : s.heap.get? S = some { cls := .type "list", data := .seq #[] c₀ })
    (hR : ∀ s' acc' c', Kept (S :: wr) s s' → s'.heap.get? S = some { cls := .type "list", dict := none, data := .seq acc' c', slots := #[] } → ItemsZ P acc' n s'.heap → R (.ok (.ret res)) s') (hn : n ≤ sizeLine) :
    wpAny (model prog w) A.in1 (Builtin.List.listExtendWith (.ref S) (.ref I) res)
      (fun fin s' => match fin with | .done f => R (.ok f) s' | .again c' => c'.quiet = true ∧ codeAny (model prog w) A c' R s') (fun e s' => R (.error e) s') s := by
  unfold Builtin.List.listExtendWith
  refine wpAny_bind (wpAny_typeOf (hT 0 _ hst) ?_)
  have h1 : Builtin.List.listSameRef (.ref S) (.ref I) = false := by simp [Builtin.List.listSameRef, hSI]
  have h2 : (Value.type "zip" == Value.type "list") = false := by decide
  have h3 : (Value.type "zip" == Value.type "tuple") = false := by decide
  simp only [h1, h2, h3, Bool.or_false, Bool.false_eq_true, if_false]
  refine wpAny_bind (W.self _ _ _ hst ?_)
  refine wpAny_bind (wpAny_holding ?_)
  unfold Builtin.List.listLengthHint
  refine wpAny_bind (wpAny_specialOf (hT 0 _ hst) zip_no_len ?_)
  show wpAny _ A.in1 (specialOf (Value.ref I) (Str.ofString "__length_hint__") >>= _) _ _ _
  refine wpAny_bind (wpAny_specialOf (hT 0 _ hst) zip_no_hint ?_)
  refine wpAny_pure ?_
  show wpAny _ A.in1 (rule "list.extend.makes-room" >>= fun _ => Builtin.List.listTouch (.ref S) >>= fun _ =>
    again (.builtin "list.extend.loop" ⟨[.ref S, .ref I, res], []⟩)) _ _ _
  refine wpAny_bind (wpAny_rule ?_)
  refine wpAny_bind ?_
  show wpAny _ A.in1 (updateSeq S (·.push .none) >>= fun _ => updateSeq S (·.pop)) _ _ _
  refine wpAny_bind (wpAny_updateSeq hS rfl ?_)
  have hS₂ := Heap.get?_update_self (Obj.mapSeq (·.push Value.none)) hS rfl
  refine wpAny_updateSeq (hz := by seq_fits) hS₂ rfl ?_
  have hS₃ := Heap.get?_update_self (Obj.mapSeq (·.pop)) hS₂ rfl
  have oth : ∀ b o, b ≠ S → s.heap.get? b = some o → ((s.heap.update S (Obj.mapSeq (·.push Value.none))).update S (Obj.mapSeq (·.pop))).get? b = some o :=
    fun b o hb e => (Heap.get?_update_other _ _ (Ne.symm hb)).trans ((Heap.get?_update_other _ _ (Ne.symm hb)).trans e)
  refine wpAny_pure ⟨plainId_quiet F.plain_extend_loop _, extend_loopZ W hn hSw _ n 0 _ _ _ rfl (Nat.zero_le _)
    (W.frame 0 _ _ hst oth) hS₃ ⟨rfl, fun j v e => by simp at e⟩ fun s' acc' c' hm hS' hacc => ?_⟩
  refine hR s' acc' c' (Kept.trans ?_ hm) hS' hacc
  exact ⟨fun b o hb e => oth b o (fun h => hb (h ▸ List.mem_cons_self)) e, rfl, rfl, rfl, Nat.le_refl _⟩
theorem list_initZ (W : WalkZ prog w A.in1 I S wr n P St) (hT : ∀ i (s : Shared), St i s.heap → s.TypeIs (.ref I) "zip") {s : Shared} (hst : St 0 s.heap) (hSw : S ∉ wr) (hSI : S ≠ I)
    (hS : s.heap.get? S = some { cls := .type "list", data := .seq #[] })
    (hR : ∀ s' acc' c', Kept (S :: wr) s s' → s'.heap.get? S = some { cls := .type "list", dict := none, data := .seq acc' c', slots := #[] } → ItemsZ P acc' n s'.heap → R (.ok (.ret .none)) s') (hn : n ≤ sizeLine) :
    wpAny (model prog w) A.in1 (Builtin.«list.__init__» ⟨[.ref S, .ref I], []⟩)
      (fun fin s' => match fin with | .done f => R (.ok f) s' | .again c' => c'.quiet = true ∧ codeAny (model prog w) A c' R s') (fun e s' => R (.error e) s') s := by
  show wpAny _ A.in1 (do let old ← Builtin.List.listItems (.ref S); Builtin.List.listUpdate (.ref S) (fun _ => #[]); letGo old.toList.reverse; Builtin.List.listExtendWith (.ref S) (.ref I) .none) _ _ s
  refine wpAny_bind ?_
  unfold Builtin.List.listItems
  refine wpAny_bind (wpAny_seqItems hS rfl (wpAny_pure ?_))
  show wpAny _ A.in1 (updateSeq S (fun _ => #[]) >>= fun _ => letGo (#[] : Array Value).toList.reverse >>= fun _ => Builtin.List.listExtendWith (.ref S) (.ref I) .none) _ _ s
  refine wpAny_bind (wpAny_updateSeq hS rfl ?_)
  have hS₂ := Heap.get?_update_self (Obj.mapSeq (fun _ => (#[] : Array Value))) hS rfl
  have oth : ∀ b o, b ≠ S → s.heap.get? b = some o → (s.heap.update S (Obj.mapSeq (fun _ => (#[] : Array Value)))).get? b = some o :=
    fun b o hb e => (Heap.get?_update_other _ _ (Ne.symm hb)).trans e
  refine wpAny_bind (wpAny_letGo ?_)
  refine extendZ W hT .none _ (W.frame 0 _ _ hst oth) hSw hSI hS₂ (fun s' acc' c' hm hS' hacc => ?_) hn
  refine hR s' acc' c' (Kept.trans ?_ hm) hS' hacc
  exact ⟨fun b o hb e => oth b o (fun h => hb (h ▸ List.mem_cons_self)) e, rfl, rfl, rfl, Nat.le_refl _⟩
end
section
variable {prog : Program} {w : World} {A : Around} {E : Value → Shared → Prop} {s : Shared}
variable {I : Addr} {wr : List Addr} {n : Nat} {P : Nat → Value → Heap → Prop} {St : Nat → Heap → Prop}
theorem call_listZ {Q : Value → Shared → Prop} (W : WalkZ prog w A.in1.in1 I s.heap.objs.size wr n P St) (hT : ∀ i (s : Shared), St i s.heap → s.TypeIs (.ref I) "zip") (hst : St 0 s.heap) (hwr : ∀ b ∈ wr, b < s.heap.objs.size) (hI : I < s.heap.objs.size)
    (hQ : ∀ s' acc' c', Kept (s.heap.objs.size :: wr) { s with heap := s.heap.push { cls := .type "list", data := .seq #[] } } s' →
      s'.heap.get? s.heap.objs.size = some { cls := .type "list", dict := none, data := .seq acc' c', slots := #[] } → ItemsZ P acc' n s'.heap → Q (.ref s.heap.objs.size) s') (hn : n ≤ sizeLine) :
    wpAny (model prog w) A (call (.type "list") [.ref I]) Q E s := by
  have hSw : s.heap.objs.size ∉ wr := fun hm => Nat.lt_irrefl _ (hwr _ hm)
  refine callType_codes (Q₁ := fun obj s₁ => obj = .ref s.heap.objs.size ∧ s₁ = { s with heap := s.heap.push { cls := .type "list", data := .seq #[] } }) F.called_list (F.typeCall_list_1 _) F.entry_list_init
    (code_list_new _ ⟨rfl, rfl⟩) fun obj s₁ h₁ => ?_
  obtain ⟨rfl, rfl⟩ := h₁
  have hS : (s.heap.push { cls := .type "list", data := .seq #[] }).get? s.heap.objs.size = some { cls := .type "list", data := .seq #[] } := Heap.get?_push_size _ rfl
  refine ⟨⟨_, hS, rfl⟩, F.args_list_init_2 _ _, list_initZ W hT (W.frame 0 _ _ hst fun b o _ e => Heap.get?_push_of_some _ e) hSw (Nat.ne_of_gt hI) hS (fun s' acc' c' hm hS' hacc => ?_) hn⟩
  exact ⟨rfl, hQ s' acc' c' hm hS' hacc⟩
end
section
variable {prog : Program} {w : World} {A : Around}
def ZItem (z TO i1 i2 S : Addr) (P1 P2 : Nat → Value → Prop) (i : Nat) (v : Value) (h : Heap) : Prop := ∃ q x y, v = .ref q ∧ q ≠ z ∧ q ≠ TO ∧ q ≠ i1 ∧ q ≠ i2 ∧ S < q ∧ P1 i x ∧ P2 i y ∧ IsPair h q x y
def ZSt (z TI TO i1 i2 S : Addr) (St1 St2 : Nat → Heap → Prop) (i : Nat) (h : Heap) : Prop := IsPair h TI (.ref i1) (.ref i2) ∧ (∃ a b, IsPair h TO a b) ∧ St1 i h ∧ St2 i h ∧
  ((i = 0 ∧ IsZip h z TI TO .none) ∨ (0 < i ∧ ∃ a f oa, IsZipF h z TI TO a f ∧ h.get? a = some oa ∧ a ≠ z ∧ a ≠ i1 ∧ a ≠ i2 ∧ a ≠ S))
theorem ZSt.ty {z TI TO i1 i2 S : Addr} {St1 St2 : Nat → Heap → Prop} {i : Nat} {s : Shared} (h : ZSt z TI TO i1 i2 S St1 St2 i s.heap) : s.TypeIs (.ref z) "zip" := by
  obtain ⟨_, _, _, _, ⟨_, hz⟩ | ⟨_, a, f, oa, hz, _⟩⟩ := h
  · exact ⟨_, hz, rfl⟩
  · exact ⟨_, hz, rfl⟩
theorem walk_zip {z TI TO i1 i2 S : Addr} {fp1 fp2 : List Addr} {n : Nat} {P1 P2 : Nat → Value → Prop} {St1 St2 : Nat → Heap → Prop} (hh : A.handled = none) (S1 : Draws prog w A.in1 i1 fp1 n P1 St1) (S2 : Draws prog w A.in1 i2 fp2 n P2 St2) (D : ApartD z TI TO i1 i2 fp1 fp2)
    (nz : z ≠ S) (nTI : TI ≠ S) (nTO : TO ≠ S) (n1 : ∀ b ∈ fp1, b ≠ S) (n2 : ∀ b ∈ fp2, b ≠ S) :
    WalkZ prog w A z S [z, TO, i1, i2] n (ZItem z TO i1 i2 S P1 P2) (ZSt z TI TO i1 i2 S St1 St2) where
  frame := fun i h h' st hk => by
    obtain ⟨hTI, ⟨a, b, hTO⟩, h1, h2, hz⟩ := st
    refine ⟨hk _ _ nTI hTI, ⟨a, b, hk _ _ nTO hTO⟩, S1.frame _ _ _ h1 fun b hb o e => hk b o (n1 b hb) e, S2.frame _ _ _ h2 fun b hb o e => hk b o (n2 b hb) e, ?_⟩
    rcases hz with ⟨e, hz⟩ | ⟨e, a, f, oa, hz, ha, r1, r2, r3, r4⟩
    · exact .inl ⟨e, hk _ _ nz hz⟩
    · exact .inr ⟨e, a, f, oa, hk _ _ nz hz, hk _ _ r4 ha, r1, r2, r3, r4⟩
  keepS := fun i v h h' ⟨q, x, y, e, r1, r2, r3, r4, r5, p1, p2, hq⟩ hk => ⟨q, x, y, e, r1, r2, r3, r4, r5, p1, p2, hk _ _ (Nat.ne_of_gt r5) hq⟩
  keep := fun i v h h' ⟨q, x, y, e, r1, r2, r3, r4, r5, p1, p2, hq⟩ hk => ⟨q, x, y, e, r1, r2, r3, r4, r5, p1, p2, hk _ _ (by simp [r1, r2, r3, r4]) hq⟩
  item := fun i s Q E hi st hS hQ => by
    obtain ⟨hTI, ⟨a0, b0, hTO⟩, h1, h2, hz⟩ := st
    obtain ⟨oS, hS⟩ := hS
    obtain ⟨_, l1⟩ := S1.live _ _ h1
    obtain ⟨_, l2⟩ := S2.live _ _ h2
    have fr : ∀ {b : Addr} {o : Obj}, s.heap.get? b = some o → s.heap.objs.size ≠ b := fun e => Nat.ne_of_gt (Heap.lt_size e)
    rcases hz with ⟨e, hz⟩ | ⟨e, a, f, oa, hz, ha, r1, r2, r3, r4⟩
    · subst e
      refine wpAny_with_toks (Nat.le_refl s.toks) (next_zip_itemD S1 S2 D hz hTI hTO h1 h2 hi hi fun x y h' tk p1 p2 hz' hTO' h1' h2' hp hsz hk htk => ?_)
      exact hQ _ h' tk htk ⟨_, x, y, rfl, fr hz, fr hTO, fr l1, fr l2, Heap.lt_size hS, p1, p2, hp⟩ ⟨hk _ _ D.TIz D.TITO D.TIi1 D.TIi2 hTI, ⟨x, y, hTO'⟩, h1', h2', .inr ⟨Nat.succ_pos _, s.heap.objs.size, false, _, hz', hp, fr hz, fr l1, fr l2, fr hS⟩⟩ fun b o hb e => hk b o (fun z => hb (by simp [z])) (fun z => hb (by simp [z])) (fun z => hb (by simp [z])) (fun z => hb (by simp [z])) e
    · refine wpAny_with_toks (Nat.le_refl s.toks) (next_zip_outD S1 S2 D hz ha hTI h1 h2 hi hi fun x y h' tk p1 p2 hz' h1' h2' hp hsz hk htk => ?_)
      exact hQ _ h' tk htk ⟨_, x, y, rfl, fr hz, fr hTO, fr l1, fr l2, Heap.lt_size hS, p1, p2, hp⟩ ⟨hk _ _ D.TIz D.TIi1 D.TIi2 hTI, ⟨a0, b0, hk _ _ D.TOz D.TOi1 D.TOi2 hTO⟩, h1', h2', .inr ⟨Nat.succ_pos _, a, true, oa, hz', hk _ _ r1 r2 r3 ha, r1, r2, r3, r4⟩⟩ fun b o hb e => hk b o (fun z => hb (by simp [z])) (fun z => hb (by simp [z])) (fun z => hb (by simp [z])) e
  done := fun s Q E st hQ => by
    obtain ⟨hTI, ⟨a0, b0, hTO⟩, h1, h2, hz⟩ := st
    rcases hz with ⟨e, hz⟩ | ⟨e, a, f, oa, hz, ha, r1, r2, r3, r4⟩
    · exact wpAny_with_toks (Nat.le_refl s.toks) (next_zip_endD S1 S2 D hz hTI hTO h1 h2 (.inl rfl) fun h' tk hk htk => hQ h' tk htk fun b o hb e => hk b o (fun z => hb (by simp [z])) (fun z => hb (by simp [z])) (fun z => hb (by simp [z])) (fun z => hb (by simp [z])) e)
    · exact next_zip_outEndD S1 D hz ha hTI h1 fun h' hk => hQ h' s.toks (Nat.le_refl _) fun b o hb e => hk b o (fun z => hb (by simp [z])) (fun z => hb (by simp [z])) (fun z => hb (by simp [z])) e
  self := fun s Q E st hQ => by
    obtain ⟨_, _, _, _, ⟨_, hz⟩ | ⟨e, _⟩⟩ := st
    · exact wpAny_pyIter_zip hz hQ
    · exact absurd e (Nat.lt_irrefl _)
end
end L2

set_option Elab.async false
set_option linter.all false
set_option maxRecDepth 100000
set_option maxHeartbeats 4000000
namespace L2
open PySem PySem.Spec PyProof.Rows
open Sem (wp)
/-! many new objects laid at once -/
def upds (H : Hp) : List (Addr × HO) → Hp
  | [] => H
  | p :: r => upd (upds H r) p.1 p.2
theorem upds_old {H : Hp} {m b : Addr} : ∀ {news : List (Addr × HO)}, (∀ p ∈ news, m ≤ p.1) → b < m → upds H news b = H b
  | [], _, _ => rfl
  | p :: r, hn, hb => by
    show upd (upds H r) p.1 p.2 b = H b
    rw [upd_ne (Nat.ne_of_lt (Nat.lt_of_lt_of_le hb (hn p List.mem_cons_self)))]
    exact upds_old (fun q hq => hn q (List.mem_cons_of_mem _ hq)) hb
theorem upds_cases {H : Hp} {b : Addr} {u : HO} : ∀ {news : List (Addr × HO)}, upds H news b = some u → (b, u) ∈ news ∨ H b = some u
  | [], e => .inr e
  | p :: r, e => by
    have e : upd (upds H r) p.1 p.2 b = some u := e
    by_cases hb : b = p.1
    · subst hb
      rw [upd_same] at e
      cases e
      exact .inl List.mem_cons_self
    · rw [upd_ne hb] at e
      exact (upds_cases e).imp (List.mem_cons_of_mem _) id
theorem upds_mem {H : Hp} {b : Addr} {u : HO} : ∀ {news : List (Addr × HO)}, (b, u) ∈ news → (∀ u', (b, u') ∈ news → u' = u) → upds H news b = some u
  | p :: r, hm, hu => by
    show upd (upds H r) p.1 p.2 b = some u
    by_cases hb : b = p.1
    · rw [hb, upd_same, hu p.2 (by rw [hb]; exact List.mem_cons_self)]
    · rw [upd_ne hb]
      rcases List.mem_cons.mp hm with e | e
      · exact absurd (congrArg (·.1) e) hb
      · exact upds_mem e fun u' h' => hu u' (List.mem_cons_of_mem _ h')
section
variable {P : Program} {w : World} {H : Hp} {h h' : Heap} {news : List (Addr × HO)}
theorem HOk.laids (x : HOk P w H h) (k : ∀ b u, h.get? b = some u → h'.get? b = some u) (hp : ∀ p ∈ news, h.objs.size ≤ p.1) (new : ∀ p ∈ news, ObjOk P w (upds H news) h' p.1 p.2) : HOk P w (upds H news) h' := fun b u e => by
  rcases upds_cases e with hm | e
  · exact new (b, u) hm
  · exact (x b u e).stay (fun c v _ q => k c v q) (fun c q => by rw [upds_old hp (x.lt q)]; exact q) fun c xs q => by rw [upds_old hp (x.lt q)]; exact q
theorem Un.laids {fs : List Addr} {ex : List Addr} (x : HOk P w H h) (k : ∀ b u, h.get? b = some u → h'.get? b = some u) (hp : ∀ p ∈ news, h.objs.size ≤ p.1) : Un fs ex H (upds H news) h h' where
  keep := fun b u q _ _ _ => k b u q
  slot := fun b u q _ _ _ => ⟨u.slots, k b u q⟩
  free := fun b u q n _ => by rw [upds_old hp (Heap.lt_size q)]; exact n
  there := fun b u q _ => ⟨u, k b u q⟩
  tups := fun b xs q => by rw [upds_old hp (x.lt q)]; exact q
  frzs := fun b u xs q => by rw [upds_old hp (x.lt q)]; exact q
  tbls := fun b ps q => ⟨#[], by rw [upds_old hp (x.lt q), q]; simp⟩
end
theorem Inv.laids {X : Cx} {pins : List (Addr × Obj)} {σ : St} {H : Hp} {s : Shared} {h' : Heap} {news : List (Addr × HO)} {t' : Nat} (I : Inv X pins σ H s) (k : ∀ b u, s.heap.get? b = some u → h'.get? b = some u) (hp : ∀ p ∈ news, s.heap.objs.size ≤ p.1) (new : ∀ p ∈ news, ObjOk X.prog X.w (upds H news) h' p.1 p.2) :
    Inv X pins σ (upds H news) { s with heap := h', toks := t' } := I.un (Un.laids I.hok k hp) (I.hok.laids k hp new)
def adr : Value → Addr
  | .ref q => q
  | _ => 0
theorem vals_adr : ∀ {l : List Value}, (∀ v ∈ l, ∃ q, v = .ref q) → Vals ((l.map adr).map V.ref) l
  | [], _ => .nil
  | v :: r, h => by
    obtain ⟨q, rfl⟩ := h _ List.mem_cons_self
    exact .cons rfl (vals_adr fun u hu => h u (List.mem_cons_of_mem _ hu))
theorem pair_inj {h : Heap} {q : Addr} {t1 t2 : Int} {k1 k2 u1 u2 : Tok} {c1 c2 : Nat} (a : IsPair h q (.int t1 k1) (.str ⟨#[c1]⟩ u1)) (b : IsPair h q (.int t2 k2) (.str ⟨#[c2]⟩ u2)) : t1 = t2 ∧ c1 = c2 := by
  have ee := Option.some.inj (a.symm.trans b)
  simp at ee
  exact ⟨ee.1.1, ee.2.1⟩
def tListZip (K : PySem.W.Frag) (t : TA) : TE := fun σ H Q => t σ H fun vs H1 => ∃ (a : Addr) (ts : List Int) (y : Str), vs = [.ref a, .str y] ∧ SqL K H1 a (ts.map V.int) ∧ ts.length = y.cps.size ∧ ts.length ≤ 1000 ∧
  ∀ (D : Addr) (qs : List Addr) (H' : Hp), (∀ b o, H1 b = some o → H' b = some o) → H1 D = none → H' D = some (.lst (qs.map V.ref)) → qs.length = ts.length → (∀ (i : Nat) (q : Addr) (t c), qs[i]? = some q → ts[i]? = some t → y.cps[i]? = some c → H' q = some (.tup [.int t, .str ⟨#[c]⟩])) → Q (.ref D) H'
section
variable {X : Cx} {e e2 : Expr} {t : TA} {p1 p2 pos pos2 : Pos}
theorem pe_listZip (hc : X.calm = true) (hg1 : Gl X "list") (hm1 : X.mg "list" = none) (hg2 : Gl X "zip") (hm2 : X.mg "zip" = none) (ha : PA X [e, e2] t)
    (hs : starEach [e, e2] X.env = (false, eval e X.env) :: starEach [e2] X.env := by rfl) (hpl : (backTo pos2 (starEach [e2] X.env)).any (·.1) = false := by rfl) :
    PE X (.Call (.Name "list" p1) [.Call (.Name "zip" p2) [e, e2] [] pos2] [] pos) (tListZip X.K t) := by
  intro pins s σ H Q I h
  refine wpAny_Call_Name_kw (ld_blt I hg1 hm1 (u := .type "list") (by decide +kernel) ?_ (by decide) (by decide))
  refine callWith_type1 (Calls.spliced_cons (wpAny_Call_Name_kw (ld_blt I hg2 hm2 (u := .type "zip") (by decide +kernel) ?_ (by decide) (by decide)))) rfl rfl
  refine callWith_type1 (thn (ha pos2 pins s σ H _ I h) fun us s1 ⟨vs, H1, I1, r1, a, ts, y, ex, hqx, hly, h1000, q⟩ => ?_) hs hpl
  subst ex
  cases r1 with
  | cons r rr =>
    cases rr with
    | cons r' rr =>
      cases rr
      cases r
      obtain ⟨tk0, rfl⟩ := r'
      obtain ⟨its, rv, p1, _⟩ := I1.list hqx
      have la : a < s1.heap.objs.size := p1.lt
      have hil : its.length = ts.length := by have := rv.length; rw [List.length_map] at this; exact this.symm
      refine call_zipG rfl rfl (iter_list_new p1.isList) iter_str_new fun h' hz hTI hTO h1 h2 hsz hk => Calls.spliced_nil ?_
      have lz : ∀ k : Nat, a ≠ s1.heap.objs.size + k := fun k => Nat.ne_of_lt (Nat.lt_of_lt_of_le la (Nat.le_add_right _ k))
      have ap : ApartD (s1.heap.objs.size + 4) (s1.heap.objs.size + 2) (s1.heap.objs.size + 3) s1.heap.objs.size (s1.heap.objs.size + 1) [s1.heap.objs.size, a] [s1.heap.objs.size + 1] := by
        refine ⟨?_, ?_, ?_, ?_, ?_, ?_, ?_, ?_, ?_, ?_, fun b hb => ?_, fun b hb => ?_⟩
        all_goals first
          | exact Nat.ne_of_lt (by omega)
          | exact Nat.ne_of_gt (by omega)
          | skip
        · have e' : b = s1.heap.objs.size ∨ b = a := by simpa using hb
          rcases e' with z | z
          · rw [z]; exact ⟨Nat.ne_of_lt (by omega), Nat.ne_of_lt (by omega), Nat.ne_of_lt (by omega)⟩
          · rw [z]; exact ⟨lz 4, lz 3, lz 1⟩
        · have e' : b = s1.heap.objs.size + 1 := by simpa using hb
          rw [e']; exact ⟨Nat.ne_of_lt (by omega), Nat.ne_of_lt (by omega), Nat.ne_of_gt (by omega)⟩
      have hn1 : its.toArray.size = y.cps.size := by rw [List.size_toArray, hil, hly]
      have W := walk_zip (prog := X.prog) (w := X.w) (A := X.A.in1.in1) (S := h'.objs.size) (I.ok.hd hc) (Draws.list (A := X.A.in1.in1.in1) (I.ok.hd hc) s1.heap.objs.size a (lz 0) its.toArray) (hn1 ▸ Draws.str (A := X.A.in1.in1.in1) (I.ok.hd hc) (s1.heap.objs.size + 1) y tk0 (strTy y)) ap
        (by rw [hsz]; exact Nat.ne_of_lt (by omega)) (by rw [hsz]; exact Nat.ne_of_lt (by omega)) (by rw [hsz]; exact Nat.ne_of_lt (by omega)) (fun b hb => by
          have e' : b = s1.heap.objs.size ∨ b = a := by simpa using hb
          rw [hsz]
          rcases e' with z | z
          · rw [z]; exact Nat.ne_of_lt (by omega)
          · rw [z]; exact lz 5) (fun b hb => by
          have e' : b = s1.heap.objs.size + 1 := by simpa using hb
          rw [hsz, e']; exact Nat.ne_of_lt (by omega))
      refine call_listZ (s := { s1 with heap := h' }) W (fun i s st => st.ty) ⟨hTI, ⟨_, _, hTO⟩, ⟨⟨_, h1, rfl, rfl⟩, ?_⟩, ⟨_, h2, rfl, rfl⟩, .inl ⟨rfl, hz⟩⟩ ?_ ?_ (fun s' acc c hkp hS hacc => ?_) ?_
      · exact p1.isList.at fun o e => hk _ _ e
      · intro b hb
        have e' : b = s1.heap.objs.size + 4 ∨ b = s1.heap.objs.size + 3 ∨ b = s1.heap.objs.size ∨ b = s1.heap.objs.size + 1 := by simpa using hb
        show b < h'.objs.size
        rw [hsz]
        rcases e' with z | z | z | z <;> rw [z] <;> first | exact Nat.add_lt_add_left (by decide) _ | exact Nat.lt_add_of_pos_right (by decide)
      · show _ < h'.objs.size
        rw [hsz]; exact Nat.add_lt_add_left (by decide) _
      · obtain ⟨hp', g', d', tk', os'⟩ := s'
        obtain ⟨hk2, e1, e2, e3, htk⟩ := hkp
        replace e1 : g' = s1.gens := e1
        replace e2 : d' = s1.drawn := e2
        replace e3 : os' = s1.os := e3
        subst e1 e2 e3
        replace hS : hp'.get? h'.objs.size = some { cls := .type "list", dict := none, data := .seq acc c, slots := #[] } := hS
        have K : ∀ b u, s1.heap.get? b = some u → hp'.get? b = some u := fun b u e => by
          refine hk2 b u (fun m => ?_) (Heap.get?_push_of_some _ (hk b u e))
          have lt := Heap.lt_size e
          have m' : b = h'.objs.size ∨ b = s1.heap.objs.size + 4 ∨ b = s1.heap.objs.size + 3 ∨ b = s1.heap.objs.size ∨ b = s1.heap.objs.size + 1 := by simpa using m
          rw [hsz] at m'
          rcases m' with z | z | z | z | z <;> rw [z] at lt <;> first | exact absurd lt (Nat.not_lt.mpr (Nat.le_add_right _ _)) | exact absurd lt (Nat.lt_irrefl _)
        obtain ⟨hsa, hit⟩ := hacc
        have hsa' : acc.size = ts.length := by rw [hsa, List.size_toArray, hil]
        have hF : ∀ i : Nat, i < ts.length → ∃ tk u, h'.objs.size < adr (acc.toList.getD i .none) ∧ acc.toList[i]? = some (.ref (adr (acc.toList.getD i .none))) ∧ IsPair hp' (adr (acc.toList.getD i .none)) (.int (ts.getD i 0) tk) (.str ⟨#[y.cps.toList.getD i 0]⟩ u) := by
          intro i hi
          have hia : acc[i]? = some acc[i] := Array.getElem?_eq_getElem (by omega)
          obtain ⟨qq, x, yv, ev, _, _, _, _, hlt, px, ⟨cc, u, hcc, rfl⟩, hpair⟩ := hit i _ hia
          have hia2 : acc.toList[i]? = some (.ref qq) := by rw [Array.getElem?_toList, hia, ev]
          have hg : acc.toList.getD i .none = .ref qq := by rw [List.getD_eq_getElem?_getD, hia2]; rfl
          have ht : ts[i]? = some ts[i] := List.getElem?_eq_getElem hi
          obtain ⟨u1, hu1, ru1⟩ := rv.get (i := i) (x := V.int ts[i]) (by rw [List.getElem?_map, ht]; rfl)
          have px' : its[i]? = some x := by simpa using px
          rw [hu1] at px'
          cases px'
          obtain ⟨tkk, rfl⟩ := ru1
          refine ⟨tkk, u, ?_, ?_, ?_⟩
          · rw [hg]; exact hlt
          · rw [hg]; exact hia2
          · rw [hg, List.getD_eq_getElem?_getD, ht, List.getD_eq_getElem?_getD, Array.getElem?_toList, hcc]; exact hpair
        generalize hqs : acc.toList.map adr = qs
        have hql : qs.length = ts.length := by rw [← hqs, List.length_map, Array.length_toList, hsa']
        have hqg : ∀ i : Nat, i < ts.length → qs[i]? = some (adr (acc.toList.getD i .none)) := fun i hi => by
          obtain ⟨_, _, _, e, _⟩ := hF i hi
          rw [← hqs, List.getElem?_map, e]; rfl
        have hlb : ∀ b : Addr, h'.objs.size ≤ b → s1.heap.objs.size ≤ b := fun b hb => Nat.le_trans (by rw [hsz]; exact Nat.le_add_right _ _) hb
        generalize hnw : ((h'.objs.size, HO.lst (qs.map V.ref)) :: (List.range ts.length).map fun i => (adr (acc.toList.getD i .none), HO.tup [.int (ts.getD i 0), .str ⟨#[y.cps.toList.getD i 0]⟩])) = news
        have hmem : ∀ p : Addr × HO, p ∈ news → p = (h'.objs.size, HO.lst (qs.map V.ref)) ∨ ∃ i, i < ts.length ∧ p = (adr (acc.toList.getD i .none), HO.tup [.int (ts.getD i 0), .str ⟨#[y.cps.toList.getD i 0]⟩]) := by
          intro p hp
          rw [← hnw] at hp
          rcases List.mem_cons.mp hp with e | e
          · exact .inl e
          · obtain ⟨i, hi, e⟩ := List.mem_map.mp e
            exact .inr ⟨i, List.mem_range.mp hi, e.symm⟩
        have hin0 : (h'.objs.size, HO.lst (qs.map V.ref)) ∈ news := by rw [← hnw]; exact List.mem_cons_self
        have hini : ∀ i, i < ts.length → (adr (acc.toList.getD i .none), HO.tup [.int (ts.getD i 0), .str ⟨#[y.cps.toList.getD i 0]⟩]) ∈ news := fun i hi => by
          rw [← hnw]
          exact List.mem_cons_of_mem _ (List.mem_map.mpr ⟨i, List.mem_range.mpr hi, rfl⟩)
        have HP : ∀ p ∈ news, s1.heap.objs.size ≤ p.1 := fun p hp => by
          rcases hmem p hp with rfl | ⟨i, hi, rfl⟩
          · exact hlb _ (Nat.le_refl _)
          · obtain ⟨_, _, l, _⟩ := hF i hi
            exact hlb _ (Nat.le_of_lt l)
        have hV : Vals (qs.map V.ref) acc.toList := by
          rw [← hqs]
          refine vals_adr fun v hv => ?_
          obtain ⟨i, hi⟩ := List.getElem?_of_mem hv
          have hlt : i < acc.toList.length := (List.getElem?_eq_some_iff.mp hi).1
          obtain ⟨_, _, _, e, _⟩ := hF i (by rw [Array.length_toList, hsa'] at hlt; exact hlt)
          rw [hi] at e
          exact ⟨_, Option.some.inj e⟩
        have NEW : ∀ p ∈ news, ObjOk X.prog X.w (upds H1 news) hp' p.1 p.2 := fun p hp => by
          rcases hmem p hp with rfl | ⟨i, hi, rfl⟩
          · exact ⟨by rw [List.length_map, hql]; exact Nat.le_trans h1000 (by rw [sizeLine_eq]; decide), acc.toList, c, hV, by simpa using hS⟩
          · obtain ⟨tk, u, _, _, hp⟩ := hF i hi
            exact ⟨by show 2 ≤ sizeLine; rw [sizeLine_eq]; decide, [.int (ts.getD i 0) tk, .str ⟨#[y.cps.toList.getD i 0]⟩ u], .cons ⟨_, rfl⟩ (.cons ⟨_, rfl⟩ .nil), ⟨_, hp, rfl, _, rfl⟩⟩
        have hD : upds H1 news h'.objs.size = some (.lst (qs.map V.ref)) := upds_mem hin0 fun u' hu => by
          rcases hmem _ hu with e | ⟨i, hi, e⟩
          · exact congrArg (·.2) e
          · obtain ⟨_, _, l, _⟩ := hF i hi
            have := congrArg (·.1) e
            exact absurd this (Nat.ne_of_lt l)
        have hTi : ∀ i, i < ts.length → upds H1 news (adr (acc.toList.getD i .none)) = some (.tup [.int (ts.getD i 0), .str ⟨#[y.cps.toList.getD i 0]⟩]) := fun i hi => upds_mem (hini i hi) fun u' hu => by
          obtain ⟨tk, u, l, _, hp⟩ := hF i hi
          rcases hmem _ hu with e | ⟨j, hj, e⟩
          · exact absurd (congrArg (·.1) e) (Nat.ne_of_gt l)
          · obtain ⟨tk2, u2, _, _, hp2⟩ := hF j hj
            have ea := congrArg (·.1) e
            have eb := congrArg (·.2) e
            replace ea : adr (acc.toList.getD i .none) = adr (acc.toList.getD j .none) := ea
            rw [← ea] at hp2
            obtain ⟨x1, x2⟩ := pair_inj hp hp2
            rw [x1, x2]
            exact eb
        refine ⟨.ref _, upds H1 news, I1.laids (t' := tk') K HP NEW, rfl, ?_⟩
        refine q _ qs (upds H1 news) (fun b o e => by rw [upds_old HP (I1.hok.lt e)]; exact e) (I1.hok.fresh (hlb _ (Nat.le_refl _))) hD hql fun i q t cc hq ht hcc => ?_
        have hi : i < ts.length := (List.getElem?_eq_some_iff.mp ht).1
        have e1 := hqg i hi
        rw [hq] at e1
        have e2 := hTi i hi
        rw [← Option.some.inj e1, List.getD_eq_getElem?_getD, ht, List.getD_eq_getElem?_getD, Array.getElem?_toList, hcc] at e2
        exact e2
      · rw [List.size_toArray, hil]
        exact Nat.le_trans h1000 (by rw [sizeLine_eq]; decide)
end
end L2

set_option Elab.async false
set_option linter.all false
set_option maxRecDepth 100000
set_option maxHeartbeats 4000000
namespace L2
open PySem PySem.Spec PyProof.Rows
section
variable {g : TG} {tb : TS} {D : Ends} {σ : St} {H : Hp}
/-- for x in reversed(list), from the back (the layer's pi_reversed gives Itv) -/
theorem for_revL {K : PySem.W.Frag} {a : Addr} {xs : List V} (Pv : Nat → St → Hp → Prop) (h0 : Pv 0 σ H) (hl : ∀ i σ H, Pv i σ H → SqL K H a xs) (hs : ∀ i v σ H, i < xs.length → xs[xs.length - 1 - i]? = some v → Pv i σ H → g v σ H fun σ2 H2 => tb { D with nx := Pv (i + 1), ct := Pv (i + 1), bk := D.nx } σ2 H2) (hd : ∀ σ H, Pv xs.length σ H → D.nx σ H) :
    ∃ W : Nat → Nat → St → Hp → Prop, (∃ m, W 0 m σ H) ∧ ∀ i m σ H, W i m σ H →
      ((Itv K a xs.length).stop i H ∧ D.nx σ H) ∨ ((Itv K a xs.length).go i H ∧ ∃ N : St → Hp → Prop, (∀ σ' H', N σ' H' → ∃ m', m' < m ∧ W (i + 1) m' σ' H') ∧ ∀ x H', (Itv K a xs.length).yld i H x H' → g x σ H' fun σ2 H2 => tb { D with nx := N, ct := N, bk := D.nx } σ2 H2) := by
  refine ⟨fun i m σ H => m = xs.length - i ∧ i ≤ xs.length ∧ Pv i σ H, ⟨xs.length, by simp, Nat.zero_le _, h0⟩, ?_⟩
  rintro i m σ H ⟨rfl, hi, p⟩
  by_cases hlt : i < xs.length
  · refine .inr ⟨⟨hlt, xs, xs[xs.length - 1 - i]'(by omega), hl i σ H p, List.getElem?_eq_getElem (by omega)⟩, Pv (i + 1), fun σ' H' p' => ⟨xs.length - (i + 1), by omega, rfl, hlt, p'⟩, fun x H' y => ?_⟩
    obtain ⟨e1, e2⟩ := y
    subst e1
    exact hs i x σ H' hlt (e2 xs (hl i σ H' p)) p
  · have e : i = xs.length := by omega
    subst e
    exact .inl ⟨Nat.le_refl _, hd σ H p⟩
end
end L2

set_option Elab.async false
set_option linter.all false
set_option maxRecDepth 100000
set_option maxHeartbeats 4000000
namespace W
open PySem L2 WM
/-- a comprehension over a text whose turns draw: each told value has R -/
theorem lc_strD {p D : Addr} {g : TG} {tt : TT} {te : TE} {vs : List Nat} {σ : St} {H1 : Hp} {Qd : Hp → Prop} {l : List Nat} (R : V → Prop) (D1 : DrAt H1 p) (hD : H1 D = none) (hz : l.length < sizeLine)
    (hs : ∀ c H, c ∈ l → DrAt H p → But p H1 H → (∃ l, H D = some (.lst l)) → ∀ (Qy : V → Hp → Prop), (∀ y H', R y → DrAt H' p → But p H H' → Qy y H') →
      g (.str (txt [c])) (wipe σ vs) H fun σ2 H2 => wipe σ2 vs = wipe σ vs ∧ tt σ2 H2 fun b H3 => b = true ∧ te σ2 H3 Qy)
    (hd : ∀ H' ys, ys.length = l.length → (∀ y ∈ ys, R y) → DrAt H' p → But p H1 H' → H' D = some (.lst ys) → Qd H')
    (mono : ∀ (σ2 : St) (H2 : Hp) (P Q : Bool → Hp → Prop), (∀ b H, P b H → Q b H) → tt σ2 H2 P → tt σ2 H2 Q) (mono2 : ∀ (v : V) (σ2 : St) (H2 : Hp) (P Q : St → Hp → Prop), (∀ s H, P s H → Q s H) → g v σ2 H2 P → g v σ2 H2 Q) :
    ∃ W : Nat → Nat → Hp → Prop, (∃ m, W 0 m (upd H1 D (.lst []))) ∧ ∀ i m H, W i m H →
      ((Its (txt l)).stop i H ∧ Qd H) ∨ ((Its (txt l)).go i H ∧ ∃ Nx : Hp → Prop, (∀ H', Nx H' → ∃ m', m' < m ∧ W (i + 1) m' H') ∧ ∀ x H', (Its (txt l)).yld i H x H' → g x (wipe σ vs) H' fun σ2 H2 => wipe σ2 vs = wipe σ vs ∧ tt σ2 H2 fun b H3 =>
        if b = true then te σ2 H3 fun y H4 => ∃ acc, H4 D = some (.lst acc) ∧ acc.length < sizeLine ∧ Nx (upd H4 D (.lst (acc ++ [y]))) else Nx H3) := by
  have hDp : D ≠ p := D1.ne hD
  refine lc_str (x := txt l) (fun i H => i ≤ l.length ∧ DrAt H p ∧ But p H1 H ∧ ∃ ys : List V, ys.length = i ∧ (∀ y ∈ ys, R y) ∧ H D = some (.lst ys)) ⟨Nat.zero_le _, D1.new hD, But.new hD, [], rfl, (fun y m => by cases m), upd_same⟩ (fun i c H hc h => ?_) (fun H h => ?_)
  · obtain ⟨_, dH, bH, ys, hl, hR, hL⟩ := h
    have hc' : l[i]? = some c := by simpa [txt] using hc
    have hi := (List.getElem?_eq_some_iff.mp hc').1
    refine mono2 _ _ _ _ _ ?_ (hs c H (List.mem_of_getElem? hc') dH bH ⟨_, hL⟩ (fun y H4 => ∃ acc, H4 D = some (.lst acc) ∧ acc.length < sizeLine ∧ (i + 1 ≤ l.length ∧ DrAt (upd H4 D (.lst (acc ++ [y]))) p ∧ But p H1 (upd H4 D (.lst (acc ++ [y]))) ∧ ∃ ys : List V, ys.length = i + 1 ∧ (∀ y ∈ ys, R y) ∧ (upd H4 D (.lst (acc ++ [y]))) D = some (.lst ys))) ?_)
    · rintro s H2 ⟨e, h2⟩
      refine ⟨e, mono _ _ _ _ ?_ h2⟩
      rintro b H3 ⟨rfl, h3⟩
      rw [if_pos rfl]
      exact h3
    · intro y H' r d' b'
      refine ⟨ys, b' _ _ hL hDp, by omega, hi, d'.set hDp, (bH.trans b').set hD, ys ++ [y], by rw [List.length_append, hl]; rfl, ?_, upd_same⟩
      intro z hz'
      rcases List.mem_append.mp hz' with m | m
      · exact hR z m
      · rw [List.mem_singleton.mp m]; exact r
  · obtain ⟨_, dH, bH, ys, hl, hR, hL⟩ := h
    exact hd H ys (by rw [hl]; show l.toArray.size = _; simp) hR dH bH hL
end W

set_option Elab.async false
set_option linter.all false
set_option maxRecDepth 100000
set_option maxHeartbeats 4000000
namespace W
open PySem L2 WM
def top (i : Nat) : Stmt := PySem.Challenge.pw_strikewheel_k53_slips_refused.main.body.getD i (.Pass ⟨0, 0, 0, 0⟩)
end W

set_option Elab.async false
set_option linter.all false
set_option maxRecDepth 100000
set_option maxHeartbeats 4000000
namespace W
open PySem L2 WM
abbrev sKind : Stmt := top 43
abbrev psKind : List Str := ["e"]
theorem scKind : FnScope ["e", "some", "names", "k"] ["e"] (defScope sKind) := ⟨rfl, rfl, rfl, by decide +kernel, rfl, by decide +kernel, by decide +kernel⟩
theorem lKind_1 : Loc (defScope sKind) "some" := Or.inr (by decide +kernel)
theorem vKind_1 : Vis (defScope sKind) "some" := Or.inr (Or.inl (by decide +kernel))
theorem lKind_2 : Loc (defScope sKind) "names" := Or.inr (by decide +kernel)
theorem vKind_2 : Vis (defScope sKind) "names" := Or.inr (Or.inl (by decide +kernel))
section
variable {P : Program} {w : World} {K : PySem.W.Frag} {mg : Str → Option Value} {base : Heap}
theorem ok_kind {f : Addr} {fd : FuncData} {c : Cls14} (F : Fun K "_law_kind" "_law_kind" sKind f fd) (T : Txt mg) (R : Ref K mg c) : FnOkH P w K mg base 1 f fd ["e"] (spKind K c) := by
  obtain ⟨oc, od, kV, doc, pm, an, cdv, ct, osl, rfl, lk, hcd⟩ := F.ex
  refine fn_ofH lk hcd scKind (fun x C vs H Q h => ?_) (fun A outer s H vs Q x C hX h => ?_)
  · obtain ⟨bs, rfl, _⟩ := h
    rfl
  · obtain ⟨bs, rfl, ⟨⟨b0, b1, b2, b3, b4, b5, b6, b7, b8, b9, b10, b11, b12, b13, b14, rfl, k0, k1, k2, k3, k4, k5, k6, k7, k8, k9, k10, k11, k12, k13, k14⟩, Z⟩, hz, k⟩ := h
    have hX' : HdX (cxH P w K mg base ["e", "some", "names", "k"] "_law_kind" (defScope sKind) f cdv A outer s H).nox x C := hX
    have pI : ∀ {nm : Str} {a : Addr} {p1 p2 p3 pos : Pos}, Gl (cxH P w K mg base ["e", "some", "names", "k"] "_law_kind" (defScope sKind) f cdv A outer s H).nox nm → mg nm = some (.ref a) → (nm == ("__debug__" : Str)) = false →
        PE (cxH P w K mg base ["e", "some", "names", "k"] "_law_kind" (defScope sKind) f cdv A outer s H).nox (.Call (.Name "isinstance" p1) [.Name "e" p2, .Name nm p3] [] pos) (tCB (rIsE K x C) (tCons (tVar 0) (tCons (tC (.ref a)) tNil))) :=
      fun hg hm hd => pe_callB (cr_isE hX' Z) (by rfl) T.isi boot_isi (pa_cons (pv 0) (pa_cons (pe_glob hg hm rfl hd) pa_nil))
    refine ⟨_, (@pss_cons _ _ _ _ _ (@ps_set _ _ 1 _ _ _ _ scKind.nd rfl lKind_1 (@pe_lst _ _ _ _ (@pa_cons _ _ _ _ _ (@pI _ _ _ _ _ _ (by rfl) R.m0 (by decide)) (@pa_cons _ _ _ _ _ (@pI _ _ _ _ _ _ (by rfl) R.m1 (by decide)) (@pa_cons _ _ _ _ _ (@pI _ _ _ _ _ _ (by rfl) R.m2 (by decide)) (@pa_cons _ _ _ _ _ (@pI _ _ _ _ _ _ (by rfl) R.m3 (by decide)) (@pa_nil _) (by rfl)) (by rfl)) (by rfl)) (by rfl))) (by rfl) (by first | exact .inl rfl | exact .inr rfl | assumption)) (@pss_cons _ _ _ _ _ (@ps_set _ _ 1 _ _ _ _ scKind.nd rfl lKind_1 (@pe_op _ _ _ _ _ _ _ _ op_cat (@pv _ 1 _ _ (by rfl) vKind_1 (by decide) (by decide)) (@pe_lst _ _ _ _ (@pa_cons _ _ _ _ _ (@pI _ _ _ _ _ _ (by rfl) R.m4 (by decide)) (@pa_cons _ _ _ _ _ (@pI _ _ _ _ _ _ (by rfl) R.m5 (by decide)) (@pa_cons _ _ _ _ _ (@pI _ _ _ _ _ _ (by rfl) R.m6 (by decide)) (@pa_cons _ _ _ _ _ (@pI _ _ _ _ _ _ (by rfl) R.m7 (by decide)) (@pa_nil _) (by rfl)) (by rfl)) (by rfl)) (by rfl)))) (by rfl) (by first | exact .inl rfl | exact .inr rfl | assumption)) (@pss_cons _ _ _ _ _ (@ps_set _ _ 1 _ _ _ _ scKind.nd rfl lKind_1 (@pe_op _ _ _ _ _ _ _ _ op_cat (@pv _ 1 _ _ (by rfl) vKind_1 (by decide) (by decide)) (@pe_lst _ _ _ _ (@pa_cons _ _ _ _ _ (@pI _ _ _ _ _ _ (by rfl) R.m8 (by decide)) (@pa_cons _ _ _ _ _ (@pI _ _ _ _ _ _ (by rfl) R.m9 (by decide)) (@pa_cons _ _ _ _ _ (@pI _ _ _ _ _ _ (by rfl) R.m10 (by decide)) (@pa_cons _ _ _ _ _ (@pI _ _ _ _ _ _ (by rfl) R.m11 (by decide)) (@pa_nil _) (by rfl)) (by rfl)) (by rfl)) (by rfl)))) (by rfl) (by first | exact .inl rfl | exact .inr rfl | assumption)) (@pss_cons _ _ _ _ _ (@ps_set _ _ 1 _ _ _ _ scKind.nd rfl lKind_1 (@pe_op _ _ _ _ _ _ _ _ op_cat (@pv _ 1 _ _ (by rfl) vKind_1 (by decide) (by decide)) (@pe_lst _ _ _ _ (@pa_cons _ _ _ _ _ (@pI _ _ _ _ _ _ (by rfl) R.m12 (by decide)) (@pa_cons _ _ _ _ _ (@pI _ _ _ _ _ _ (by rfl) R.m13 (by decide)) (@pa_cons _ _ _ _ _ (@pe_callB _ _ _ _ _ _ _ _ _ (cr_isE hX' Z) (by rfl) T.isi boot_isi (@pa_cons _ _ _ _ _ (@pv _ 0 _ _ (by rfl) (by first | exact Or.inl rfl | exact Or.inr (Or.inl rfl) | exact Or.inr (Or.inr rfl)) (by decide) (by decide)) (@pa_cons _ _ _ _ _ (@pe_bltn _ _ (.ty "ValueError") _ _ (by rfl) T.ve (by decide +kernel) rfl (by decide) (by decide)) (@pa_nil _) (by rfl)) (by rfl)) (by decide) (by decide) (by rfl) (by rfl)) (@pa_nil _) (by rfl)) (by rfl)) (by rfl)))) (by rfl) (by first | exact .inl rfl | exact .inr rfl | assumption)) (@pss_cons _ _ _ _ _ (@ps_setC _ _ 2 "names" ((kinds.take 10).map V.str) (by decide +kernel) scKind.nd rfl lKind_2 (by first | exact .inl rfl | exact .inr rfl | assumption)) (@pss_cons _ _ _ _ _ (@ps_catC _ _ 2 2 "names" "names" ((kinds.drop 10).map V.str) (by decide +kernel) scKind.nd rfl lKind_2 rfl vKind_2 (by decide) (by decide) (by first | exact .inl rfl | exact .inr rfl | assumption)) (@pss_one _ _ _ (@ps_ret _ _ _ _ (@pe_join _ _ _ _ _ _ _ (@pe_str _ _ _ _) (@pe_lcR _ _ _ _ _ _ [("k", 3)] _ _ (gName 3) _ _ _ _ hX' scKind.nd (pi_range1R (by rfl) T.range (@pa_cons _ _ _ _ _ (@pe_int _ _ _ _) (@pa_nil _) (by rfl))) (blkOk_by (own := [("k", 3)]) (N := ["e", "some", "names", "k"]) (sc := defScope sKind) (by decide +kernel)) (fun _ _ _ _ _ => (@pg_name _ _ 3 _ scKind.nd rfl (Or.inl rfl) (by first | exact .inl rfl | exact .inr rfl | assumption))) (fun _ _ _ _ _ => (@pts_one _ _ _ (@pt_val _ _ _ (@pe_ix _ _ _ _ _ _ (rIxL K) ix_list (@pv _ 1 _ _ (by rfl) (by first | exact Or.inl rfl | exact Or.inr (Or.inl rfl) | exact Or.inr (Or.inr rfl)) (by decide) (by decide)) (@pv _ 3 _ _ (by rfl) (by first | exact Or.inl rfl | exact Or.inr (Or.inl rfl) | exact Or.inr (Or.inr rfl)) (by decide) (by decide)) (fun _ _ => rfl)) (by intro _ ; rfl)))) (fun _ _ _ _ _ => (@pe_ix _ _ _ _ _ _ (rIxL K) ix_list (@pv _ 2 _ _ (by rfl) (by first | exact Or.inl rfl | exact Or.inr (Or.inl rfl) | exact Or.inr (Or.inr rfl)) (by decide) (by decide)) (@pv _ 3 _ _ (by rfl) (by first | exact Or.inl rfl | exact Or.inr (Or.inl rfl) | exact Or.inr (Or.inr rfl)) (by decide) (by decide)) (fun _ _ => rfl))) (by intro _ ; rfl)) (by rfl) (by rfl) (by rfl)))))))))), ?_⟩
    -- some
    have sm0 : Same H H := Same.refl H
    refine ⟨_, rfl, _, _, _, rfl, rfl, k0, _, rfl, _, _, _, rfl, rfl, k1, _, rfl, _, _, _, rfl, rfl, k2, _, rfl, _, _, _, rfl, rfl, k3, (by show 4 ≤ sizeLine; decide), fun l1 h1 => ?_⟩
    refine ⟨_, rfl, _, rfl, _, _, _, rfl, rfl, k4, _, rfl, _, _, _, rfl, rfl, k5, _, rfl, _, _, _, rfl, rfl, k6, _, rfl, _, _, _, rfl, rfl, k7, (by show 4 ≤ sizeLine; decide), fun l2 h2 => ?_⟩
    have n12 : l1 ≠ l2 := ne_of_none upd_same h2
    refine ⟨l1, l2, _, _, rfl, rfl, (by rw [upd_ne n12]; exact upd_same), upd_same, (by show 8 ≤ sizeLine; decide), fun l3 h3 => ?_⟩
    refine ⟨_, rfl, _, rfl, _, _, _, rfl, rfl, k8, _, rfl, _, _, _, rfl, rfl, k9, _, rfl, _, _, _, rfl, rfl, k10, _, rfl, _, _, _, rfl, rfl, k11, (by show 4 ≤ sizeLine; decide), fun l4 h4 => ?_⟩
    have n34 : l3 ≠ l4 := ne_of_none upd_same h4
    refine ⟨l3, l4, _, _, rfl, rfl, (by rw [upd_ne n34]; exact upd_same), upd_same, (by show 12 ≤ sizeLine; decide), fun l5 h5 => ?_⟩
    refine ⟨_, rfl, _, rfl, _, _, _, rfl, rfl, k12, _, rfl, _, _, _, rfl, rfl, k13, _, rfl, _, _, _, rfl, rfl, k14, (by show 3 ≤ sizeLine; decide), fun l6 h6 => ?_⟩
    have n56 : l5 ≠ l6 := ne_of_none upd_same h6
    refine ⟨l5, l6, _, _, rfl, rfl, (by rw [upd_ne n56]; exact upd_same), upd_same, (by show 15 ≤ sizeLine; decide), fun l7 h7 => ?_⟩
    generalize hbs : [b0, b1, b2, b3, b4, b5, b6, b7, b8, b9, b10, b11, b12, b13, b14] = bs at hz k
    have hb15 : bs.length = 15 := by rw [← hbs]; rfl
    have hl7 : ∀ H1 : Hp, H1 l7 = none → (upd H1 l7 (.lst ((([V.bl b0, V.bl b1, V.bl b2, V.bl b3] ++ [V.bl b4, V.bl b5, V.bl b6, V.bl b7]) ++ [V.bl b8, V.bl b9, V.bl b10, V.bl b11]) ++ [V.bl b12, V.bl b13, V.bl b14]))) l7 = some (.lst (bs.map V.bl)) := fun H1 _ => by rw [upd_same, ← hbs]; rfl
    have e7 := hl7 _ h7
    have s7 : Same H (upd (upd (upd (upd (upd (upd (upd H l1 (.lst [V.bl b0, V.bl b1, V.bl b2, V.bl b3])) l2 (.lst [V.bl b4, V.bl b5, V.bl b6, V.bl b7])) l3 (.lst ([V.bl b0, V.bl b1, V.bl b2, V.bl b3] ++ [V.bl b4, V.bl b5, V.bl b6, V.bl b7]))) l4 (.lst [V.bl b8, V.bl b9, V.bl b10, V.bl b11])) l5 (.lst (([V.bl b0, V.bl b1, V.bl b2, V.bl b3] ++ [V.bl b4, V.bl b5, V.bl b6, V.bl b7]) ++ [V.bl b8, V.bl b9, V.bl b10, V.bl b11]))) l6 (.lst [V.bl b12, V.bl b13, V.bl b14])) l7 (.lst ((([V.bl b0, V.bl b1, V.bl b2, V.bl b3] ++ [V.bl b4, V.bl b5, V.bl b6, V.bl b7]) ++ [V.bl b8, V.bl b9, V.bl b10, V.bl b11]) ++ [V.bl b12, V.bl b13, V.bl b14]))) :=
      (((((((Same.new h1).trans (Same.new h2)).trans (Same.new h3)).trans (Same.new h4)).trans (Same.new h5)).trans (Same.new h6)).trans (Same.new h7))
    generalize (upd (upd (upd (upd (upd (upd (upd H l1 (.lst [V.bl b0, V.bl b1, V.bl b2, V.bl b3])) l2 (.lst [V.bl b4, V.bl b5, V.bl b6, V.bl b7])) l3 (.lst ([V.bl b0, V.bl b1, V.bl b2, V.bl b3] ++ [V.bl b4, V.bl b5, V.bl b6, V.bl b7]))) l4 (.lst [V.bl b8, V.bl b9, V.bl b10, V.bl b11])) l5 (.lst (([V.bl b0, V.bl b1, V.bl b2, V.bl b3] ++ [V.bl b4, V.bl b5, V.bl b6, V.bl b7]) ++ [V.bl b8, V.bl b9, V.bl b10, V.bl b11]))) l6 (.lst [V.bl b12, V.bl b13, V.bl b14])) l7 (.lst ((([V.bl b0, V.bl b1, V.bl b2, V.bl b3] ++ [V.bl b4, V.bl b5, V.bl b6, V.bl b7]) ++ [V.bl b8, V.bl b9, V.bl b10, V.bl b11]) ++ [V.bl b12, V.bl b13, V.bl b14]))) = H7 at e7 s7 ⊢
    -- names
    refine ⟨(by show 10 ≤ sizeLine; decide), fun l8 h8 => ?_⟩
    refine ⟨_, rfl, (by show 5 ≤ sizeLine; decide), fun l9 h9 => ?_⟩
    have n89 : l8 ≠ l9 := ne_of_none upd_same h9
    refine ⟨l8, l9, _, _, rfl, rfl, (by rw [upd_ne n89]; exact upd_same), upd_same, (by show 15 ≤ sizeLine; decide), fun l10 h10 => ?_⟩
    have e10 : (upd (upd (upd H7 l8 (.lst ((kinds.take 10).map V.str))) l9 (.lst ((kinds.drop 10).map V.str))) l10 (.lst ((kinds.take 10).map V.str ++ (kinds.drop 10).map V.str))) l10 = some (.lst (kinds.map V.str)) := by rw [upd_same]; rfl
    have s10 : Same H7 (upd (upd (upd H7 l8 (.lst ((kinds.take 10).map V.str))) l9 (.lst ((kinds.drop 10).map V.str))) l10 (.lst ((kinds.take 10).map V.str ++ (kinds.drop 10).map V.str))) := ((Same.new h8).trans (Same.new h9)).trans (Same.new h10)
    generalize (upd (upd (upd H7 l8 (.lst ((kinds.take 10).map V.str))) l9 (.lst ((kinds.drop 10).map V.str))) l10 (.lst ((kinds.take 10).map V.str ++ (kinds.drop 10).map V.str))) = H10 at e10 s10 ⊢
    -- the join
    refine ⟨⟨_, rfl⟩, 15, rfl, by decide, by decide, fun D hD => lc_range (lo := 0) (n := 15) (fun i H1 => Same H10 H1 ∧ i ≤ 15 ∧ H1 D = some (.lst ((sel (kinds.take i) (bs.take i)).map V.str))) ?_ ?_ ?_⟩
    · exact ⟨Same.new hD, Nat.zero_le _, upd_same⟩
    · rintro i H1 hi ⟨s1, hi', hL⟩
      obtain ⟨b, hb⟩ : ∃ b, bs[i]? = some b := ⟨_, List.getElem?_eq_getElem (by omega)⟩
      obtain ⟨nm, hn⟩ := kinds_at i hi
      have ez : (0 : Int) + (i : Int) = ((i : Nat) : Int) := Int.zero_add _
      refine ⟨rfl, ?_⟩
      refine ⟨_, rfl, _, rfl, l7, _, _, _, rfl, rfl, SqL.of (s1 _ _ (s10 _ _ e7)), (by rw [ez]; exact atI_nat (by rw [List.getElem?_map, hb]; rfl)), _, rfl, ?_⟩
      have hst := sel_take kinds bs i hn hb
      cases b with
      | true =>
        dsimp only
        rw [if_pos rfl]
        refine ⟨_, rfl, _, rfl, l10, _, _, _, rfl, rfl, SqL.of (s1 _ _ e10), (by rw [ez]; exact atI_nat (by rw [List.getElem?_map, hn]; rfl)), _, hL, ?_, ?_⟩
        · rw [List.length_map]
          have := sel_len (kinds.take i) (bs.take i)
          rw [List.length_take] at this
          exact small1000 (by omega)
        · refine ⟨fun b o e => ?_, hi, ?_⟩
          · rw [upd_ne (ne_of_none e hD)]; exact s1 b o e
          · rw [upd_same, hst, List.map_append]; rfl
      | false =>
        dsimp only
        rw [if_neg Bool.false_ne_true]
        refine ⟨s1, hi, ?_⟩
        rw [hst]
        simp only [Bool.false_eq_true, if_false, List.append_nil]
        exact hL
    · rintro H1 ⟨s1, hi', hL⟩
      have ek : kinds.take 15 = kinds := rfl
      rw [ek, List.take_of_length_le (by omega)] at hL
      refine ⟨_, D, sel kinds bs, rfl, rfl, .inl (SqL.of hL), ?_, ?_⟩
      · show _ + _ * 0 ≤ _
        omega
      · exact k H1 (s7.trans (s10.trans s1))
theorem cal_kind {c : Cls14} (D : Def K mg "_law_kind" sKind psKind) (T : Txt mg) (R : Ref K mg c) : CalH P w K mg base 1 "_law_kind" psKind (spKind K c) := by
  obtain ⟨f, fd, F, m, b⟩ := D
  exact ⟨f, fd, ok_kind F T R, F.kp, b, m⟩
end
end W

set_option Elab.async false
set_option linter.all false
set_option maxRecDepth 100000
set_option maxHeartbeats 4000000
namespace W
open PySem L2 WM
abbrev sDraw : Stmt := top 45
abbrev psDraw : List Str := ["draws", "many"]
theorem scDraw : FnScope ["draws", "many", "found"] ["draws", "many"] (defScope sDraw) := ⟨rfl, rfl, rfl, by decide +kernel, rfl, by decide +kernel, by decide +kernel⟩
section
variable {P : Program} {w : World} {K : PySem.W.Frag} {mg : Str → Option Value} {base : Heap}
theorem ok_draw {f : Addr} {fd : FuncData} (F : Fun K "_law_draw" "_law_draw" sDraw f fd) : FnOk P w K mg base CX0 1 f fd ["draws", "many"] spDraw := by
  refine F.ok scDraw (fun vs H Q E h => ?_) (fun cdv A outer s H vs Q E hr h => ?_)
  · obtain ⟨p, m, rfl, _⟩ := h
    rfl
  · obtain ⟨p, m, rfl, ⟨a, b, c, hp, D⟩, m0, m1, k⟩ := h
    refine ⟨_, (@pss_cons _ _ _ _ _ (@ps_if _ _ _ _ _ _ _ _ (@pt_cmpR _ _ _ _ _ _ _ _ op_gt (@pe_ix _ _ _ _ _ _ _ ix_list (@pv _ 0 _ _ (by rfl) (by first | exact Or.inl rfl | exact Or.inr (Or.inl rfl) | exact Or.inr (Or.inr rfl)) (by decide) (by decide)) (@pe_int _ _ _ _) (fun _ _ => rfl)) (@pe_int _ _ _ _) (nomark _)) (@pss_cons _ _ _ _ _ (@ps_set _ _ 2 _ _ _ _ scDraw.nd rfl (Or.inl rfl) (@pe_op _ _ _ _ _ _ _ _ op_mod (@pe_ix _ _ _ _ _ _ _ ix_list (@pv _ 0 _ _ (by rfl) (by first | exact Or.inl rfl | exact Or.inr (Or.inl rfl) | exact Or.inr (Or.inr rfl)) (by decide) (by decide)) (@pe_int _ _ _ _) (fun _ _ => rfl)) (@pv _ 1 _ _ (by rfl) (by first | exact Or.inl rfl | exact Or.inr (Or.inl rfl) | exact Or.inr (Or.inr rfl)) (by decide) (by decide))) (by rfl) (by first | exact .inl rfl | exact .inr rfl | assumption)) (@pss_cons _ _ _ _ _ (@ps_asg _ _ _ _ _ _ (@pe_op _ _ _ _ _ _ _ _ op_fdiv (@pe_ix _ _ _ _ _ _ _ ix_list (@pv _ 0 _ _ (by rfl) (by first | exact Or.inl rfl | exact Or.inr (Or.inl rfl) | exact Or.inr (Or.inr rfl)) (by decide) (by decide)) (@pe_int _ _ _ _) (fun _ _ => rfl)) (@pv _ 1 _ _ (by rfl) (by first | exact Or.inl rfl | exact Or.inr (Or.inl rfl) | exact Or.inr (Or.inr rfl)) (by decide) (by decide))) (@pg_sub _ _ _ _ _ _ _ (@pv _ 0 _ _ (by rfl) (by first | exact Or.inl rfl | exact Or.inr (Or.inl rfl) | exact Or.inr (Or.inr rfl)) (by decide) (by decide)) (@pe_int _ _ _ _) set_list (by intro _ ; rfl)) (by rfl) (by rfl) (by rfl)) (@pss_one _ _ _ (@ps_ret _ _ _ _ (@pv _ 2 _ _ (by rfl) (by first | exact Or.inl rfl | exact Or.inr (Or.inl rfl) | exact Or.inr (Or.inr rfl)) (by decide) (by decide)))))) (@pss_nil _)) (@pss_cons _ _ _ _ _ (@ps_asg _ _ _ _ _ _ (@pe_op _ _ _ _ _ _ _ _ op_add (@pe_op _ _ _ _ _ _ _ _ op_mod (@pe_op _ _ _ _ _ _ _ _ op_mul (@pe_ix _ _ _ _ _ _ _ ix_list (@pv _ 0 _ _ (by rfl) (by first | exact Or.inl rfl | exact Or.inr (Or.inl rfl) | exact Or.inr (Or.inr rfl)) (by decide) (by decide)) (@pe_int _ _ _ _) (fun _ _ => rfl)) (@pe_int _ _ _ _)) (@pe_ix _ _ _ _ _ _ _ ix_list (@pv _ 0 _ _ (by rfl) (by first | exact Or.inl rfl | exact Or.inr (Or.inl rfl) | exact Or.inr (Or.inr rfl)) (by decide) (by decide)) (@pe_int _ _ _ _) (fun _ _ => rfl))) (@pe_int _ _ _ _)) (@pg_sub _ _ _ _ _ _ _ (@pv _ 0 _ _ (by rfl) (by first | exact Or.inl rfl | exact Or.inr (Or.inl rfl) | exact Or.inr (Or.inr rfl)) (by decide) (by decide)) (@pe_int _ _ _ _) set_list (by intro _ ; rfl)) (by rfl) (by rfl) (by rfl)) (@pss_one _ _ _ (@ps_ret _ _ _ _ (@pe_op _ _ _ _ _ _ _ _ op_mod (@pe_op _ _ _ _ _ _ _ _ op_fdiv (@pe_op _ _ _ _ _ _ _ _ op_mod (@pe_op _ _ _ _ _ _ _ _ op_mul (@pe_ix _ _ _ _ _ _ _ ix_list (@pv _ 0 _ _ (by rfl) (by first | exact Or.inl rfl | exact Or.inr (Or.inl rfl) | exact Or.inr (Or.inr rfl)) (by decide) (by decide)) (@pe_int _ _ _ _) (fun _ _ => rfl)) (@pe_op _ _ _ _ _ _ _ _ op_add (@pe_op _ _ _ _ _ _ _ _ op_fdiv (@pe_ix _ _ _ _ _ _ _ ix_list (@pv _ 0 _ _ (by rfl) (by first | exact Or.inl rfl | exact Or.inr (Or.inl rfl) | exact Or.inr (Or.inr rfl)) (by decide) (by decide)) (@pe_int _ _ _ _) (fun _ _ => rfl)) (@pe_int _ _ _ _)) (@pe_int _ _ _ _))) (@pe_int _ _ _ _)) (@pe_int _ _ _ _)) (@pv _ 1 _ _ (by rfl) (by first | exact Or.inl rfl | exact Or.inr (Or.inl rfl) | exact Or.inr (Or.inr rfl)) (by decide) (by decide))))))), ?_⟩
    refine ⟨_, rfl, p, _, _, _, rfl, rfl, SqL.of hp, atI_nat (j := 0) rfl, _, _, rfl, rfl, _, rfl, ?_⟩
    refine ite2 (fun _ => ?_) (fun _ => ?_)
    · refine ⟨_, rfl, p, _, _, _, rfl, rfl, SqL.of hp, atI_nat (j := 0) rfl, _, rfl, _, _, rfl, rfl, m0, ?_⟩
      refine ⟨_, rfl, p, _, _, _, rfl, rfl, SqL.of hp, atI_nat (j := 0) rfl, _, rfl, _, _, rfl, rfl, ⟨m0, m1⟩, ?_⟩
      refine ⟨_, rfl, p, _, _, 0, rfl, rfl, hp, rfl, ?_⟩
      refine ⟨_, rfl, ?_⟩
      refine k _ _ (Int.emod_nonneg _ (by omega)) (Int.emod_lt_of_pos _ m0) ⟨a / m, b, c, upd_same, ?_⟩ (But.upd _ _ _)
      exact ⟨Int.ediv_nonneg D.a0 (by omega), D.b0, D.b1, D.c0, D.c1⟩
    · refine ⟨_, rfl, p, _, _, _, rfl, rfl, SqL.of hp, atI_nat (j := 1) rfl, _, _, rfl, rfl, .inr ⟨by decide, by decide⟩, _, rfl, p, _, _, _, rfl, rfl, SqL.of hp, atI_nat (j := 2) rfl, _, _, rfl, rfl, D.c0, _, _, rfl, rfl, ?_⟩
      refine ⟨_, rfl, p, _, _, 1, rfl, rfl, hp, rfl, ?_⟩
      have r0 : 0 ≤ b * 69621 % c := Int.emod_nonneg _ (by have := D.c0; omega)
      have r1 : b * 69621 % c < c := Int.emod_lt_of_pos _ D.c0
      have c1 := D.c1
      refine ⟨_, rfl, p, _, _, _, rfl, rfl, SqL.of upd_same, atI_nat (j := 1) rfl, _, rfl, p, _, _, _, rfl, rfl, SqL.of upd_same, atI_nat (j := 1) rfl, _, _, rfl, rfl, ⟨by decide, by decide⟩, _, _, rfl, rfl,
        _, _, rfl, rfl, .inl ⟨by show -(2 ^ 64) < b * 69621 % c + 1; omega, by show b * 69621 % c + 1 < 2 ^ 64; omega⟩, _, _, rfl, rfl, (by show (0 : Int) < 2147483423; decide), _, _, rfl, rfl, ⟨by decide, by decide⟩, _, rfl, _, _, rfl, rfl, m0, ?_⟩
      refine k _ _ (Int.emod_nonneg _ (by omega)) (Int.emod_lt_of_pos _ m0) ⟨a, b * 69621 % c + 1, c, upd_same, ?_⟩ (But.upd _ _ _)
      exact ⟨D.a0, by omega, by omega, D.c0, D.c1⟩
theorem cal_draw (D : Def K mg "_law_draw" sDraw psDraw) : Cal P w K mg base CX0 1 "_law_draw" psDraw spDraw := cal_mk D fun f fd F => ok_draw F
end
end W

set_option Elab.async false
set_option linter.all false
set_option maxRecDepth 100000
set_option maxHeartbeats 4000000
namespace W
open PySem L2 WM
abbrev sDraws : Stmt := top 44
abbrev psDraws : List Str := ["script", "k"]
theorem scDraws : FnScope ["script", "k", "primes", "cell", "seed"] ["script", "k"] (defScope sDraws) := ⟨rfl, rfl, rfl, by decide +kernel, rfl, by decide +kernel, by decide +kernel⟩
section
variable {P : Program} {w : World} {K : PySem.W.Frag} {mg : Str → Option Value} {base : Heap}
theorem ok_draws {f : Addr} {fd : FuncData} (F : Fun K "_law_draws" "_law_draws" sDraws f fd) (T : Txt mg) : FnOk P w K mg base CX0 1 f fd ["script", "k"] (spDraws K) := by
  refine F.ok scDraws (fun vs H Q E h => ?_) (fun cdv A outer s H vs Q E hr h => ?_)
  · obtain ⟨a, ns, j, rfl, _⟩ := h
    rfl
  · obtain ⟨a, ns, j, rfl, hS, hlen, j0, j63, k⟩ := h
    refine ⟨_, (@pss_cons _ _ _ _ _ (@ps_set _ _ 2 _ _ _ _ scDraws.nd rfl (Or.inl rfl) (@pe_tup _ _ _ _ _ (@pa_cons _ _ _ _ _ (@pe_int _ _ _ _) (@pa_cons _ _ _ _ _ (@pe_int _ _ _ _) (@pa_cons _ _ _ _ _ (@pe_int _ _ _ _) (@pa_cons _ _ _ _ _ (@pe_int _ _ _ _) (@pa_cons _ _ _ _ _ (@pe_int _ _ _ _) (@pa_cons _ _ _ _ _ (@pe_int _ _ _ _) (@pa_cons _ _ _ _ _ (@pe_int _ _ _ _) (@pa_cons _ _ _ _ _ (@pe_int _ _ _ _) (@pa_nil _) (by rfl)) (by rfl)) (by rfl)) (by rfl)) (by rfl)) (by rfl)) (by rfl)) (by rfl))) (by rfl) (by first | exact .inl rfl | exact .inr rfl | assumption)) (@pss_cons _ _ _ _ _ (@ps_set _ _ 3 _ _ _ _ scDraws.nd rfl (Or.inl rfl) (@pe_op _ _ _ _ _ _ _ _ op_add (@pe_op _ _ _ _ _ _ _ _ op_mul (@pe_int _ _ _ _) (@pv _ 1 _ _ (by rfl) (by first | exact Or.inl rfl | exact Or.inr (Or.inl rfl) | exact Or.inr (Or.inr rfl)) (by decide) (by decide))) (@pe_int _ _ _ _)) (by rfl) (by first | exact .inl rfl | exact .inr rfl | assumption)) (@pss_cons _ _ _ _ _ (@ps_cut _ _ _ (@ps_if _ _ _ _ _ _ _ _ (@pt_cmpR _ _ _ _ _ _ _ _ op_lt (@pv _ 1 _ _ (by rfl) (by first | exact Or.inl rfl | exact Or.inr (Or.inl rfl) | exact Or.inr (Or.inr rfl)) (by decide) (by decide)) (@pe_callB _ _ _ _ _ _ _ _ _ call_len_seq (by rfl) T.len PySem.boot_len (@pa_cons _ _ _ _ _ (@pv _ 0 _ _ (by rfl) (by first | exact Or.inl rfl | exact Or.inr (Or.inl rfl) | exact Or.inr (Or.inr rfl)) (by decide) (by decide)) (@pa_nil _) (by rfl)) (by decide) (by decide) (by rfl) (by rfl)) (nomark _)) (@pss_one _ _ _ (@ps_set _ _ 3 _ _ _ _ scDraws.nd rfl (Or.inl rfl) (@pe_op _ _ _ _ _ _ _ _ op_mod (@pe_ix _ _ _ _ _ _ _ ix_list (@pv _ 0 _ _ (by rfl) (by first | exact Or.inl rfl | exact Or.inr (Or.inl rfl) | exact Or.inr (Or.inr rfl)) (by decide) (by decide)) (@pv _ 1 _ _ (by rfl) (by first | exact Or.inl rfl | exact Or.inr (Or.inl rfl) | exact Or.inr (Or.inr rfl)) (by decide) (by decide)) (fun _ _ => rfl)) (@pe_op _ _ _ _ _ _ _ _ op_mulX (@pe_op _ _ _ _ _ _ _ _ op_pow (@pe_int _ _ _ _) (@pe_int _ _ _ _)) (@pe_op _ _ _ _ _ _ _ _ op_pow (@pe_int _ _ _ _) (@pe_int _ _ _ _)))) (by rfl) (by first | exact .inl rfl | exact .inr rfl | assumption))) (@pss_one _ _ _ (@ps_if _ _ _ _ _ _ _ _ (@pt_cmpR _ _ _ _ _ _ _ _ op_gt (@pe_callB _ _ _ _ _ _ _ _ _ call_len_seq (by rfl) T.len PySem.boot_len (@pa_cons _ _ _ _ _ (@pv _ 0 _ _ (by rfl) (by first | exact Or.inl rfl | exact Or.inr (Or.inl rfl) | exact Or.inr (Or.inr rfl)) (by decide) (by decide)) (@pa_nil _) (by rfl)) (by decide) (by decide) (by rfl) (by rfl)) (@pe_int _ _ _ _) (nomark _)) (@pss_one _ _ _ (@ps_set _ _ 3 _ _ _ _ scDraws.nd rfl (Or.inl rfl) (@pe_op _ _ _ _ _ _ _ _ op_add (@pe_op _ _ _ _ _ _ _ _ op_mod (@pe_ix _ _ _ _ _ _ _ ix_list (@pv _ 0 _ _ (by rfl) (by first | exact Or.inl rfl | exact Or.inr (Or.inl rfl) | exact Or.inr (Or.inr rfl)) (by decide) (by decide)) (@pe_op _ _ _ _ _ _ _ _ op_mod (@pv _ 1 _ _ (by rfl) (by first | exact Or.inl rfl | exact Or.inr (Or.inl rfl) | exact Or.inr (Or.inr rfl)) (by decide) (by decide)) (@pe_callB _ _ _ _ _ _ _ _ _ call_len_seq (by rfl) T.len PySem.boot_len (@pa_cons _ _ _ _ _ (@pv _ 0 _ _ (by rfl) (by first | exact Or.inl rfl | exact Or.inr (Or.inl rfl) | exact Or.inr (Or.inr rfl)) (by decide) (by decide)) (@pa_nil _) (by rfl)) (by decide) (by decide) (by rfl) (by rfl))) (fun _ _ => rfl)) (@pe_op _ _ _ _ _ _ _ _ op_pow (@pe_int _ _ _ _) (@pe_int _ _ _ _))) (@pe_op _ _ _ _ _ _ _ _ op_mul (@pe_int _ _ _ _) (@pv _ 1 _ _ (by rfl) (by first | exact Or.inl rfl | exact Or.inr (Or.inl rfl) | exact Or.inr (Or.inr rfl)) (by decide) (by decide)))) (by rfl) (by first | exact .inl rfl | exact .inr rfl | assumption))) (@pss_nil _))))) (@pss_cons _ _ _ _ _ (@ps_cut _ _ _ (@ps_set _ _ 4 _ _ _ _ scDraws.nd rfl (Or.inl rfl) (@pe_op _ _ _ _ _ _ _ _ op_mod (@pe_op _ _ _ _ _ _ _ _ op_mul (@pe_op _ _ _ _ _ _ _ _ op_add (@pe_op _ _ _ _ _ _ _ _ op_add (@pe_op _ _ _ _ _ _ _ _ op_mod (@pv _ 3 _ _ (by rfl) (by first | exact Or.inl rfl | exact Or.inr (Or.inl rfl) | exact Or.inr (Or.inr rfl)) (by decide) (by decide)) (@pe_int _ _ _ _)) (@pe_op _ _ _ _ _ _ _ _ op_mul (@pe_int _ _ _ _) (@pv _ 1 _ _ (by rfl) (by first | exact Or.inl rfl | exact Or.inr (Or.inl rfl) | exact Or.inr (Or.inr rfl)) (by decide) (by decide)))) (@pe_int _ _ _ _)) (@pe_op _ _ _ _ _ _ _ _ op_add (@pe_int _ _ _ _) (@pe_op _ _ _ _ _ _ _ _ op_mul (@pe_op _ _ _ _ _ _ _ _ op_mul (@pe_int _ _ _ _) (@pv _ 1 _ _ (by rfl) (by first | exact Or.inl rfl | exact Or.inr (Or.inl rfl) | exact Or.inr (Or.inr rfl)) (by decide) (by decide))) (@pv _ 1 _ _ (by rfl) (by first | exact Or.inl rfl | exact Or.inr (Or.inl rfl) | exact Or.inr (Or.inr rfl)) (by decide) (by decide))))) (@pe_int _ _ _ _)) (by rfl) (by first | exact .inl rfl | exact .inr rfl | assumption))) (@pss_cons _ _ _ _ _ (@ps_set _ _ 4 _ _ _ _ scDraws.nd rfl (Or.inl rfl) (@pe_op _ _ _ _ _ _ _ _ op_add (@pe_op _ _ _ _ _ _ _ _ op_add (@pe_op _ _ _ _ _ _ _ _ op_mod (@pe_op _ _ _ _ _ _ _ _ op_mul (@pe_op _ _ _ _ _ _ _ _ op_mul (@pv _ 4 _ _ (by rfl) (by first | exact Or.inl rfl | exact Or.inr (Or.inl rfl) | exact Or.inr (Or.inr rfl)) (by decide) (by decide)) (@pv _ 4 _ _ (by rfl) (by first | exact Or.inl rfl | exact Or.inr (Or.inl rfl) | exact Or.inr (Or.inr rfl)) (by decide) (by decide))) (@pv _ 4 _ _ (by rfl) (by first | exact Or.inl rfl | exact Or.inr (Or.inl rfl) | exact Or.inr (Or.inr rfl)) (by decide) (by decide))) (@pe_int _ _ _ _)) (@pv _ 1 _ _ (by rfl) (by first | exact Or.inl rfl | exact Or.inr (Or.inl rfl) | exact Or.inr (Or.inr rfl)) (by decide) (by decide))) (@pe_int _ _ _ _)) (by rfl) (by first | exact .inl rfl | exact .inr rfl | assumption)) (@pss_one _ _ _ (@ps_ret _ _ _ _ (@pe_lst _ _ _ _ (@pa_cons _ _ _ _ _ (@pe_op _ _ _ _ _ _ _ _ op_mul (@pv _ 3 _ _ (by rfl) (by first | exact Or.inl rfl | exact Or.inr (Or.inl rfl) | exact Or.inr (Or.inr rfl)) (by decide) (by decide)) (@pe_callTy _ _ _ _ _ _ _ _ _ call_int1 (by rfl) T.int (by decide +kernel) (@pa_cons _ _ _ _ _ (@pe_cmpR _ _ _ _ _ _ _ _ op_ge (@pv _ 3 _ _ (by rfl) (by first | exact Or.inl rfl | exact Or.inr (Or.inl rfl) | exact Or.inr (Or.inr rfl)) (by decide) (by decide)) (@pe_op _ _ _ _ _ _ _ _ op_pow (@pe_int _ _ _ _) (@pe_int _ _ _ _)) (nomark _)) (@pa_nil _) (by rfl)) (by decide) (by decide) (by rfl) (by rfl))) (@pa_cons _ _ _ _ _ (@pv _ 4 _ _ (by rfl) (by first | exact Or.inl rfl | exact Or.inr (Or.inl rfl) | exact Or.inr (Or.inr rfl)) (by decide) (by decide)) (@pa_cons _ _ _ _ _ (@pe_ix _ _ _ _ _ _ _ ix_tup (@pv _ 2 _ _ (by rfl) (by first | exact Or.inl rfl | exact Or.inr (Or.inl rfl) | exact Or.inr (Or.inr rfl)) (by decide) (by decide)) (@pe_op _ _ _ _ _ _ _ _ op_mod (@pv _ 1 _ _ (by rfl) (by first | exact Or.inl rfl | exact Or.inr (Or.inl rfl) | exact Or.inr (Or.inr rfl)) (by decide) (by decide)) (@pe_int _ _ _ _)) (fun _ _ => rfl)) (@pa_nil _) (by rfl)) (by rfl)) (by rfl)))))))))), ?_⟩
    refine ⟨(by show 8 ≤ sizeLine; decide), fun pt ht => ?_⟩
    have sm : Same H (upd H pt (.tup primes)) := fun b o e => by rw [upd_ne (ne_of_none e ht)]; exact e
    refine ⟨_, rfl, _, _, rfl, rfl, .inl ⟨by decide, by decide⟩, _, _, rfl, rfl, ?_⟩
    refine ⟨fun σ' H' => ∃ c : Int, 0 ≤ c ∧ σ' = [some (.ref a), some (.int j), some (.ref pt), some (.int c), none] ∧ H' = upd H pt (.tup primes), ?_, ?_⟩
    rotate_left
    · rintro σ' H' ⟨c, c0, rfl, rfl⟩
      have e1 : 0 ≤ c % 2147483423 := Int.emod_nonneg _ (by decide)
      have e2 : c % 2147483423 < 2147483423 := Int.emod_lt_of_pos _ (by decide)
      refine ⟨fun σ' H' => ∃ sd : Int, 0 ≤ sd ∧ sd < 2147483423 ∧ σ' = [some (.ref a), some (.int j), some (.ref pt), some (.int c), some (.int sd)] ∧ H' = upd H pt (.tup primes), ?_, ?_⟩
      · refine ⟨_, rfl, _, _, rfl, rfl, (by show (0 : Int) < 2147483423; decide), _, rfl, _, _, rfl, rfl, .inl ⟨by decide, by decide⟩, _, _, rfl, rfl, _, _, rfl, rfl, _, rfl, _, _, rfl, rfl, .inl ⟨by decide, by decide⟩, _, rfl, _, _, rfl, rfl,
        .inl ⟨by show -(2 ^ 64) < 2 * j; omega, by show 2 * j < 2 ^ 64; omega⟩, _, _, rfl, rfl, _, _, rfl, rfl, .inl ⟨by show -(2 ^ 64) < c % 2147483423 + 3 * j + 1; omega, by show c % 2147483423 + 3 * j + 1 < 2 ^ 64; omega⟩, _, _, rfl, rfl, (by show (0 : Int) < 2147483423; decide), ?_⟩
        exact ⟨_, Int.emod_nonneg _ (by decide), Int.emod_lt_of_pos _ (by decide), rfl, rfl⟩
      rintro σ' H' ⟨sd, f0, f1, rfl, rfl⟩
      have hsq : 0 ≤ sd * sd := Int.mul_nonneg f0 f0
      have hsq2 : sd * sd ≤ 2147483423 * 2147483423 := Int.mul_le_mul (by omega) (by omega) f0 (by decide)
      have g0 : 0 ≤ sd * sd * sd % 2147483399 := Int.emod_nonneg _ (by decide)
      have g1 : sd * sd * sd % 2147483399 < 2147483399 := Int.emod_lt_of_pos _ (by decide)
      refine ⟨_, rfl, _, rfl, _, _, rfl, rfl, .inl ⟨by show -(2 ^ 64) < sd; omega, by show sd < 2 ^ 64; omega⟩, _, rfl, _, _, rfl, rfl, .inl ⟨by show -(2 ^ 64) < sd * sd; omega, by show sd * sd < 2 ^ 64; omega⟩, _, _, rfl, rfl, (by show (0 : Int) < 2147483399; decide), _, rfl, _, _, rfl, rfl, _, _, rfl, rfl, ?_⟩
      refine ⟨_, rfl, _, rfl, _, _, rfl, rfl, ⟨by decide, by decide, by decide⟩, _, _, rfl, rfl, .inr ⟨_, rfl, ?_⟩⟩
      obtain ⟨pc, hpc, pc0, pc1⟩ := primes_at (z := j % 8) (Int.emod_nonneg _ (by decide)) (Int.emod_lt_of_pos _ (by decide))
      have hb : ∃ z : Int, (if decide ((10 : Int) ^ (18 : Int).toNat ≤ c) = true then (1 : Int) else 0) = z ∧ 0 ≤ z ∧ z ≤ 1 := by
        by_cases h : decide ((10 : Int) ^ (18 : Int).toNat ≤ c) = true
        · rw [if_pos h]; exact ⟨_, rfl, by decide, by decide⟩
        · rw [if_neg h]; exact ⟨_, rfl, by decide, by decide⟩
      obtain ⟨z, hz, z0, z1⟩ := hb
      rw [hz]
      refine ⟨_, _, rfl, rfl, .inr ⟨by omega, by omega⟩, _, rfl, _, rfl, _, rfl, _, _, rfl, rfl, (by show (0 : Int) < 8; decide), pt, _, _, _, rfl, rfl, SqT.of upd_same, hpc, (by show 3 ≤ sizeLine; decide), fun L hL => ?_⟩
      refine k L _ ?_ ⟨_, _, _, upd_same, Int.mul_nonneg c0 z0, by omega, by omega, pc0, pc1⟩ fun b o e => ?_
      · exact sm.free hL
      · rw [upd_ne (ne_of_none (sm b o e) hL)]
        exact sm b o e
    refine ⟨_, rfl, _, rfl, a, _, rfl, .inl (sm.seq hS), _, _, rfl, rfl, _, rfl, ?_⟩
    refine ite2 (fun hlt => ?_) (fun hge => ?_)
    · have hlt' : j < (ns.length : Int) := by
        have := of_decide_eq_true hlt
        rw [List.length_map] at this
        exact this
      obtain ⟨y, hy⟩ := int_at j0 hlt'
      refine ⟨_, rfl, _, rfl, a, _, _, _, rfl, rfl, sm.seq hS, hy, _, _, rfl, rfl, ⟨by decide, by decide, by decide⟩, _, _, rfl, rfl, ⟨by decide, by decide, by decide⟩, _, _, rfl, rfl, big_ok, _, _, rfl, rfl, big_pos, ?_⟩
      exact ⟨_, Int.emod_nonneg _ (Int.ne_of_gt big_pos), rfl, rfl⟩
    · refine ⟨_, rfl, a, _, rfl, .inl (sm.seq hS), _, _, rfl, rfl, _, rfl, ?_⟩
      rw [List.length_map]
      refine ite2 (fun hp => ?_) (fun _ => ?_)
      · have hp' : 0 < (ns.length : Int) := of_decide_eq_true hp
        obtain ⟨y, hy⟩ := int_at (ns := ns) (z := j % (ns.length : Int)) (Int.emod_nonneg _ (by omega)) (Int.emod_lt_of_pos _ hp')
        refine ⟨_, rfl, _, rfl, _, rfl, a, _, rfl, .inl (sm.seq hS), _, _, rfl, rfl, (by rw [List.length_map]; exact hp'), a, _, _, _, rfl, rfl, sm.seq hS, (by rw [List.length_map]; exact hy), _, _, rfl, rfl, ⟨by decide, by decide, by decide⟩, _, _, rfl, rfl, p15, _, rfl, _, _, rfl, rfl, .inl ⟨by decide, by decide⟩, _, _, rfl, rfl, ?_⟩
        refine ⟨_, ?_, rfl, rfl⟩
        have := Int.emod_nonneg y (Int.ne_of_gt p15)
        omega
      · exact ⟨_, by omega, rfl, rfl⟩
theorem cal_draws (D : Def K mg "_law_draws" sDraws psDraws) (T : Txt mg) : Cal P w K mg base CX0 1 "_law_draws" psDraws (spDraws K) := cal_mk D fun f fd F => ok_draws F T
end
end W

set_option Elab.async false
set_option linter.all false
set_option maxRecDepth 100000
set_option maxHeartbeats 4000000
namespace W
open PySem L2 WM
abbrev sLetters : Stmt := top 46
abbrev psLetters : List Str := ["draws", "many", "kinds"]
theorem scLetters : FnScope ["draws", "many", "kinds", "letters", "first", "k"] ["draws", "many", "kinds"] (defScope sLetters) := ⟨rfl, rfl, rfl, by decide +kernel, rfl, by decide +kernel, by decide +kernel⟩
section
variable {P : Program} {w : World} {K : PySem.W.Frag} {mg : Str → Option Value} {base : Heap}
theorem ok_letters {f f1 : Addr} {fd fd1 : FuncData} (F : Fun K "_law_letters" "_law_letters" sLetters f fd) (T : Txt mg) (F1 : Fun K "_law_draw" "_law_draw" sDraw f1 fd1) (b1 : Binds K fd1 ["draws", "many"] []) (m1 : mg "_law_draw" = some (.ref f1)) :
    FnOk P w K mg base CX0 2 f fd ["draws", "many", "kinds"] spLetters := by
  refine F.ok scLetters (fun vs H Q E h => ?_) (fun cdv A outer s H vs Q E hr h => ?_)
  · obtain ⟨p, m, kd, rfl, _⟩ := h
    rfl
  · obtain ⟨p, m, kd, rfl, D, m0, m100, k1, k26, k⟩ := h
    have G1 : FnOk P w K mg base CX0 1 f1 fd1 ["draws", "many"] spDraw := ok_draw F1
    refine ⟨_, (@pss_cons _ _ _ _ _ (@ps_set _ _ 3 _ _ _ _ scLetters.nd rfl (Or.inr rfl) (@pe_str _ _ _ _) (by rfl) (by first | exact .inl rfl | exact .inr rfl | assumption)) (@pss_cons _ _ _ _ _ (@ps_set _ _ 4 _ _ _ _ scLetters.nd rfl (Or.inr rfl) (@pe_call _ _ _ _ _ _ _ _ _ _ _ _ _ _ _ _ G1 hr (by rfl) m1 F1.kp b1 .nil pass0 (@pa_cons _ _ _ _ _ (@pv _ 0 _ _ (by rfl) (by first | exact Or.inl rfl | exact Or.inr (Or.inl rfl) | exact Or.inr (Or.inr rfl)) (by decide) (by decide)) (@pa_cons _ _ _ _ _ (@pe_op _ _ _ _ _ _ _ _ op_sub (@pe_int _ _ _ _) (@pv _ 2 _ _ (by rfl) (by first | exact Or.inl rfl | exact Or.inr (Or.inl rfl) | exact Or.inr (Or.inr rfl)) (by decide) (by decide))) (@pa_nil _) (by rfl)) (by rfl)) (by decide) (by rfl) (by rfl)) (by rfl) (by first | exact .inl rfl | exact .inr rfl | assumption)) (@pss_one _ _ _ (@ps_ret _ _ _ _ (@pe_join _ _ _ _ _ _ _ (@pe_str _ _ _ _) (@pe_lc _ _ _ _ _ _ [("k", 5)] _ _ (gName 5) _ _ (by rfl) scLetters.nd (@pi_range1 _ _ _ _ _ _ (by rfl) T.range (@pa_cons _ _ _ _ _ (@pv _ 1 _ _ (by rfl) (by first | exact Or.inl rfl | exact Or.inr (Or.inl rfl) | exact Or.inr (Or.inr rfl)) (by decide) (by decide)) (@pa_nil _) (by rfl)) (by rfl)) (blkOk_by (own := [("k", 5)]) (N := ["draws", "many", "kinds", "letters", "first", "k"]) (sc := defScope sLetters) (by decide +kernel)) (fun _ _ _ _ _ => (@pg_name _ _ 5 _ scLetters.nd rfl (Or.inl rfl) (by first | exact .inl rfl | exact .inr rfl | assumption))) (fun _ _ _ _ _ => (@pts_nil _)) (fun _ _ _ _ _ => (@pe_ix _ _ _ _ _ _ _ ix_str (@pv _ 3 _ _ (by rfl) (by first | exact Or.inl rfl | exact Or.inr (Or.inl rfl) | exact Or.inr (Or.inr rfl)) (by decide) (by decide)) (@pe_op _ _ _ _ _ _ _ _ op_add (@pv _ 4 _ _ (by rfl) (by first | exact Or.inl rfl | exact Or.inr (Or.inl rfl) | exact Or.inr (Or.inr rfl)) (by decide) (by decide)) (@pe_call _ _ _ _ _ _ _ _ _ _ _ _ _ _ _ _ G1 hr (by rfl) m1 F1.kp b1 .nil pass0 (@pa_cons _ _ _ _ _ (@pv _ 0 _ _ (by rfl) (by first | exact Or.inl rfl | exact Or.inr (Or.inl rfl) | exact Or.inr (Or.inr rfl)) (by decide) (by decide)) (@pa_cons _ _ _ _ _ (@pv _ 2 _ _ (by rfl) (by first | exact Or.inl rfl | exact Or.inr (Or.inl rfl) | exact Or.inr (Or.inr rfl)) (by decide) (by decide)) (@pa_nil _) (by rfl)) (by rfl)) (by decide) (by rfl) (by rfl))) (fun _ _ => rfl))) (by intro _ ; rfl)) (by rfl) (by rfl) (by rfl)))))), ?_⟩
    refine ⟨_, rfl, _, rfl, _, _, rfl, rfl, p, _, rfl, D, by omega, by omega, fun r H1 r0 r1 D1 B1 => ?_⟩
    refine ⟨⟨_, rfl⟩, _, rfl, m, rfl, by omega, by omega, fun L hL => lc_range (lo := 0) (n := m.toNat) (fun i H2 => DrAt H2 p ∧ But p H H2 ∧ ∃ l : List Nat, l.length = i ∧ Low l ∧ H2 L = some (.lst (l.map fun c => V.str (txt [c])))) ?_ ?_ ?_⟩
    · refine ⟨D1.new hL, B1.trans (But.new hL), [], rfl, (fun c h => by cases h), upd_same⟩
    · rintro i H2 hi ⟨D2, B2, l, hl, low, hL2⟩
      refine ⟨rfl, ?_⟩
      dsimp only [tYes]
      rw [if_pos rfl]
      have hLp : L ≠ p := D1.ne hL
      refine ⟨_, rfl, _, rfl, _, rfl, _, rfl, p, _, rfl, D2, by omega, by omega, fun r2 H3 q0 q1 D3 B3 => ?_⟩
      refine ⟨_, _, rfl, rfl, _, _, _, rfl, rfl, (by show 26 ≤ sizeLine; decide), abc_get (z := r + r2) (by omega) (by omega), ?_⟩
      refine ⟨_, B3 _ _ hL2 hLp, ?_, ?_⟩
      · rw [List.length_map]; exact small1000 (by omega)
      · refine ⟨?_, ?_, l ++ [97 + (r + r2).toNat], ?_, ?_, ?_⟩
        · obtain ⟨a, b, c, e, dd⟩ := D3
          exact ⟨a, b, c, by rw [upd_ne hLp.symm]; exact e, dd⟩
        · intro q o e n
          by_cases hq : q = L
          · subst hq
            exact absurd (B1 _ _ e n) (by rw [hL]; intro z; cases z)
          · rw [upd_ne hq]
            exact B3 q o (B2 q o e n) n
        · rw [List.length_append, hl]; rfl
        · intro c hc
          rcases List.mem_append.mp hc with hc | hc
          · exact low c hc
          · have := List.mem_singleton.mp hc
            omega
        · rw [upd_same, List.map_append]; rfl
    · rintro H2 ⟨D2, B2, l, hl, low, hL2⟩
      refine ⟨_, L, l.map (fun c => txt [c]), rfl, rfl, .inl ?_, ?_, ?_⟩
      · rw [List.map_map]; exact SqL.of hL2
      · rw [List.map_map, List.length_map]
        have : ∀ l : List Nat, (l.map ((fun x : Str => x.length) ∘ fun c => txt [c])).sum = l.length := by
          intro l
          induction l with
          | nil => rfl
          | cons a r ih =>
            rw [List.map_cons, List.sum_cons, ih]
            show (txt [a]).length + _ = _
            rw [txt_length]
            show 1 + r.length = r.length + 1
            omega
        rw [this]
        show _ + _ * 0 ≤ _
        omega
      · show Q (.str (Txt.join (txt []) _)) H2
        rw [join_signs]
        exact k l H2 hl low D2 B2
theorem cal_letters (D : Def K mg "_law_letters" sLetters psLetters) (T : Txt mg) (D1 : Def K mg "_law_draw" sDraw psDraw) : Cal P w K mg base CX0 2 "_law_letters" psLetters spLetters := by
  obtain ⟨f1, fd1, F1, m1, b1⟩ := D1
  exact cal_mk D fun f fd F => ok_letters F T F1 b1 m1
end
end W

set_option Elab.async false
set_option linter.all false
set_option maxRecDepth 100000
set_option maxHeartbeats 4000000
namespace W
open PySem L2 WM
abbrev sLWheel : Stmt := top 47
abbrev psLWheel : List Str := ["draws", "most"]
theorem scLWheel : FnScope ["draws", "most", "way", "kinds", "many"] ["draws", "most"] (defScope sLWheel) := ⟨rfl, rfl, rfl, by decide +kernel, rfl, by decide +kernel, by decide +kernel⟩
section
variable {P : Program} {w : World} {K : PySem.W.Frag} {mg : Str → Option Value} {base : Heap}
theorem ok_lwheel {f f1 f2 : Addr} {fd fd1 fd2 : FuncData} (F : Fun K "_law_wheel" "_law_wheel" sLWheel f fd) (T : Txt mg) (F1 : Fun K "_law_draw" "_law_draw" sDraw f1 fd1) (b1 : Binds K fd1 ["draws", "many"] []) (m1 : mg "_law_draw" = some (.ref f1))
    (F2 : Fun K "_law_letters" "_law_letters" sLetters f2 fd2) (b2 : Binds K fd2 ["draws", "many", "kinds"] []) (m2 : mg "_law_letters" = some (.ref f2)) :
    FnOk P w K mg base CX0 3 f fd ["draws", "most"] spLWheel := by
  refine F.ok scLWheel (fun vs H Q E h => ?_) (fun cdv A outer s H vs Q E hr h => ?_)
  · obtain ⟨p, m, rfl, _⟩ := h
    rfl
  · obtain ⟨p, m, rfl, D, m1', m30, k⟩ := h
    have G1 : FnOk P w K mg base CX0 1 f1 fd1 ["draws", "many"] spDraw := ok_draw F1
    have G2 : FnOk P w K mg base CX0 2 f2 fd2 ["draws", "many", "kinds"] spLetters := ok_letters F2 T F1 b1 m1
    have hr1 : Room 1 _ := hr.mono (by decide)
    refine ⟨_, (@pss_cons _ _ _ _ _ (@ps_set _ _ 2 _ _ _ _ scLWheel.nd rfl (Or.inl rfl) (@pe_call _ _ _ _ _ _ _ _ _ _ _ _ _ _ _ _ G1 hr1 (by rfl) m1 F1.kp b1 .nil pass0 (@pa_cons _ _ _ _ _ (@pv _ 0 _ _ (by rfl) (by first | exact Or.inl rfl | exact Or.inr (Or.inl rfl) | exact Or.inr (Or.inr rfl)) (by decide) (by decide)) (@pa_cons _ _ _ _ _ (@pe_int _ _ _ _) (@pa_nil _) (by rfl)) (by rfl)) (by decide) (by rfl) (by rfl)) (by rfl) (by first | exact .inl rfl | exact .inr rfl | assumption)) (@pss_cons _ _ _ _ _ (@ps_set _ _ 3 _ _ _ _ scLWheel.nd rfl (Or.inl rfl) (@pe_ix _ _ _ _ _ _ _ ix_list (@pe_lst _ _ _ _ (@pa_cons _ _ _ _ _ (@pe_op _ _ _ _ _ _ _ _ op_add (@pe_int _ _ _ _) (@pe_call _ _ _ _ _ _ _ _ _ _ _ _ _ _ _ _ G1 hr1 (by rfl) m1 F1.kp b1 .nil pass0 (@pa_cons _ _ _ _ _ (@pv _ 0 _ _ (by rfl) (by first | exact Or.inl rfl | exact Or.inr (Or.inl rfl) | exact Or.inr (Or.inr rfl)) (by decide) (by decide)) (@pa_cons _ _ _ _ _ (@pe_int _ _ _ _) (@pa_nil _) (by rfl)) (by rfl)) (by decide) (by rfl) (by rfl))) (@pa_cons _ _ _ _ _ (@pe_int _ _ _ _) (@pa_cons _ _ _ _ _ (@pe_op _ _ _ _ _ _ _ _ op_add (@pe_int _ _ _ _) (@pe_call _ _ _ _ _ _ _ _ _ _ _ _ _ _ _ _ G1 hr1 (by rfl) m1 F1.kp b1 .nil pass0 (@pa_cons _ _ _ _ _ (@pv _ 0 _ _ (by rfl) (by first | exact Or.inl rfl | exact Or.inr (Or.inl rfl) | exact Or.inr (Or.inr rfl)) (by decide) (by decide)) (@pa_cons _ _ _ _ _ (@pe_int _ _ _ _) (@pa_nil _) (by rfl)) (by rfl)) (by decide) (by rfl) (by rfl))) (@pa_cons _ _ _ _ _ (@pe_int _ _ _ _) (@pa_nil _) (by rfl)) (by rfl)) (by rfl)) (by rfl))) (@pe_call _ _ _ _ _ _ _ _ _ _ _ _ _ _ _ _ G1 hr1 (by rfl) m1 F1.kp b1 .nil pass0 (@pa_cons _ _ _ _ _ (@pv _ 0 _ _ (by rfl) (by first | exact Or.inl rfl | exact Or.inr (Or.inl rfl) | exact Or.inr (Or.inr rfl)) (by decide) (by decide)) (@pa_cons _ _ _ _ _ (@pe_int _ _ _ _) (@pa_nil _) (by rfl)) (by rfl)) (by decide) (by rfl) (by rfl)) (fun _ _ => rfl)) (by rfl) (by first | exact .inl rfl | exact .inr rfl | assumption)) (@pss_cons _ _ _ _ _ (@ps_set _ _ 4 _ _ _ _ scLWheel.nd rfl (Or.inl rfl) (@pe_ix _ _ _ _ _ _ _ ix_list (@pe_lst _ _ _ _ (@pa_cons _ _ _ _ _ (@pe_op _ _ _ _ _ _ _ _ op_add (@pe_int _ _ _ _) (@pe_call _ _ _ _ _ _ _ _ _ _ _ _ _ _ _ _ G1 hr1 (by rfl) m1 F1.kp b1 .nil pass0 (@pa_cons _ _ _ _ _ (@pv _ 0 _ _ (by rfl) (by first | exact Or.inl rfl | exact Or.inr (Or.inl rfl) | exact Or.inr (Or.inr rfl)) (by decide) (by decide)) (@pa_cons _ _ _ _ _ (@pe_int _ _ _ _) (@pa_nil _) (by rfl)) (by rfl)) (by decide) (by rfl) (by rfl))) (@pa_cons _ _ _ _ _ (@pe_op _ _ _ _ _ _ _ _ op_add (@pe_int _ _ _ _) (@pe_call _ _ _ _ _ _ _ _ _ _ _ _ _ _ _ _ G1 hr1 (by rfl) m1 F1.kp b1 .nil pass0 (@pa_cons _ _ _ _ _ (@pv _ 0 _ _ (by rfl) (by first | exact Or.inl rfl | exact Or.inr (Or.inl rfl) | exact Or.inr (Or.inr rfl)) (by decide) (by decide)) (@pa_cons _ _ _ _ _ (@pv _ 1 _ _ (by rfl) (by first | exact Or.inl rfl | exact Or.inr (Or.inl rfl) | exact Or.inr (Or.inr rfl)) (by decide) (by decide)) (@pa_nil _) (by rfl)) (by rfl)) (by decide) (by rfl) (by rfl))) (@pa_cons _ _ _ _ _ (@pv _ 1 _ _ (by rfl) (by first | exact Or.inl rfl | exact Or.inr (Or.inl rfl) | exact Or.inr (Or.inr rfl)) (by decide) (by decide)) (@pa_cons _ _ _ _ _ (@pe_op _ _ _ _ _ _ _ _ op_add (@pe_int _ _ _ _) (@pe_call _ _ _ _ _ _ _ _ _ _ _ _ _ _ _ _ G1 hr1 (by rfl) m1 F1.kp b1 .nil pass0 (@pa_cons _ _ _ _ _ (@pv _ 0 _ _ (by rfl) (by first | exact Or.inl rfl | exact Or.inr (Or.inl rfl) | exact Or.inr (Or.inr rfl)) (by decide) (by decide)) (@pa_cons _ _ _ _ _ (@pe_int _ _ _ _) (@pa_nil _) (by rfl)) (by rfl)) (by decide) (by rfl) (by rfl))) (@pa_nil _) (by rfl)) (by rfl)) (by rfl)) (by rfl))) (@pv _ 2 _ _ (by rfl) (by first | exact Or.inl rfl | exact Or.inr (Or.inl rfl) | exact Or.inr (Or.inr rfl)) (by decide) (by decide)) (fun _ _ => rfl)) (by rfl) (by first | exact .inl rfl | exact .inr rfl | assumption)) (@pss_one _ _ _ (@ps_ret _ _ _ _ (@pe_call _ _ _ _ _ _ _ _ _ _ _ _ _ _ _ _ G2 hr (by rfl) m2 F2.kp b2 .nil pass0 (@pa_cons _ _ _ _ _ (@pv _ 0 _ _ (by rfl) (by first | exact Or.inl rfl | exact Or.inr (Or.inl rfl) | exact Or.inr (Or.inr rfl)) (by decide) (by decide)) (@pa_cons _ _ _ _ _ (@pe_callB _ _ _ _ _ _ _ _ _ (call_min2 rfl) (by rfl) T.min (by decide +kernel) (@pa_cons _ _ _ _ _ (@pv _ 4 _ _ (by rfl) (by first | exact Or.inl rfl | exact Or.inr (Or.inl rfl) | exact Or.inr (Or.inr rfl)) (by decide) (by decide)) (@pa_cons _ _ _ _ _ (@pv _ 1 _ _ (by rfl) (by first | exact Or.inl rfl | exact Or.inr (Or.inl rfl) | exact Or.inr (Or.inr rfl)) (by decide) (by decide)) (@pa_nil _) (by rfl)) (by rfl)) (by decide) (by decide) (by rfl) (by rfl)) (@pa_cons _ _ _ _ _ (@pv _ 3 _ _ (by rfl) (by first | exact Or.inl rfl | exact Or.inr (Or.inl rfl) | exact Or.inr (Or.inr rfl)) (by decide) (by decide)) (@pa_nil _) (by rfl)) (by rfl)) (by rfl)) (by decide) (by rfl) (by rfl))))))), ?_⟩
    -- way
    refine ⟨_, rfl, p, _, rfl, D, by omega, by omega, fun way H1 w0 w1 D1 B1 => ?_⟩
    -- kinds
    refine ⟨_, rfl, p, _, rfl, D1, by omega, by omega, fun x1 H2 x10 x11 D2 B2 => ⟨_, _, rfl, rfl, ?_⟩⟩
    refine ⟨_, rfl, p, _, rfl, D2, by omega, by omega, fun x2 H3 x20 x21 D3 B3 => ⟨_, _, rfl, rfl, ?_⟩⟩
    refine ⟨(by show 4 ≤ sizeLine; decide), fun L hL => ?_⟩
    have hLp : L ≠ p := D3.ne hL
    refine ⟨_, rfl, p, _, rfl, D3.new hL, by omega, by omega, fun x3 H4 x30 x31 D4 B4 => ?_⟩
    obtain ⟨v, hv, hv'⟩ := at4 (a := .int (1 + x1)) (b := .int 2) (c := .int (3 + x2)) (d := .int 26) x30 x31
    obtain ⟨kd, rfl, kd1, kd26⟩ : ∃ kd : Int, v = .int kd ∧ 1 ≤ kd ∧ kd ≤ 26 := by
      rcases hv' with rfl | rfl | rfl | rfl
      · exact ⟨_, rfl, by omega, by omega⟩
      · exact ⟨_, rfl, by omega, by omega⟩
      · exact ⟨_, rfl, by omega, by omega⟩
      · exact ⟨_, rfl, by omega, by omega⟩
    refine ⟨L, _, _, _, rfl, rfl, SqL.of (B4 _ _ upd_same hLp), hv, ?_⟩
    -- many
    refine ⟨_, rfl, p, _, rfl, D4, by omega, by omega, fun y1 H5 y10 y11 D5 B5 => ⟨_, _, rfl, rfl, ?_⟩⟩
    refine ⟨_, rfl, _, rfl, p, _, rfl, D5, by omega, by omega, fun y2 H6 y20 y21 D6 B6 => ⟨_, _, rfl, rfl, ?_⟩⟩
    refine ⟨_, rfl, ?_⟩
    refine ⟨_, rfl, p, _, rfl, D6, by omega, by omega, fun y3 H7 y30 y31 D7 B7 => ⟨_, _, rfl, rfl, ?_⟩⟩
    refine ⟨(by show 4 ≤ sizeLine; decide), fun L2 hL2 => ?_⟩
    obtain ⟨v2, hv2, hv2'⟩ := at4 (a := .int (1 + y1)) (b := .int (1 + y2)) (c := .int m) (d := .int (1 + y3)) w0 w1
    obtain ⟨mn, rfl, mn1⟩ : ∃ kd : Int, v2 = .int kd ∧ 1 ≤ kd := by
      rcases hv2' with rfl | rfl | rfl | rfl
      · exact ⟨_, rfl, by omega⟩
      · exact ⟨_, rfl, by omega⟩
      · exact ⟨_, rfl, by omega⟩
      · exact ⟨_, rfl, by omega⟩
    refine ⟨_, rfl, L2, _, _, _, rfl, rfl, SqL.of upd_same, hv2, ?_⟩
    -- letters
    have hm : ∃ z : Int, (if m < mn then m else mn) = z ∧ 1 ≤ z ∧ z ≤ m := by
      by_cases h : m < mn
      · rw [if_pos h]; exact ⟨_, rfl, by omega, by omega⟩
      · rw [if_neg h]; exact ⟨_, rfl, by omega, by omega⟩
    obtain ⟨z, hz, z1, z2⟩ := hm
    refine ⟨_, rfl, _, rfl, _, rfl, _, _, rfl, ?_⟩
    rw [hz]
    refine ⟨_, rfl, p, _, _, rfl, D7.new hL2, by omega, by omega, kd1, kd26, fun l H8 hl low D8 B8 => ?_⟩
    refine k l H8 ⟨by omega, by omega, low⟩ (by omega) D8 ?_
    exact B1.trans (B2.trans (B3.trans ((But.new hL).trans (B4.trans (B5.trans (B6.trans (B7.trans ((But.new hL2).trans B8))))))))
theorem cal_lwheel (D : Def K mg "_law_wheel" sLWheel psLWheel) (T : Txt mg) (D1 : Def K mg "_law_draw" sDraw psDraw) (D2 : Def K mg "_law_letters" sLetters psLetters) : Cal P w K mg base CX0 3 "_law_wheel" psLWheel spLWheel := by
  obtain ⟨f1, fd1, F1, m1, b1⟩ := D1
  obtain ⟨f2, fd2, F2, m2, b2⟩ := D2
  exact cal_mk D fun f fd F => ok_lwheel F T F1 b1 m1 F2 b2 m2
end
end W

set_option Elab.async false
set_option linter.all false
set_option maxRecDepth 100000
set_option maxHeartbeats 4000000
namespace W
open PySem L2 WM

abbrev sLWord : Stmt := top 48
abbrev psLWord : List Str := ["draws", "wheel", "most"]
theorem scLWord : FnScope ["draws", "wheel", "most", "many", "k"] ["draws", "wheel", "most"] (defScope sLWord) := ⟨rfl, rfl, rfl, by decide +kernel, rfl, by decide +kernel, by decide +kernel⟩
theorem lLWord_0 : Loc (defScope sLWord) "draws" := Or.inr (by decide +kernel)
theorem vLWord_0 : Vis (defScope sLWord) "draws" := Or.inr (Or.inl (by decide +kernel))
theorem lLWord_2 : Loc (defScope sLWord) "most" := Or.inl (by decide +kernel)
theorem vLWord_2 : Vis (defScope sLWord) "most" := Or.inl (by decide +kernel)
theorem lLWord_3 : Loc (defScope sLWord) "many" := Or.inl (by decide +kernel)
theorem vLWord_3 : Vis (defScope sLWord) "many" := Or.inl (by decide +kernel)
section
variable {P : Program} {w : World} {K : PySem.W.Frag} {mg : Str → Option Value} {base : Heap}
def spLWord : Sp := fun vs H Q _ => ∃ (p : Addr) (l : List Nat) (m : Int), vs = [.ref p, .str (txt l), .int m] ∧ DrAt H p ∧ 1 ≤ l.length ∧ l.length ≤ 500 ∧ 0 ≤ m ∧ m ≤ 100 ∧ ∀ (o : List Nat) (H' : Hp), (∀ c ∈ o, c ∈ l) → (o.length : Int) ≤ m → DrAt H' p → But p H H' → Q (.str (txt o)) H'
theorem cal_lword (D : Def K mg "_law_word" sLWord psLWord) (T : Txt mg) (CDw : Cal P w K mg base CX0 1 "_law_draw" ["draws", "many"] spDraw) : Cal P w K mg base CX0 2 "_law_word" psLWord spLWord := cal_mk D fun f fd F => by
  obtain ⟨fDw, dDw, GDw, kDw, bDw, mDw⟩ := CDw
  refine F.ok scLWord (fun vs H Q E h => ?_) (fun cdv A outer s H vs Q E hr h => ?_)
  · obtain ⟨p, l, m, rfl, _⟩ := h
    rfl
  · obtain ⟨p, l, m, rfl, D0, h1, h2, m0, m100, k⟩ := h
    have hz : (txt l).length ≤ sizeLine := by rw [txt_length]; exact Nat.le_of_lt (small1000 (by omega))
    refine ⟨_, (@pss_cons _ _ _ _ _ (@ps_set _ _ 3 _ _ _ _ scLWord.nd rfl lLWord_3 (@pe_ix _ _ _ _ _ _ _ ix_list (@pe_lst _ _ _ _ (@pa_cK _ _ _ _ _ _ _ _ (@pe_call _ _ _ _ _ _ _ _ _ _ _ _ _ _ _ _ GDw (hr.mono (by decide)) (by rfl) mDw kDw bDw .nil pass0 (@pa_cN _ _ _ _ _ _ (@pv _ 0 _ _ (by rfl) vLWord_0 (by decide) (by decide)) (@pa_cC _ _ _ _ _ _ _ (@pe_int _ _ _ _) (@pa_nil _))) (by decide) (by rfl) (by rfl)) (@pa_cK _ _ _ _ _ _ _ _ (@pe_call _ _ _ _ _ _ _ _ _ _ _ _ _ _ _ _ GDw (hr.mono (by decide)) (by rfl) mDw kDw bDw .nil pass0 (@pa_cN _ _ _ _ _ _ (@pv _ 0 _ _ (by rfl) vLWord_0 (by decide) (by decide)) (@pa_cB _ _ _ _ _ _ _ _ (@pe_op _ _ _ _ _ _ _ _ op_add (@pv _ 2 _ _ (by rfl) vLWord_2 (by decide) (by decide)) (@pe_int _ _ _ _)) (@pa_nil _))) (by decide) (by rfl) (by rfl)) (@pa_cN _ _ _ _ _ _ (@pv _ 2 _ _ (by rfl) vLWord_2 (by decide) (by decide)) (@pa_nil _))))) (@pe_call _ _ _ _ _ _ _ _ _ _ _ _ _ _ _ _ GDw (hr.mono (by decide)) (by rfl) mDw kDw bDw .nil pass0 (@pa_cN _ _ _ _ _ _ (@pv _ 0 _ _ (by rfl) vLWord_0 (by decide) (by decide)) (@pa_cC _ _ _ _ _ _ _ (@pe_int _ _ _ _) (@pa_nil _))) (by decide) (by rfl) (by rfl)) (fun _ _ => rfl)) (by rfl) (by first | exact .inl rfl | exact .inr rfl | assumption)) (@pss_one _ _ _ (@ps_ret _ _ _ _ (@pe_join _ _ _ _ _ _ _ (@pe_str _ _ _ _) (@pe_lc _ _ _ _ _ _ [("k", 4)] _ _ (gName 4) _ _ (by rfl) scLWord.nd (@pi_range1 _ _ _ _ _ _ (by rfl) T.range (@pa_cK _ _ _ _ _ _ _ _ (@pe_callB _ _ _ _ _ _ _ _ _ (call_min2 rfl) (by rfl) T.min (by decide +kernel) (@pa_cN _ _ _ _ _ _ (@pv _ 3 _ _ (by rfl) vLWord_3 (by decide) (by decide)) (@pa_cN _ _ _ _ _ _ (@pv _ 2 _ _ (by rfl) vLWord_2 (by decide) (by decide)) (@pa_nil _))) (by decide) (by decide) (by rfl) (by rfl)) (@pa_nil _)) (by rfl)) (blkOk_by (own := [("k", 4)]) (N := ["draws", "wheel", "most", "many", "k"]) (sc := defScope sLWord) (by decide +kernel)) (fun _ _ _ _ _ => (@pg_name _ _ 4 _ scLWord.nd rfl (Or.inl rfl) (by first | exact .inl rfl | exact .inr rfl | assumption))) (fun _ _ _ _ _ => (@pts_nil _)) (fun _ _ _ _ _ => (@pe_ix _ _ _ _ _ _ _ ix_str (@pv _ 1 _ _ (by rfl) (by first | exact Or.inl rfl | exact Or.inr (Or.inl rfl) | exact Or.inr (Or.inr rfl)) (by decide) (by decide)) (@pe_call _ _ _ _ _ _ _ _ _ _ _ _ _ _ _ _ GDw (hr.mono (by decide)) (by rfl) mDw kDw bDw .nil pass0 (@pa_cN _ _ _ _ _ _ (@pv _ 0 _ _ (by rfl) (by first | exact Or.inl rfl | exact Or.inr (Or.inl rfl) | exact Or.inr (Or.inr rfl)) (by decide) (by decide)) (@pa_cK _ _ _ _ _ _ _ _ (@pe_callB _ _ _ _ _ _ _ _ _ call_len_str (by rfl) T.len PySem.boot_len (@pa_cN _ _ _ _ _ _ (@pv _ 1 _ _ (by rfl) (by first | exact Or.inl rfl | exact Or.inr (Or.inl rfl) | exact Or.inr (Or.inr rfl)) (by decide) (by decide)) (@pa_nil _)) (by decide) (by decide) (by rfl) (by rfl)) (@pa_nil _))) (by decide) (by rfl) (by rfl)) (fun _ _ => rfl))) (by intro _ ; rfl)) (by rfl) (by rfl) (by rfl))))), ?_⟩
    refine ⟨_, rfl, p, _, rfl, D0, by omega, by omega, fun x1 H1 x10 x11 D1 B1 => ?_⟩
    refine ⟨_, rfl, _, rfl, _, _, rfl, rfl, p, _, rfl, D1, by omega, by omega, fun x2 H2 x20 x21 D2 B2 => ?_⟩
    refine ⟨_, rfl, (by show 3 ≤ sizeLine; decide), fun L hL => ?_⟩
    refine ⟨_, rfl, p, _, rfl, D2.new hL, by omega, by omega, fun x3 H3 x30 x31 D3 B3 => ?_⟩
    obtain ⟨v, hv, hv'⟩ := at3 (a := .int x1) (b := .int x2) (c := .int m) x30 x31
    obtain ⟨z, rfl, z0⟩ : ∃ z : Int, v = .int z ∧ 0 ≤ z := by
      rcases hv' with rfl | rfl | rfl
      · exact ⟨_, rfl, by omega⟩
      · exact ⟨_, rfl, by omega⟩
      · exact ⟨_, rfl, by omega⟩
    refine ⟨L, _, _, _, rfl, rfl, SqL.of (B3 _ _ upd_same (D2.ne hL)), hv, ?_⟩
    have hm : ∃ y : Int, (if m < z then m else z) = y ∧ 0 ≤ y ∧ y ≤ m := by
      refine ⟨_, rfl, ?_, ?_⟩ <;> (split <;> omega)
    obtain ⟨y, hy, y0, ym⟩ := hm
    refine ⟨⟨_, rfl⟩, _, rfl, _, rfl, _, _, rfl, _, rfl, ?_⟩
    rw [hy]
    have B03 : But p H H3 := B1.trans (B2.trans ((But.new hL).trans B3))
    refine ⟨by omega, by omega, fun M hM => lc_rangeD (p := p) (fun v => ∃ c ∈ l, v = V.str (txt [c])) D3 hM (small1000 (by omega)) ?_ ?_ yes_mono name_mono⟩
    · intro i H' hi D' B' _ Qy ky
      refine ⟨rfl, rfl, ?_⟩
      refine ⟨_, rfl, _, rfl, _, rfl, _, rfl, hz, p, _, rfl, D', by rw [txt_length]; omega, by rw [txt_length]; omega, fun r H'' r0 r1 D'' B'' => ?_⟩
      rw [txt_length] at r1
      obtain ⟨c, hc, hcm⟩ := at_some (l := l) r0 r1
      exact ⟨_, _, c, rfl, rfl, hz, hc, ky _ _ ⟨c, hcm, rfl⟩ D'' B''⟩
    intro H4 ys hyl hyR D4 B4 hM4
    obtain ⟨o, rfl, hol, hoc⟩ := signs_of_vs hyR
    refine ⟨_, M, o.map (fun c => txt [c]), rfl, rfl, .inl (SqL.of hM4), ?_, ?_⟩
    · rw [sum_ones, List.length_map]
      show _ + _ * 0 ≤ _
      omega
    · show Q (.str (Txt.join (txt []) _)) H4
      rw [join_signs]
      exact k o H4 hoc (by omega) D4 (B03.trans B4)
end
end W

set_option Elab.async false
set_option linter.all false
set_option maxRecDepth 100000
set_option maxHeartbeats 4000000
namespace W
open PySem L2 WM
abbrev sLIsWord : Stmt := top 50
abbrev psLIsWord : List Str := ["text"]
theorem scLIsWord : FnScope ["text", "sign"] ["text"] (defScope sLIsWord) := ⟨rfl, rfl, rfl, by decide +kernel, rfl, by decide +kernel, by decide +kernel⟩
section
variable {P : Program} {w : World} {K : PySem.W.Frag} {mg : Str → Option Value} {base : Heap}
theorem ok_liw {f : Addr} {fd : FuncData} (F : Fun K "_law_is_word" "_law_is_word" sLIsWord f fd) (T : Txt mg) : FnOk P w K mg base CX0 1 f fd ["text"] spLIsWord := by
  refine F.ok scLIsWord (fun vs H Q E h => ?_) (fun cdv A outer s H vs Q E hr h => ?_)
  · obtain ⟨c, rfl, _⟩ := h
    rfl
  · obtain ⟨l, rfl, hl, hcp, k⟩ := h
    refine ⟨_, (@pss_one _ _ _ (@ps_ret _ _ _ _ (@pe_and _ _ _ _ _ _ _ (@pe_cmpR _ _ _ _ _ _ _ _ op_le (@pe_callB _ _ _ _ _ _ _ _ _ call_len_str (by rfl) T.len PySem.boot_len (@pa_cons _ _ _ _ _ (@pv _ 0 _ _ (by rfl) (by first | exact Or.inl rfl | exact Or.inr (Or.inl rfl) | exact Or.inr (Or.inr rfl)) (by decide) (by decide)) (@pa_nil _) (by rfl)) (by decide) (by decide) (by rfl) (by rfl)) (@pe_int _ _ _ _) (nomark _)) (@pe_one _ _ _ _ _ (@pe_cmpR _ _ _ _ _ _ _ _ (op_eqD hr.units) (@pe_lc _ _ _ _ _ _ [("sign", 1)] _ _ (gName 1) _ _ (by rfl) scLIsWord.nd (@pi_str _ _ _ _ (@pv _ 0 _ _ (by rfl) (by first | exact Or.inl rfl | exact Or.inr (Or.inl rfl) | exact Or.inr (Or.inr rfl)) (by decide) (by decide))) (blkOk_by (own := [("sign", 1)]) (N := ["text", "sign"]) (sc := defScope sLIsWord) (by decide +kernel)) (fun _ _ _ _ _ => (@pg_name _ _ 1 _ scLIsWord.nd rfl (Or.inl rfl) (by first | exact .inl rfl | exact .inr rfl | assumption))) (fun _ _ _ _ _ => (@pts_one _ _ _ (@pt_cmpR _ _ _ _ _ _ _ _ op_notIn_sign (@pv _ 1 _ _ (by rfl) (by first | exact Or.inl rfl | exact Or.inr (Or.inl rfl) | exact Or.inr (Or.inr rfl)) (by decide) (by decide)) (@pe_str _ _ _ _) rfl))) (fun _ _ _ _ _ => (@pv _ 1 _ _ (by rfl) (by first | exact Or.inl rfl | exact Or.inr (Or.inl rfl) | exact Or.inr (Or.inr rfl)) (by decide) (by decide))) (by intro _ ; rfl)) (@pe_lst _ _ _ _ (@pa_nil _)) (nomark _)))))), ?_⟩
    refine ⟨_, rfl, _, rfl, (by rw [txt_length]; exact Nat.le_of_lt (small1000 (by omega))), _, _, rfl, rfl, _, rfl, ?_⟩
    rw [txt_length]
    have e1 : decide (((l.length : Nat) : Int) ≤ 80) = decide (l.length ≤ 80) := decide_eq_decide.mpr ⟨fun h => by omega, fun h => by omega⟩
    rw [e1]
    unfold isW at k
    cases e3 : decide (l.length ≤ 80) with
    | false =>
      rw [e3] at k
      exact iteF (k H (Same.refl H))
    | true =>
      rw [e3] at k
      refine iteT ?_
      refine ⟨_, rfl, _, rfl, fun D hD => lc_str (fun i H1 => Same H H1 ∧ i ≤ l.length ∧ H1 D = some (.lst ((bad (l.take i)).map fun c => V.str (txt [c])))) ?_ ?_ ?_⟩
      · exact ⟨fun b o e => by rw [upd_ne (ne_of_none e hD)]; exact e, Nat.zero_le _, upd_same⟩
      · rintro i c H1 hc ⟨s1, hi, hL⟩
        have hc' : l[i]? = some c := by simpa [txt] using hc
        have hlt := (List.getElem?_eq_some_iff.mp hc').1
        have et : l.take (i + 1) = l.take i ++ [c] := by rw [List.take_succ, hc']; rfl
        refine ⟨rfl, _, rfl, c, _, rfl, rfl, _, rfl, ?_⟩
        rw [mem_abc]
        cases ho : okC c with
        | true =>
          show Same H H1 ∧ _
          refine ⟨s1, hlt, ?_⟩
          rw [et]
          unfold bad
          rw [List.filter_append, List.filter_cons_of_neg (by simp [ho]), List.filter_nil, List.append_nil]
          exact hL
        | false =>
          rw [if_pos (show (!false) = true from rfl)]
          refine ⟨_, rfl, _, hL, ?_, ?_⟩
          · rw [List.length_map]
            have h1 : (bad (l.take i)).length ≤ (l.take i).length := List.length_filter_le _ _
            rw [List.length_take] at h1
            exact small1000 (by omega)
          · refine ⟨fun b o e => ?_, hlt, ?_⟩
            · rw [upd_ne (ne_of_none e hD)]; exact s1 b o e
            · rw [upd_same, et]
              unfold bad
              rw [List.filter_append, List.filter_cons_of_pos (by simp [ho]), List.filter_nil, List.map_append]
              rfl
      · rintro H1 ⟨s1, hi, hL⟩
        have e : (txt l).cps.size = l.length := by show l.toArray.size = _; simp
        rw [e, List.take_length] at hL
        refine ⟨(by show 0 ≤ sizeLine; decide), fun L2' hL2 => ?_⟩
        refine ⟨.list ((bad l).map dS), .list [], .lst (SqL.of (by rw [upd_ne (ne_of_none hL hL2)]; exact hL)) (dp_signs _), .lst (SqL.of upd_same) .nil, shaped_signs fun c hc => hcp c (List.mem_filter.mp hc).1, by decide, ?_⟩
        have ee : PyData.eqv (.list ((bad l).map dS)) (.list []) = (true && l.all okC) := by
          rw [Bool.true_and, ← bad_all]
          show PyData.eqvAll ((bad l).map dS) [] = _
          cases bad l <;> rfl
        rw [ee]
        exact k _ (s1.trans fun b o e => by rw [upd_ne (ne_of_none e hL2)]; exact e)
theorem cal_liw (D : Def K mg "_law_is_word" sLIsWord psLIsWord) (T : Txt mg) : Cal P w K mg base CX0 1 "_law_is_word" psLIsWord spLIsWord := cal_mk D fun f fd F => ok_liw F T
end
end W

set_option Elab.async false
set_option linter.all false
set_option maxRecDepth 100000
set_option maxHeartbeats 4000000
namespace W
open PySem L2 WM
abbrev sBent : Stmt := top 49
abbrev psBent : List Str := ["text", "draws"]
theorem scBent : FnScope ["text", "draws", "signs", "way", "sign", "at"] ["text", "draws"] (defScope sBent) := ⟨rfl, rfl, rfl, by decide +kernel, rfl, by decide +kernel, by decide +kernel⟩
section
variable {P : Program} {w : World} {K : PySem.W.Frag} {mg : Str → Option Value} {base : Heap}
theorem ok_bent {f f1 : Addr} {fd fd1 : FuncData} (F : Fun K "_law_bent" "_law_bent" sBent f fd) (T : Txt mg) (F1 : Fun K "_law_draw" "_law_draw" sDraw f1 fd1) (b1 : Binds K fd1 ["draws", "many"] []) (m1 : mg "_law_draw" = some (.ref f1)) : FnOk P w K mg base CX0 2 f fd ["text", "draws"] spBent := by
  have G1 : FnOk P w K mg base CX0 1 f1 fd1 ["draws", "many"] spDraw := ok_draw F1
  refine F.ok scBent (fun vs H Q E h => ?_) (fun cdv A outer s H vs Q E hr h => ?_)
  · obtain ⟨l, p, rfl, _⟩ := h
    rfl
  · obtain ⟨l, p, rfl, hcp, hl, D, k⟩ := h
    refine ⟨_, (@pss_cons _ _ _ _ _ (@ps_set _ _ 2 _ _ _ _ scBent.nd rfl (Or.inl rfl) (@pe_str _ _ _ _) (by rfl) (by first | exact .inl rfl | exact .inr rfl | assumption)) (@pss_cons _ _ _ _ _ (@ps_set _ _ 2 _ _ _ _ scBent.nd rfl (Or.inl rfl) (@pe_op _ _ _ _ _ _ _ _ op_add_str (@pv _ 2 _ _ (by rfl) (by first | exact Or.inl rfl | exact Or.inr (Or.inl rfl) | exact Or.inr (Or.inr rfl)) (by decide) (by decide)) (@pe_str _ _ _ _)) (by rfl) (by first | exact .inl rfl | exact .inr rfl | assumption)) (@pss_cons _ _ _ _ _ (@ps_set _ _ 3 _ _ _ _ scBent.nd rfl (Or.inl rfl) (@pe_call _ _ _ _ _ _ _ _ _ _ _ _ _ _ _ _ G1 hr (by rfl) m1 F1.kp b1 .nil pass0 (@pa_cons _ _ _ _ _ (@pv _ 1 _ _ (by rfl) (by first | exact Or.inl rfl | exact Or.inr (Or.inl rfl) | exact Or.inr (Or.inr rfl)) (by decide) (by decide)) (@pa_cons _ _ _ _ _ (@pe_int _ _ _ _) (@pa_nil _) (by rfl)) (by rfl)) (by decide) (by rfl) (by rfl)) (by rfl) (by first | exact .inl rfl | exact .inr rfl | assumption)) (@pss_cons _ _ _ _ _ (@ps_set _ _ 4 _ _ _ _ scBent.nd rfl (Or.inl rfl) (@pe_ix _ _ _ _ _ _ _ ix_list (@pe_lst _ _ _ _ (@pa_cons _ _ _ _ _ (@pe_ix _ _ _ _ _ _ _ ix_str (@pv _ 2 _ _ (by rfl) (by first | exact Or.inl rfl | exact Or.inr (Or.inl rfl) | exact Or.inr (Or.inr rfl)) (by decide) (by decide)) (@pe_call _ _ _ _ _ _ _ _ _ _ _ _ _ _ _ _ G1 hr (by rfl) m1 F1.kp b1 .nil pass0 (@pa_cons _ _ _ _ _ (@pv _ 1 _ _ (by rfl) (by first | exact Or.inl rfl | exact Or.inr (Or.inl rfl) | exact Or.inr (Or.inr rfl)) (by decide) (by decide)) (@pa_cons _ _ _ _ _ (@pe_callB _ _ _ _ _ _ _ _ _ call_len_str (by rfl) T.len PySem.boot_len (@pa_cons _ _ _ _ _ (@pv _ 2 _ _ (by rfl) (by first | exact Or.inl rfl | exact Or.inr (Or.inl rfl) | exact Or.inr (Or.inr rfl)) (by decide) (by decide)) (@pa_nil _) (by rfl)) (by decide) (by decide) (by rfl) (by rfl)) (@pa_nil _) (by rfl)) (by rfl)) (by decide) (by rfl) (by rfl)) (fun _ _ => rfl)) (@pa_cons _ _ _ _ _ (@pe_ix _ _ _ _ _ _ _ ix_str (@pe_str _ _ _ _) (@pe_call _ _ _ _ _ _ _ _ _ _ _ _ _ _ _ _ G1 hr (by rfl) m1 F1.kp b1 .nil pass0 (@pa_cons _ _ _ _ _ (@pv _ 1 _ _ (by rfl) (by first | exact Or.inl rfl | exact Or.inr (Or.inl rfl) | exact Or.inr (Or.inr rfl)) (by decide) (by decide)) (@pa_cons _ _ _ _ _ (@pe_int _ _ _ _) (@pa_nil _) (by rfl)) (by rfl)) (by decide) (by rfl) (by rfl)) (fun _ _ => rfl)) (@pa_nil _) (by rfl)) (by rfl))) (@pe_call _ _ _ _ _ _ _ _ _ _ _ _ _ _ _ _ G1 hr (by rfl) m1 F1.kp b1 .nil pass0 (@pa_cons _ _ _ _ _ (@pv _ 1 _ _ (by rfl) (by first | exact Or.inl rfl | exact Or.inr (Or.inl rfl) | exact Or.inr (Or.inr rfl)) (by decide) (by decide)) (@pa_cons _ _ _ _ _ (@pe_int _ _ _ _) (@pa_nil _) (by rfl)) (by rfl)) (by decide) (by rfl) (by rfl)) (fun _ _ => rfl)) (by rfl) (by first | exact .inl rfl | exact .inr rfl | assumption)) (@pss_cons _ _ _ _ _ (@ps_set _ _ 5 _ _ _ _ scBent.nd rfl (Or.inl rfl) (@pe_call _ _ _ _ _ _ _ _ _ _ _ _ _ _ _ _ G1 hr (by rfl) m1 F1.kp b1 .nil pass0 (@pa_cons _ _ _ _ _ (@pv _ 1 _ _ (by rfl) (by first | exact Or.inl rfl | exact Or.inr (Or.inl rfl) | exact Or.inr (Or.inr rfl)) (by decide) (by decide)) (@pa_cons _ _ _ _ _ (@pe_op _ _ _ _ _ _ _ _ op_add (@pe_callB _ _ _ _ _ _ _ _ _ call_len_str (by rfl) T.len PySem.boot_len (@pa_cons _ _ _ _ _ (@pv _ 0 _ _ (by rfl) (by first | exact Or.inl rfl | exact Or.inr (Or.inl rfl) | exact Or.inr (Or.inr rfl)) (by decide) (by decide)) (@pa_nil _) (by rfl)) (by decide) (by decide) (by rfl) (by rfl)) (@pe_int _ _ _ _)) (@pa_nil _) (by rfl)) (by rfl)) (by decide) (by rfl) (by rfl)) (by rfl) (by first | exact .inl rfl | exact .inr rfl | assumption)) (@pss_cons _ _ _ _ _ (@ps_if _ _ _ _ _ _ _ _ (@pt_cmpR _ _ _ _ _ _ _ _ op_lt (@pv _ 3 _ _ (by rfl) (by first | exact Or.inl rfl | exact Or.inr (Or.inl rfl) | exact Or.inr (Or.inr rfl)) (by decide) (by decide)) (@pe_int _ _ _ _) (nomark _)) (@pss_one _ _ _ (@ps_ret _ _ _ _ (@pe_op _ _ _ _ _ _ _ _ op_add_str (@pe_op _ _ _ _ _ _ _ _ op_add_str (@pe_slice _ _ _ _ _ _ _ _ _ _ sl_str (@pv _ 0 _ _ (by rfl) (by first | exact Or.inl rfl | exact Or.inr (Or.inl rfl) | exact Or.inr (Or.inr rfl)) (by decide) (by decide)) (@po_none _) (@po_some _ _ _ (@pv _ 5 _ _ (by rfl) (by first | exact Or.inl rfl | exact Or.inr (Or.inl rfl) | exact Or.inr (Or.inr rfl)) (by decide) (by decide)))) (@pv _ 4 _ _ (by rfl) (by first | exact Or.inl rfl | exact Or.inr (Or.inl rfl) | exact Or.inr (Or.inr rfl)) (by decide) (by decide))) (@pe_slice _ _ _ _ _ _ _ _ _ _ sl_str (@pv _ 0 _ _ (by rfl) (by first | exact Or.inl rfl | exact Or.inr (Or.inl rfl) | exact Or.inr (Or.inr rfl)) (by decide) (by decide)) (@po_some _ _ _ (@pe_op _ _ _ _ _ _ _ _ op_add (@pv _ 5 _ _ (by rfl) (by first | exact Or.inl rfl | exact Or.inr (Or.inl rfl) | exact Or.inr (Or.inr rfl)) (by decide) (by decide)) (@pv _ 3 _ _ (by rfl) (by first | exact Or.inl rfl | exact Or.inr (Or.inl rfl) | exact Or.inr (Or.inr rfl)) (by decide) (by decide)))) (@po_none _))))) (@pss_nil _)) (@pss_cons _ _ _ _ _ (@ps_if _ _ _ _ _ _ _ _ (@pt_cmpR _ _ _ _ _ _ _ _ op_eq (@pv _ 3 _ _ (by rfl) (by first | exact Or.inl rfl | exact Or.inr (Or.inl rfl) | exact Or.inr (Or.inr rfl)) (by decide) (by decide)) (@pe_int _ _ _ _) (nomark _)) (@pss_one _ _ _ (@ps_ret _ _ _ _ (@pe_op _ _ _ _ _ _ _ _ op_add_str (@pe_slice _ _ _ _ _ _ _ _ _ _ sl_str (@pv _ 0 _ _ (by rfl) (by first | exact Or.inl rfl | exact Or.inr (Or.inl rfl) | exact Or.inr (Or.inr rfl)) (by decide) (by decide)) (@po_none _) (@po_some _ _ _ (@pv _ 5 _ _ (by rfl) (by first | exact Or.inl rfl | exact Or.inr (Or.inl rfl) | exact Or.inr (Or.inr rfl)) (by decide) (by decide)))) (@pe_slice _ _ _ _ _ _ _ _ _ _ sl_str (@pv _ 0 _ _ (by rfl) (by first | exact Or.inl rfl | exact Or.inr (Or.inl rfl) | exact Or.inr (Or.inr rfl)) (by decide) (by decide)) (@po_some _ _ _ (@pe_op _ _ _ _ _ _ _ _ op_add (@pv _ 5 _ _ (by rfl) (by first | exact Or.inl rfl | exact Or.inr (Or.inl rfl) | exact Or.inr (Or.inr rfl)) (by decide) (by decide)) (@pe_int _ _ _ _))) (@po_none _))))) (@pss_nil _)) (@pss_one _ _ _ (@ps_ret _ _ _ _ (@pe_op _ _ _ _ _ _ _ _ op_add_str (@pe_slice _ _ _ _ _ _ _ _ _ _ sl_str (@pv _ 0 _ _ (by rfl) (by first | exact Or.inl rfl | exact Or.inr (Or.inl rfl) | exact Or.inr (Or.inr rfl)) (by decide) (by decide)) (@po_none _) (@po_some _ _ _ (@pe_op _ _ _ _ _ _ _ _ op_add (@pv _ 5 _ _ (by rfl) (by first | exact Or.inl rfl | exact Or.inr (Or.inl rfl) | exact Or.inr (Or.inr rfl)) (by decide) (by decide)) (@pe_int _ _ _ _)))) (@pe_slice _ _ _ _ _ _ _ _ _ _ sl_str (@pv _ 0 _ _ (by rfl) (by first | exact Or.inl rfl | exact Or.inr (Or.inl rfl) | exact Or.inr (Or.inr rfl)) (by decide) (by decide)) (@po_some _ _ _ (@pv _ 5 _ _ (by rfl) (by first | exact Or.inl rfl | exact Or.inr (Or.inl rfl) | exact Or.inr (Or.inr rfl)) (by decide) (by decide))) (@po_none _)))))))))))), ?_⟩
    have hz : (txt l).length ≤ sizeLine := by rw [txt_length]; exact Nat.le_of_lt (small1000 (by omega))
    have h95 : (sgA ++ sgB).length ≤ sizeLine := by rw [sg_len]; exact Nat.le_of_lt (small1000 (by omega))
    refine ⟨_, rfl, _, _, rfl, rfl, (by show 32 + 63 ≤ sizeLine; decide), ?_⟩
    refine ⟨_, rfl, p, _, rfl, D, by omega, by omega, fun way H1 w0 w1 D1 B1 => ?_⟩
    refine ⟨_, rfl, _, rfl, _, rfl, _, rfl, h95, p, _, rfl, D1, sg_pos, sg_lt, fun x1 H2 x10 x11 D2 B2 => ?_⟩
    have x11' : x1 < ((sgA ++ sgB).cps.toList.length : Int) := by
      have : (sgA ++ sgB).cps.toList.length = (sgA ++ sgB).length := by simp [Str.length]
      rw [this]; exact x11
    obtain ⟨c1, hc1, mc1⟩ := at_some (l := (sgA ++ sgB).cps.toList) x10 x11'
    refine ⟨_, _, c1, rfl, rfl, h95, hc1, ?_⟩
    refine ⟨_, rfl, p, _, rfl, D2, by omega, by omega, fun x2 H3 x20 x21 D3 B3 => ?_⟩
    have l3 : ("- 0" : Str).cps.toList.length = 3 := by decide +kernel
    obtain ⟨c2, hc2, mc2⟩ := at_some (l := ("- 0" : Str).cps.toList) (z := x2) x20 (by rw [l3]; exact x21)
    refine ⟨_, _, c2, rfl, rfl, (by show 3 ≤ sizeLine; decide), hc2, (by show 2 ≤ sizeLine; decide), fun L hL => ?_⟩
    refine ⟨_, rfl, p, _, rfl, D3.new hL, by omega, by omega, fun x3 H4 x30 x31 D4 B4 => ?_⟩
    obtain ⟨v, hv, hv'⟩ := at2 (a := .str ⟨#[c1]⟩) (b := .str ⟨#[c2]⟩) x30 x31
    obtain ⟨c, rfl, hc⟩ : ∃ c : Nat, v = .str (txt [c]) ∧ c < 1114112 := by
      rcases hv' with rfl | rfl
      · exact ⟨c1, rfl, sg_cp c1 mc1⟩
      · have : ∀ c ∈ ("- 0" : Str).cps.toList, c < 1114112 := by decide +kernel
        exact ⟨c2, rfl, this c2 mc2⟩
    refine ⟨L, _, _, _, rfl, rfl, SqL.of (B4 _ _ upd_same (D3.ne hL)), hv, ?_⟩
    have BA : But p H H4 := B1.trans (B2.trans (B3.trans ((But.new hL).trans B4)))
    refine ⟨_, rfl, _, rfl, _, rfl, hz, _, _, rfl, rfl, p, _, rfl, D4, by rw [txt_length]; omega, by rw [txt_length]; omega, fun pt H5 p0 p1 D5 B5 => ?_⟩
    rw [txt_length] at p1
    have hcs : Cp [c] := fun d hd => by rw [List.mem_singleton.mp hd]; exact hc
    refine ⟨_, rfl, _, _, rfl, rfl, _, rfl, ?_⟩
    refine ite2 (fun h2 => ?_) (fun h2 => ?_)
    · have h2' : way < 2 := of_decide_eq_true h2
      refine ⟨_, rfl, _, rfl, _, rfl, _, rfl, hz, ?_⟩
      rw [cut_toA p0]
      refine ⟨_, rfl, _, _, rfl, rfl, ?_, ?_⟩
      · rw [txt_length, txt_length, List.length_take]; exact Nat.le_of_lt (small1000 (by simp; omega))
      rw [txt_app]
      refine ⟨_, rfl, _, rfl, _, rfl, _, _, rfl, rfl, _, rfl, _, rfl, hz, ?_⟩
      rw [cut_fromA (by omega)]
      refine ⟨_, _, rfl, rfl, ?_, ?_⟩
      · rw [txt_length, txt_length, List.length_append, List.length_take, List.length_drop]; exact Nat.le_of_lt (small1000 (by simp; omega))
      rw [txt_app]
      refine k _ H5 (((hcp.take _).app hcs).app (hcp.drop _)) ?_ D5 (BA.trans B5)
      rw [List.length_append, List.length_append, List.length_take, List.length_drop]
      simp
      omega
    refine ⟨_, rfl, rfl, _, rfl, ?_⟩
    refine ite2 (fun _ => ?_) (fun _ => ?_)
    · refine ⟨_, rfl, _, rfl, _, rfl, _, rfl, hz, ?_⟩
      rw [cut_toA p0]
      refine ⟨_, rfl, _, rfl, _, _, rfl, rfl, _, rfl, _, rfl, hz, ?_⟩
      rw [cut_fromA (by omega)]
      refine ⟨_, _, rfl, rfl, ?_, ?_⟩
      · rw [txt_length, txt_length, List.length_take, List.length_drop]; exact Nat.le_of_lt (small1000 (by omega))
      rw [txt_app]
      refine k _ H5 ((hcp.take _).app (hcp.drop _)) ?_ D5 (BA.trans B5)
      rw [List.length_append, List.length_take, List.length_drop]
      omega
    · refine ⟨_, rfl, _, rfl, _, _, rfl, rfl, _, rfl, _, rfl, hz, ?_⟩
      rw [cut_toA (by omega)]
      refine ⟨_, rfl, _, rfl, _, rfl, _, rfl, hz, ?_⟩
      rw [cut_fromA p0]
      refine ⟨_, _, rfl, rfl, ?_, ?_⟩
      · rw [txt_length, txt_length, List.length_take, List.length_drop]; exact Nat.le_of_lt (small1000 (by omega))
      rw [txt_app]
      refine k _ H5 ((hcp.take _).app (hcp.drop _)) ?_ D5 (BA.trans B5)
      rw [List.length_append, List.length_take, List.length_drop]
      omega
theorem cal_bent (D : Def K mg "_law_bent" sBent psBent) (T : Txt mg) (D1 : Def K mg "_law_draw" sDraw psDraw) : Cal P w K mg base CX0 2 "_law_bent" psBent spBent := by
  obtain ⟨f1, fd1, F1, m1, b1⟩ := D1
  exact cal_mk D fun f fd F => ok_bent F T F1 b1 m1
end
end W

set_option Elab.async false
set_option linter.all false
set_option maxRecDepth 100000
set_option maxHeartbeats 4000000
namespace W
open PySem L2 WM
abbrev sSign : Stmt := top 18
abbrev psSign : List Str := ["mark"]
theorem scSign : FnScope ["mark"] ["mark"] (defScope sSign) := ⟨rfl, rfl, rfl, by decide +kernel, rfl, by decide +kernel, by decide +kernel⟩
abbrev sWord : Stmt := top 19
abbrev psWord : List Str := ["thing"]
theorem scWord : FnScope ["thing", "mark"] ["thing"] (defScope sWord) := ⟨rfl, rfl, rfl, by decide +kernel, rfl, by decide +kernel, by decide +kernel⟩
section
variable {P : Program} {w : World} {K : PySem.W.Frag} {mg : Str → Option Value} {base : Heap}
theorem ok_sign {f : Addr} {fd : FuncData} (F : Fun K "is_sign" "is_sign" sSign f fd) : FnOk P w K mg base CX0 1 f fd ["mark"] spSign := by
  refine F.ok scSign (fun vs H Q E h => ?_) (fun cdv A outer s H vs Q E hr h => ?_)
  · obtain ⟨c, rfl, _⟩ := h
    rfl
  · obtain ⟨c, rfl, k⟩ := h
    refine ⟨_, (@pss_one _ _ _ (@ps_ret _ _ _ _ (@pe_chain _ _ _ _ _ _ _ _ _ _ _ _ op_le_str op_le_str (@pe_str _ _ _ _) (@pv _ 0 _ _ (by rfl) (by first | exact Or.inl rfl | exact Or.inr (Or.inl rfl) | exact Or.inr (Or.inr rfl)) (by decide) (by decide)) (@pe_str _ _ _ _) (by with_unfolding_all rfl)))), ?_⟩
    refine ⟨_, rfl, _, _, rfl, rfl, _, rfl, ?_⟩
    have e1 : (!decide ((txt [c]).cps.toList < ("a" : Str).cps.toList)) = decide (97 ≤ c) := by
      show (!decide ([c] < [97])) = _
      rw [decide_eq_decide.mpr (Iff.of_eq (lt1 c 97))]
      by_cases h : c < 97
      · rw [decide_eq_true h, decide_eq_false (by omega)]; rfl
      · rw [decide_eq_false h, decide_eq_true (by omega)]; rfl
    have e2 : (!decide (("z" : Str).cps.toList < (txt [c]).cps.toList)) = decide (c ≤ 122) := by
      show (!decide ([122] < [c])) = _
      rw [decide_eq_decide.mpr (Iff.of_eq (lt1 122 c))]
      by_cases h : 122 < c
      · rw [decide_eq_true h, decide_eq_false (by omega)]; rfl
      · rw [decide_eq_false h, decide_eq_true (by omega)]; rfl
    rw [e1]
    unfold okC at k
    by_cases h : 97 ≤ c
    · rw [decide_eq_true h] at k ⊢
      refine iteT ⟨_, _, rfl, rfl, ?_⟩
      rw [e2]
      exact k
    · rw [decide_eq_false h] at k ⊢
      exact iteF k
theorem ok_word {f f1 : Addr} {fd fd1 : FuncData} (F : Fun K "is_word" "is_word" sWord f fd) (T : Txt mg) (gS : GInt mg "MOST_SIGNS" 80) (F1 : Fun K "is_sign" "is_sign" sSign f1 fd1) (b1 : Binds K fd1 ["mark"] []) (m1 : mg "is_sign" = some (.ref f1)) :
    FnOk P w K mg base CX0 2 f fd ["thing"] (spWord K) := by
  refine F.ok scWord (fun vs H Q E h => ?_) (fun cdv A outer s H vs Q E hr h => ?_)
  · rcases h with ⟨c, rfl, _⟩ | ⟨v, rfl, _⟩ <;> rfl
  · have G1 : FnOk P w K mg base CX0 1 f1 fd1 ["mark"] spSign := ok_sign F1
    refine ⟨_, (@pss_cons _ _ _ _ _ (@ps_if _ _ _ _ _ _ _ _ (@PW.pt _ _ _ (@pw_or _ _ _ _ _ _ _ (@pt_not _ _ _ _ (@pt_val _ _ _ (@pe_callB _ _ _ _ _ _ _ _ _ cr_isi (by rfl) T.isi (by decide +kernel) (@pa_cons _ _ _ _ _ (@pv _ 0 _ _ (by rfl) (by first | exact Or.inl rfl | exact Or.inr (Or.inl rfl) | exact Or.inr (Or.inr rfl)) (by decide) (by decide)) (@pa_cons _ _ _ _ _ (@pe_bltn _ _ (.ty "str") _ _ (by rfl) T.str (by decide +kernel) rfl (by decide) (by decide)) (@pa_nil _) (by rfl)) (by rfl)) (by decide) (by decide) (by rfl) (by rfl)) (by intro _ ; rfl))) (@pw_or1 _ _ _ _ (@pt_cmpR _ _ _ _ _ _ _ _ op_gt (@pe_callB _ _ _ _ _ _ _ _ _ call_len_str (by rfl) T.len PySem.boot_len (@pa_cons _ _ _ _ _ (@pv _ 0 _ _ (by rfl) (by first | exact Or.inl rfl | exact Or.inr (Or.inl rfl) | exact Or.inr (Or.inr rfl)) (by decide) (by decide)) (@pa_nil _) (by rfl)) (by decide) (by decide) (by rfl) (by rfl)) (pe_gint (by rfl) gS) (nomark _))))) (@pss_one _ _ _ (@ps_ret _ _ _ _ (@pe_bl _ _ _ _))) (@pss_nil _)) (@pss_one _ _ _ (@ps_ret _ _ _ _ (@pe_callB _ _ _ _ _ _ _ _ _ (cr_all rfl) (by rfl) T.all (by decide +kernel) (@pa_cons _ _ _ _ _ (@pe_lc _ _ _ _ _ _ [("mark", 1)] _ _ (gName 1) _ _ (by rfl) scWord.nd (@pi_str _ _ _ _ (@pv _ 0 _ _ (by rfl) (by first | exact Or.inl rfl | exact Or.inr (Or.inl rfl) | exact Or.inr (Or.inr rfl)) (by decide) (by decide))) (blkOk_by (own := [("mark", 1)]) (N := ["thing", "mark"]) (sc := defScope sWord) (by decide +kernel)) (fun _ _ _ _ _ => (@pg_name _ _ 1 _ scWord.nd rfl (Or.inl rfl) (by first | exact .inl rfl | exact .inr rfl | assumption))) (fun _ _ _ _ _ => (@pts_nil _)) (fun _ _ _ _ _ => (@pe_call _ _ _ _ _ _ _ _ _ _ _ _ _ _ _ _ G1 hr (by rfl) m1 F1.kp b1 .nil pass0 (@pa_cons _ _ _ _ _ (@pv _ 1 _ _ (by rfl) (by first | exact Or.inl rfl | exact Or.inr (Or.inl rfl) | exact Or.inr (Or.inr rfl)) (by decide) (by decide)) (@pa_nil _) (by rfl)) (by decide) (by rfl) (by rfl))) (by intro _ ; rfl)) (@pa_nil _) (by rfl)) (by decide) (by decide) (by rfl) (by rfl))))), ?_⟩
    rcases h with ⟨l, rfl, hl, k⟩ | ⟨v, rfl, ⟨t, ty, kt⟩, k⟩
    rotate_left
    · refine ⟨_, rfl, _, _, _, _, _, rfl, ty, rfl, kt, _, rfl, ?_⟩
      exact iteT (iteT k)
    refine ⟨_, rfl, _, _, _, _, _, rfl, TyOf.str _, rfl, rfl, _, rfl, ?_⟩
    refine iteF ⟨_, rfl, _, rfl, (by rw [txt_length]; exact Nat.le_of_lt (small1000 hl)), _, _, rfl, rfl, _, rfl, ?_⟩
    rw [txt_length]
    by_cases h80 : l.length ≤ 80
    · rw [decide_eq_false (by omega)]
      refine iteF ?_
      refine ⟨_, rfl, _, rfl, fun D hD => lc_str (fun i H1 => Same H H1 ∧ i ≤ l.length ∧ H1 D = some (.lst ((l.take i).map fun c => V.bl (okC c)))) ?_ ?_ ?_⟩
      · exact ⟨fun b o e => by rw [upd_ne (ne_of_none e hD)]; exact e, Nat.zero_le _, upd_same⟩
      · rintro i c H1 hc ⟨s1, hi, hL⟩
        have hc' : l[i]? = some c := by simpa [txt] using hc
        refine ⟨rfl, ?_⟩
        dsimp only [tYes]
        rw [if_pos rfl]
        refine ⟨_, rfl, c, rfl, _, hL, ?_, ?_⟩
        · rw [List.length_map, List.length_take]; exact small1000 (by omega)
        · have hlt := (List.getElem?_eq_some_iff.mp hc').1
          refine ⟨fun b o e => ?_, hlt, ?_⟩
          · rw [upd_ne (ne_of_none e hD)]; exact s1 b o e
          · rw [upd_same, List.take_succ, hc']
            simp
      · rintro H1 ⟨s1, hi, hL⟩
        have e : (txt l).cps.size = l.length := by show l.toArray.size = _; simp
        rw [e, List.take_length] at hL
        refine ⟨D, l.map okC, rfl, ?_, ?_⟩
        · rw [List.map_map]; exact SqL.of hL
        · have : isW l = (l.map okC).all id := by
            unfold isW
            rw [decide_eq_true h80, List.all_map]; rfl
          rw [← this]
          exact k H1 s1
    · rw [decide_eq_true (by omega)]
      refine iteT ?_
      have : isW l = false := by unfold isW; rw [decide_eq_false h80]; rfl
      rw [this] at k
      exact k H (Same.refl H)
theorem cal_word (D : Def K mg "is_word" sWord psWord) (T : Txt mg) (gS : GInt mg "MOST_SIGNS" 80) (D1 : Def K mg "is_sign" sSign psSign) : Cal P w K mg base CX0 2 "is_word" psWord (spWord K) := by
  obtain ⟨f1, fd1, F1, m1, b1⟩ := D1
  exact cal_mk D fun f fd F => ok_word F T gS F1 b1 m1
end
end W

set_option Elab.async false
set_option linter.all false
set_option maxRecDepth 100000
set_option maxHeartbeats 4000000
namespace W
open PySem L2 WM
abbrev sWheel : Stmt := top 23
abbrev psWheel : List Str := ["thing"]
theorem scWheel : FnScope ["thing"] ["thing"] (defScope sWheel) := ⟨rfl, rfl, rfl, by decide +kernel, rfl, by decide +kernel, by decide +kernel⟩
abbrev sNeed : Stmt := top 24
abbrev psNeed : List Str := ["wheel"]
theorem scNeed : FnScope ["wheel"] ["wheel"] (defScope sNeed) := ⟨rfl, rfl, rfl, by decide +kernel, rfl, by decide +kernel, by decide +kernel⟩
section
variable {P : Program} {w : World} {K : PySem.W.Frag} {mg : Str → Option Value} {base : Heap}
theorem ok_wheel {f f1 : Addr} {fd fd1 : FuncData} (F : Fun K "is_wheel" "is_wheel" sWheel f fd) (T : Txt mg) (gP : GInt mg "MOST_PLACES" 30) (G1 : FnOk P w K mg base CX0 2 f1 fd1 ["thing"] (spWord K)) (k1 : PySem.W.keepIn K (.ref f1) = true) (b1 : Binds K fd1 ["thing"] []) (m1 : mg "is_word" = some (.ref f1)) :
    FnOk P w K mg base CX0 3 f fd ["thing"] (spWheel K) := by
  refine F.ok scWheel (fun vs H Q E h => ?_) (fun cdv A outer s H vs Q E hr h => ?_)
  · rcases h with ⟨c, rfl, _⟩ | ⟨v, rfl, _⟩ <;> rfl
  · refine ⟨_, (@pss_one _ _ _ (@ps_ret _ _ _ _ (@pe_and _ _ _ _ _ _ _ (@pe_call _ _ _ _ _ _ _ _ _ _ _ _ _ _ _ _ G1 hr (by rfl) m1 k1 b1 .nil pass0 (@pa_cons _ _ _ _ _ (@pv _ 0 _ _ (by rfl) (by first | exact Or.inl rfl | exact Or.inr (Or.inl rfl) | exact Or.inr (Or.inr rfl)) (by decide) (by decide)) (@pa_nil _) (by rfl)) (by decide) (by rfl) (by rfl)) (@pe_one _ _ _ _ _ (@pe_chain _ _ _ _ _ _ _ _ _ _ _ _ op_le op_le (@pe_int _ _ _ _) (@pe_callB _ _ _ _ _ _ _ _ _ call_len_str (by rfl) T.len PySem.boot_len (@pa_cons _ _ _ _ _ (@pv _ 0 _ _ (by rfl) (by first | exact Or.inl rfl | exact Or.inr (Or.inl rfl) | exact Or.inr (Or.inr rfl)) (by decide) (by decide)) (@pa_nil _) (by rfl)) (by decide) (by decide) (by rfl) (by rfl)) (pe_gint (by rfl) gP) (by with_unfolding_all rfl)))))), ?_⟩
    rcases h with ⟨l, rfl, hl, k⟩ | ⟨v, rfl, hv, k⟩
    rotate_left
    · exact ⟨_, rfl, .inr ⟨v, rfl, hv, false, rfl, iteF k⟩⟩
    refine ⟨_, rfl, .inl ⟨l, rfl, hl, fun H1 s1 => ⟨_, rfl, ?_⟩⟩⟩
    unfold isWh at k
    cases e : isW l with
    | false =>
      rw [e] at k
      exact iteF (k H1 s1)
    | true =>
      rw [e] at k
      refine iteT ?_
      refine ⟨_, rfl, _, rfl, (by rw [txt_length]; exact Nat.le_of_lt (small1000 hl)), _, _, rfl, rfl, _, rfl, ?_⟩
      rw [txt_length]
      have e1 : decide ((1 : Int) ≤ ((l.length : Nat) : Int)) = decide (1 ≤ l.length) := decide_eq_decide.mpr ⟨fun h => by omega, fun h => by omega⟩
      have e2 : decide (((l.length : Nat) : Int) ≤ 30) = decide (l.length ≤ 30) := decide_eq_decide.mpr ⟨fun h => by omega, fun h => by omega⟩
      rw [e1]
      cases e3 : decide (1 ≤ l.length) with
      | false =>
        rw [e3] at k
        exact iteF (k H1 s1)
      | true =>
        rw [e3] at k
        refine iteT ⟨_, _, rfl, rfl, ?_⟩
        show Q (.bl (decide (((l.length : Nat) : Int) ≤ 30))) H1
        rw [e2]
        exact k H1 s1
def spNeed (C : Addr) : Sp := fun vs H Q E => ∃ l : List Nat, vs = [.str (txt l)] ∧ l.length ≤ 1000 ∧ (isWh l = true → ∀ H', Same H H' → Q .non H') ∧ (isWh l = false → ∀ H', Same H H' → E (.ref C) none H')
theorem ok_need {f f1 C : Addr} {fd fd1 : FuncData} (F : Fun K "need_wheel" "need_wheel" sNeed f fd) (T : Txt mg) (G1 : FnOk P w K mg base CX0 3 f1 fd1 ["thing"] (spWheel K)) (k1 : PySem.W.keepIn K (.ref f1) = true) (b1 : Binds K fd1 ["thing"] []) (m1 : mg "is_wheel" = some (.ref f1))
    (mC : mg "NoWheel" = some (.ref C)) (xC : PySem.W.excIn K C bmVE "ValueError.__new__" = true) :
    FnOk P w K mg base (CX1 P w) 4 f fd ["wheel"] (spNeed C) := by
  refine F.okX scNeed (fun vs H Q E h => ?_) (fun cdv A outer s H vs Q E hr h => ?_)
  · obtain ⟨c, rfl, _⟩ := h
    rfl
  · obtain ⟨l, rfl, hl, kt, kf⟩ := h
    refine ⟨_, (@pss_one _ _ _ (@ps_if _ _ _ _ _ _ _ _ (@pt_not _ _ _ _ (@pt_val _ _ _ (@pe_call _ _ _ _ _ _ _ _ _ _ _ _ _ _ _ _ G1 hr (by rfl) m1 k1 b1 .nil pass0 (@pa_cons _ _ _ _ _ (@pv _ 0 _ _ (by rfl) (by first | exact Or.inl rfl | exact Or.inr (Or.inl rfl) | exact Or.inr (Or.inr rfl)) (by decide) (by decide)) (@pa_nil _) (by rfl)) (by decide) (by rfl) (by rfl)) (by intro _ ; rfl))) (@pss_one _ _ _ (@ps_raise _ E _ _ _ _ _ _ _ C up_of rfl (by rfl) mC xC (@pa_cons _ _ _ _ _ (@pe_str _ _ _ _) (@pa_nil _) (by rfl)) (by decide) (by rfl) (by rfl))) (@pss_nil _))), ?_⟩
    refine ⟨_, rfl, .inl ⟨l, rfl, hl, fun H1 s1 => ⟨_, rfl, ?_⟩⟩⟩
    cases e : isWh l with
    | true => exact iteF (kt e H1 s1)
    | false =>
      refine iteT ?_
      exact ⟨by show 1 ≤ sizeLine; decide, kf e H1 s1⟩
theorem cal_wheel (D : Def K mg "is_wheel" sWheel psWheel) (T : Txt mg) (gP : GInt mg "MOST_PLACES" 30) (C1 : Cal P w K mg base CX0 2 "is_word" ["thing"] (spWord K)) : Cal P w K mg base CX0 3 "is_wheel" psWheel (spWheel K) := by
  obtain ⟨f1, fd1, G1, k1, b1, m1⟩ := C1
  exact cal_mk D fun f fd F => ok_wheel F T gP G1 k1 b1 m1
theorem cal_need {C : Addr} (D : Def K mg "need_wheel" sNeed psNeed) (T : Txt mg) (C1 : Cal P w K mg base CX0 3 "is_wheel" ["thing"] (spWheel K)) (mC : mg "NoWheel" = some (.ref C)) (xC : PySem.W.excIn K C bmVE "ValueError.__new__" = true) : Cal P w K mg base (CX1 P w) 4 "need_wheel" psNeed (spNeed C) := by
  obtain ⟨f1, fd1, G1, k1, b1, m1⟩ := C1
  exact cal_mk D fun f fd F => ok_need F T G1 k1 b1 m1 mC xC
end
end W

set_option Elab.async false
set_option linter.all false
set_option maxRecDepth 100000
set_option maxHeartbeats 4000000
namespace W
open PySem L2 WM

abbrev sNWord : Stmt := top 20
abbrev psNWord : List Str := ["word"]
theorem scNWord : FnScope ["word"] ["word"] (defScope sNWord) := ⟨rfl, rfl, rfl, by decide +kernel, rfl, by decide +kernel, by decide +kernel⟩
theorem lNWord_0 : Loc (defScope sNWord) "word" := Or.inl (by decide +kernel)
theorem vNWord_0 : Vis (defScope sNWord) "word" := Or.inl (by decide +kernel)
section
variable {P : Program} {w : World} {K : PySem.W.Frag} {mg : Str → Option Value} {base : Heap}
def spNWord (C : Addr) : Sp := fun vs H Q E => ∃ l : List Nat, vs = [.str (txt l)] ∧ l.length ≤ 1000 ∧ (isW l = true → ∀ H', Same H H' → Q .non H') ∧ (isW l = false → ∀ H', Same H H' → E (.ref C) none H')
theorem cal_nword {CNoWord : Addr} (D : Def K mg "need_word" sNWord psNWord) (T : Txt mg) (CWd : Cal P w K mg base CX0 2 "is_word" ["thing"] (spWord K)) (nNoWord : mg "NoWord" = some (.ref CNoWord)) (xNoWord : PySem.W.excIn K CNoWord bmVE "ValueError.__new__" = true) :
    Cal P w K mg base (CX1 P w) 3 "need_word" psNWord (spNWord CNoWord) := cal_mk D fun f fd F => by
  obtain ⟨fWd, dWd, GWd, kWd, bWd, mWd⟩ := CWd
  refine F.okX scNWord (fun vs H Q E h => ?_) (fun cdv A outer s H vs Q E hr h => ?_)
  · obtain ⟨c, rfl, _⟩ := h
    rfl
  · obtain ⟨l, rfl, hl, kt, kf⟩ := h
    refine ⟨_, (@pss_one _ _ _ (@ps_if _ _ _ _ _ _ _ _ (@pt_not _ _ _ _ (@pt_val _ _ _ (@pe_call _ _ _ _ _ _ _ _ _ _ _ _ _ _ _ _ GWd (hr.mono (by decide)) (by rfl) mWd kWd bWd .nil pass0 (@pa_cN _ _ _ _ _ _ (@pv _ 0 _ _ (by rfl) vNWord_0 (by decide) (by decide)) (@pa_nil _)) (by decide) (by rfl) (by rfl)) (by intro _ ; rfl))) (@pss_one _ _ _ (@ps_raise _ E _ _ _ _ _ _ _ CNoWord up_of rfl (by rfl) nNoWord xNoWord (@pa_cC _ _ _ _ _ _ _ (@pe_str _ _ _ _) (@pa_nil _)) (by decide) (by rfl) (by rfl))) (@pss_nil _))), ?_⟩
    refine ⟨_, rfl, .inl ⟨l, rfl, hl, fun H1 s1 => ⟨_, rfl, ?_⟩⟩⟩
    cases e : isW l with
    | true => exact iteF (kt e H1 s1)
    | false => exact iteT ⟨by show 1 ≤ sizeLine; decide, kf e H1 s1⟩
end
end W

set_option Elab.async false
set_option linter.all false
set_option maxRecDepth 100000
set_option maxHeartbeats 4000000
namespace W
open PySem L2 WM

abbrev sNAm : Stmt := top 32
abbrev psNAm : List Str := ["turns", "word"]
theorem scNAm : FnScope ["turns", "word"] ["turns", "word"] (defScope sNAm) := ⟨rfl, rfl, rfl, by decide +kernel, rfl, by decide +kernel, by decide +kernel⟩
theorem lNAm_0 : Loc (defScope sNAm) "turns" := Or.inl (by decide +kernel)
theorem vNAm_0 : Vis (defScope sNAm) "turns" := Or.inl (by decide +kernel)
theorem lNAm_1 : Loc (defScope sNAm) "word" := Or.inl (by decide +kernel)
theorem vNAm_1 : Vis (defScope sNAm) "word" := Or.inl (by decide +kernel)
abbrev sNRp : Stmt := top 33
abbrev psNRp : List Str := ["wheel", "turns", "word"]
theorem scNRp : FnScope ["wheel", "turns", "word", "sign"] ["wheel", "turns", "word"] (defScope sNRp) := ⟨rfl, rfl, rfl, by decide +kernel, rfl, by decide +kernel, by decide +kernel⟩
theorem lNRp_0 : Loc (defScope sNRp) "wheel" := Or.inr (by decide +kernel)
theorem vNRp_0 : Vis (defScope sNRp) "wheel" := Or.inr (Or.inl (by decide +kernel))
theorem lNRp_1 : Loc (defScope sNRp) "turns" := Or.inl (by decide +kernel)
theorem vNRp_1 : Vis (defScope sNRp) "turns" := Or.inl (by decide +kernel)
theorem lNRp_2 : Loc (defScope sNRp) "word" := Or.inl (by decide +kernel)
theorem vNRp_2 : Vis (defScope sNRp) "word" := Or.inl (by decide +kernel)
abbrev sPTd : Stmt := top 34
abbrev psPTd : List Str := ["wheel", "turns"]
theorem scPTd : FnScope ["wheel", "turns", "places", "place", "turn"] ["wheel", "turns"] (defScope sPTd) := ⟨rfl, rfl, rfl, by decide +kernel, rfl, by decide +kernel, by decide +kernel⟩
theorem lPTd_0 : Loc (defScope sPTd) "wheel" := Or.inl (by decide +kernel)
theorem vPTd_0 : Vis (defScope sPTd) "wheel" := Or.inl (by decide +kernel)
theorem lPTd_1 : Loc (defScope sPTd) "turns" := Or.inl (by decide +kernel)
theorem vPTd_1 : Vis (defScope sPTd) "turns" := Or.inl (by decide +kernel)
theorem lPTd_2 : Loc (defScope sPTd) "places" := Or.inl (by decide +kernel)
theorem vPTd_2 : Vis (defScope sPTd) "places" := Or.inl (by decide +kernel)
theorem lPTd_3 : Loc (defScope sPTd) "place" := Or.inl (by decide +kernel)
theorem vPTd_3 : Vis (defScope sPTd) "place" := Or.inl (by decide +kernel)
theorem lPTd_4 : Loc (defScope sPTd) "turn" := Or.inl (by decide +kernel)
theorem vPTd_4 : Vis (defScope sPTd) "turn" := Or.inl (by decide +kernel)
abbrev sWOn : Stmt := top 35
abbrev psWOn : List Str := ["wheel", "place", "off", "sign"]
theorem scWOn : FnScope ["wheel", "place", "off", "sign", "count", "by"] ["wheel", "place", "off", "sign"] (defScope sWOn) := ⟨rfl, rfl, rfl, by decide +kernel, rfl, by decide +kernel, by decide +kernel⟩
theorem lWOn_0 : Loc (defScope sWOn) "wheel" := Or.inr (by decide +kernel)
theorem vWOn_0 : Vis (defScope sWOn) "wheel" := Or.inr (Or.inl (by decide +kernel))
theorem lWOn_4 : Loc (defScope sWOn) "count" := Or.inr (by decide +kernel)
theorem vWOn_4 : Vis (defScope sWOn) "count" := Or.inr (Or.inl (by decide +kernel))
abbrev sSFo : Stmt := top 36
abbrev psSFo : List Str := ["by"]
theorem scSFo : FnScope ["by"] ["by"] (defScope sSFo) := ⟨rfl, rfl, rfl, by decide +kernel, rfl, by decide +kernel, by decide +kernel⟩
theorem lSFo_0 : Loc (defScope sSFo) "by" := Or.inl (by decide +kernel)
theorem vSFo_0 : Vis (defScope sSFo) "by" := Or.inl (by decide +kernel)
section
variable {P : Program} {w : World} {K : PySem.W.Frag} {mg : Str → Option Value} {base : Heap}
def spNAm (K : PySem.W.Frag) (C10 : Addr) : Sp := fun vs H Q E => ∃ (a : Addr) (ts : List Int) (o : List Nat), vs = [.ref a, .str (txt o)] ∧ SqL K H a (ts.map V.int) ∧ ts.length ≤ 1000 ∧ o.length ≤ 1000 ∧
  (ts.length = o.length → ∀ H', Same H H' → Q .non H') ∧ (ts.length ≠ o.length → ∀ H', Same H H' → E (.ref C10) none H')
theorem cal_nam {CNoTurns : Addr} (D : Def K mg "need_as_many" sNAm psNAm) (T : Txt mg) (nNoTurns : mg "NoTurns" = some (.ref CNoTurns)) (xNoTurns : PySem.W.excIn K CNoTurns bmVE "ValueError.__new__" = true) :
    Cal P w K mg base (CX1 P w) 1 "need_as_many" psNAm (spNAm K CNoTurns) := cal_mk D fun f fd F => by
  refine F.okX scNAm (fun vs H Q E h => ?_) (fun cdv A outer s H vs Q E hr h => ?_)
  · obtain ⟨a, ts, o, rfl, _⟩ := h
    rfl
  · obtain ⟨a, ts, o, rfl, hS, ht, ho, ky, kn⟩ := h
    have hz : (txt o).length ≤ sizeLine := by rw [txt_length]; exact Nat.le_of_lt (small1000 ho)
    refine ⟨_, (@pss_one _ _ _ (@ps_if _ _ _ _ _ _ _ _ (@pt_cmpR _ _ _ _ _ _ _ _ op_ne (@pe_callB _ _ _ _ _ _ _ _ _ call_len_seq (by rfl) T.len PySem.boot_len (@pa_cN _ _ _ _ _ _ (@pv _ 0 _ _ (by rfl) vNAm_0 (by decide) (by decide)) (@pa_nil _)) (by decide) (by decide) (by rfl) (by rfl)) (@pe_callB _ _ _ _ _ _ _ _ _ call_len_str (by rfl) T.len PySem.boot_len (@pa_cN _ _ _ _ _ _ (@pv _ 1 _ _ (by rfl) vNAm_1 (by decide) (by decide)) (@pa_nil _)) (by decide) (by decide) (by rfl) (by rfl)) (nomark _)) (@pss_one _ _ _ (@ps_raise _ E _ _ _ _ _ _ _ CNoTurns up_of rfl (by rfl) nNoTurns xNoTurns (@pa_cC _ _ _ _ _ _ _ (@pe_str _ _ _ _) (@pa_nil _)) (by decide) (by rfl) (by rfl))) (@pss_nil _))), ?_⟩
    refine ⟨_, rfl, a, _, rfl, .inl hS, _, rfl, _, rfl, hz, rfl, _, rfl, ?_⟩
    rw [List.length_map, txt_length]
    by_cases e : ts.length = o.length
    · rw [e, decide_eq_true rfl]
      exact iteF (ky e H (Same.refl H))
    · rw [show (decide (V.int ((ts.length : Nat) : Int) = V.int ((o.length : Nat) : Int))) = false from decide_eq_false (fun z => e (by have := V.int.inj z; omega))]
      exact iteT ⟨by show 1 ≤ sizeLine; decide, kn e H (Same.refl H)⟩
def spNRp (K : PySem.W.Frag) (C11 C12 C10 C0 : Addr) : Sp := fun vs H Q E => ∃ (l : List Nat) (a : Addr) (ts : List Int) (o : List Nat), vs = [.str (txt l), .ref a, .str (txt o)] ∧ l.length ≤ 1000 ∧ SqL K H a (ts.map V.int) ∧ ts.length ≤ 1000 ∧ o.length ≤ 1000 ∧
  (rpk l ts o = 99 → ∀ H', Same H H' → Q .non H') ∧ (rpk l ts o = 11 → ∀ H', Same H H' → E (.ref C11) none H') ∧ (rpk l ts o = 12 → ∀ H', Same H H' → E (.ref C12) none H') ∧ (rpk l ts o = 10 → ∀ H', Same H H' → E (.ref C10) none H') ∧ (rpk l ts o = 0 → ∀ H', Same H H' → E (.ref C0) none H')
theorem cal_nrp {C11 C12 C10 CLacks : Addr} (D : Def K mg "need_report" sNRp psNRp) (T : Txt mg) (CNd : Cal P w K mg base (CX1 P w) 4 "need_wheel" ["wheel"] (spNeed C11)) (CNw : Cal P w K mg base (CX1 P w) 3 "need_word" ["word"] (spNWord C12)) (CNa : Cal P w K mg base (CX1 P w) 1 "need_as_many" ["turns", "word"] (spNAm K C10))
    (nLacks : mg "Lacks" = some (.ref CLacks)) (xLacks : PySem.W.excIn K CLacks bmVE "ValueError.__new__" = true) :
    Cal P w K mg base (CX1 P w) 5 "need_report" psNRp (spNRp K C11 C12 C10 CLacks) := cal_mk D fun f fd F => by
  obtain ⟨fNd, dNd, GNd, kNd, bNd, mNd⟩ := CNd
  obtain ⟨fNw, dNw, GNw, kNw, bNw, mNw⟩ := CNw
  obtain ⟨fNa, dNa, GNa, kNa, bNa, mNa⟩ := CNa
  refine F.okX scNRp (fun vs H Q E h => ?_) (fun cdv A outer s H vs Q E hr h => ?_)
  · obtain ⟨l, a, ts, o, rfl, _⟩ := h
    rfl
  · obtain ⟨l, a, ts, o, rfl, hl, hS, ht, ho, k99, k11, k12, k10, k0⟩ := h
    refine ⟨_, (@pss_cons _ _ _ _ _ (@ps_expr _ _ _ _ (@pe_call _ _ _ _ _ _ _ _ _ _ _ _ _ _ _ _ GNd (hr.mono (by decide)) (by rfl) mNd kNd bNd .nil pass_up (@pa_cN _ _ _ _ _ _ (@pv _ 0 _ _ (by rfl) vNRp_0 (by decide) (by decide)) (@pa_nil _)) (by decide) (by rfl) (by rfl)) (by rfl)) (@pss_cons _ _ _ _ _ (@ps_expr _ _ _ _ (@pe_call _ _ _ _ _ _ _ _ _ _ _ _ _ _ _ _ GNw (hr.mono (by decide)) (by rfl) mNw kNw bNw .nil pass_up (@pa_cN _ _ _ _ _ _ (@pv _ 2 _ _ (by rfl) vNRp_2 (by decide) (by decide)) (@pa_nil _)) (by decide) (by rfl) (by rfl)) (by rfl)) (@pss_cons _ _ _ _ _ (@ps_expr _ _ _ _ (@pe_call _ _ _ _ _ _ _ _ _ _ _ _ _ _ _ _ GNa (hr.mono (by decide)) (by rfl) mNa kNa bNa .nil pass_up (@pa_cN _ _ _ _ _ _ (@pv _ 1 _ _ (by rfl) vNRp_1 (by decide) (by decide)) (@pa_cN _ _ _ _ _ _ (@pv _ 2 _ _ (by rfl) vNRp_2 (by decide) (by decide)) (@pa_nil _))) (by decide) (by rfl) (by rfl)) (by rfl)) (@pss_one _ _ _ (@ps_if _ _ _ _ _ _ _ _ (@pt_not _ _ _ _ (@pt_val _ _ _ (@pe_callB _ _ _ _ _ _ _ _ _ (cr_all rfl) (by rfl) T.all (by decide +kernel) (@pa_cG _ _ _ _ _ _ _ _ (@pe_lc _ _ _ _ _ _ [("sign", 3)] _ _ (gName 3) _ _ (by rfl) scNRp.nd (@pi_str _ _ _ _ (@pv _ 2 _ _ (by rfl) vNRp_2 (by decide) (by decide))) (blkOk_by (own := [("sign", 3)]) (N := ["wheel", "turns", "word", "sign"]) (sc := defScope sNRp) (by decide +kernel)) (fun _ _ _ _ _ => (@pg_name _ _ 3 _ scNRp.nd rfl (Or.inl rfl) (by first | exact .inl rfl | exact .inr rfl | assumption))) (fun _ _ _ _ _ => (@pts_nil _)) (fun _ _ _ _ _ => (@pe_cmpR _ _ _ _ _ _ _ _ op_in_sign (@pv _ 3 _ _ (by rfl) (by first | exact Or.inl rfl | exact Or.inr (Or.inl rfl) | exact Or.inr (Or.inr rfl)) (by decide) (by decide)) (@pv _ 0 _ _ (by rfl) (by first | exact Or.inl rfl | exact Or.inr (Or.inl rfl) | exact Or.inr (Or.inr rfl)) (by decide) (by decide)) rfl)) (by intro _ ; rfl)) (@pa_nil _)) (by decide) (by decide) (by rfl) (by rfl)) (by intro _ ; rfl))) (@pss_one _ _ _ (@ps_raise _ E _ _ _ _ _ _ _ CLacks up_of rfl (by rfl) nLacks xLacks (@pa_cC _ _ _ _ _ _ _ (@pe_str _ _ _ _) (@pa_nil _)) (by decide) (by rfl) (by rfl))) (@pss_nil _)))))), ?_⟩
    unfold rpk at k99 k11 k12 k10 k0
    refine ⟨_, rfl, l, rfl, hl, fun hw H1 s1 => ?_, fun hw H1 s1 => k11 (if_pos hw) H1 s1⟩
    have nw : ¬ isWh l = false := by rw [hw]; decide
    rw [if_neg nw] at k99 k11 k12 k10 k0
    refine ⟨_, rfl, o, rfl, ho, fun hwo H2 s2 => ?_, fun hwo H2 s2 => k12 (if_pos hwo) H2 (s1.trans s2)⟩
    have s12 := s1.trans s2
    have nwo : ¬ isW o = false := by rw [hwo]; decide
    rw [if_neg nwo] at k99 k11 k12 k10 k0
    refine ⟨_, rfl, _, rfl, a, ts, o, rfl, s12.seq hS, ht, ho, fun hm H3 s3 => ?_, fun hm H3 s3 => k10 (if_pos hm) H3 (s12.trans s3)⟩
    have s123 := s12.trans s3
    rw [if_neg (show ¬ (ts.length ≠ o.length) from fun z => z hm)] at k99 k11 k12 k10 k0
    have hoz : o.length < sizeLine := small1000 ho
    refine ⟨_, rfl, _, rfl, fun D hD => lc_strP (fun _ => true) (fun c => V.bl (decide (c ∈ l))) hD hoz ?_ ?_⟩
    · intro c H' _ s' Qy Qn ky kn
      refine ⟨rfl, ?_⟩
      dsimp only [tYes]
      refine iteT ?_
      exact ⟨_, rfl, _, rfl, c, _, rfl, rfl, ky rfl _ (Same.refl _)⟩
    intro H4 s4 hD4
    rw [List.filter_eq_self.mpr (fun _ _ => rfl)] at hD4
    refine ⟨D, o.map (fun c => decide (c ∈ l)), rfl, (by rw [List.map_map]; exact SqL.of hD4), _, rfl, ?_⟩
    rw [List.all_map]
    have e : (o.all (id ∘ fun c => decide (c ∈ l))) = o.all (fun c => decide (c ∈ l)) := rfl
    rw [e]
    cases ec : o.all (fun c => decide (c ∈ l)) with
    | true =>
      rw [ec] at k99
      exact iteF (k99 rfl H4 (s123.trans s4))
    | false =>
      rw [ec] at k0
      exact iteT ⟨by show 1 ≤ sizeLine; decide, k0 rfl H4 (s123.trans s4)⟩
def spPTd (K : PySem.W.Frag) : Sp := fun vs H Q _ => ∃ (l : List Nat) (a : Addr) (ts : List Int), vs = [.str (txt l), .ref a] ∧ Wheel l ∧ SqL K H a (ts.map V.int) ∧ ts.length ≤ 1000 ∧ ∀ D H', Same H H' → H D = none → H' D = some (.lst ((ptl (l.length : Int) ts).map V.int)) → Q (.ref D) H'
theorem cal_ptd (D : Def K mg "places_told" sPTd psPTd) (T : Txt mg) : Cal P w K mg base CX0 1 "places_told" psPTd (spPTd K) := cal_mk D fun f fd F => by
  refine F.ok scPTd (fun vs H Q E h => ?_) (fun cdv A outer s H vs Q E hr h => ?_)
  · obtain ⟨l, a, ts, rfl, _⟩ := h
    rfl
  · obtain ⟨l, a, ts, rfl, hW, hS, ht, k⟩ := h
    have h1 := hW.pos
    have h2 := hW.le
    have hz : (txt l).length ≤ sizeLine := by rw [txt_length]; exact Nat.le_of_lt (small1000 (by omega))
    refine ⟨_, (@pss_cons _ _ _ _ _ (@ps_set _ _ 2 _ _ _ _ scPTd.nd rfl lPTd_2 (@pe_lst _ _ _ _ (@pa_nil _)) (by rfl) (by first | exact .inl rfl | exact .inr rfl | assumption)) (@pss_cons _ _ _ _ _ (@ps_set _ _ 3 _ _ _ _ scPTd.nd rfl lPTd_3 (@pe_int _ _ _ _) (by rfl) (by first | exact .inl rfl | exact .inr rfl | assumption)) (@pss_cons _ _ _ _ _ (@ps_for _ _ _ _ _ _ _ _ PassesOwn.never rfl (@pi_list _ _ _ _ (@pv _ 1 _ _ (by rfl) vPTd_1 (by decide) (by decide))) (@pg_name _ _ 4 _ scPTd.nd rfl lPTd_4 (by first | exact .inl rfl | exact .inr rfl | assumption)) (@pss_cons _ _ _ _ _ (@ps_set _ _ 3 _ _ _ _ scPTd.nd rfl lPTd_3 (@pe_op _ _ _ _ _ _ _ _ op_mod (@pe_op _ _ _ _ _ _ _ _ op_add (@pv _ 3 _ _ (by rfl) vPTd_3 (by decide) (by decide)) (@pv _ 4 _ _ (by rfl) vPTd_4 (by decide) (by decide))) (@pe_callB _ _ _ _ _ _ _ _ _ call_len_str (by rfl) T.len PySem.boot_len (@pa_cN _ _ _ _ _ _ (@pv _ 0 _ _ (by rfl) vPTd_0 (by decide) (by decide)) (@pa_nil _)) (by decide) (by decide) (by rfl) (by rfl))) (by rfl) (by first | exact .inl rfl | exact .inr rfl | assumption)) (@pss_one _ _ _ (@ps_expr _ _ _ _ (@pe_bm _ _ _ _ _ _ _ _ _ _ _ _ PySem.F.plainAttrs_list PySem.F.slot_list_append PySem.F.type_list_append mt_append (@pv _ 2 _ _ (by rfl) vPTd_2 (by decide) (by decide)) (@pa_cN _ _ _ _ _ _ (@pv _ 3 _ _ (by rfl) vPTd_3 (by decide) (by decide)) (@pa_nil _)) (by rfl) (by rfl) (by rfl) (by rfl) (by rfl)) (by rfl)))) (by intro _ ; rfl)) (@pss_one _ _ _ (@ps_ret _ _ _ _ (@pv _ 2 _ _ (by rfl) vPTd_2 (by decide) (by decide))))))), ?_⟩
    refine ⟨(by show 0 ≤ sizeLine; decide), fun PL hPL => ?_⟩
    refine ⟨_, rfl, a, rfl, ⟨_, (Same.new hPL).seq hS⟩, for_list (xs := ts.map V.int) (fun i σ H2 => ∃ (o4 : Option V), σ = [some (.str (txt l)), some (.ref a), some (.ref PL), some (.int (pls (l.length : Int) (ts.take i))), o4] ∧ Same H H2 ∧ H2 PL = some (.lst ((ptl (l.length : Int) (ts.take i)).map V.int))) ?_ ?_ ?_ ?_⟩
    · exact ⟨none, rfl, Same.new hPL, upd_same⟩
    · rintro i σ H2 _ ⟨_, rfl, s2, _⟩
      exact s2.seq hS
    · rintro i v σ H2 hv ⟨o4, rfl, s2, hP2⟩
      rw [List.getElem?_map] at hv
      cases et : ts[i]? with
      | none => rw [et] at hv; cases hv
      | some t =>
      rw [et] at hv
      cases hv
      refine ⟨_, rfl, _, rfl, _, _, rfl, rfl, _, rfl, _, rfl, hz, _, _, rfl, rfl, (by rw [txt_length]; show (0 : Int) < _; omega), ?_⟩
      rw [txt_length]
      show gName 3 (V.int ((pls (l.length : Int) (ts.take i) + t) % ((l.length : Nat) : Int))) _ _ _
      rw [← pls_take et]
      refine ⟨_, rfl, .inl ⟨rfl, _, SqL.of hP2⟩, _, rfl, PL, _, _, rfl, rfl, hP2, ?_, ?_⟩
      · rw [List.length_map, ptl_len, List.length_take]; exact small1000 (by omega)
      refine ⟨_, rfl, s2.upd' hPL, ?_⟩
      rw [upd_same, ptl_take et, List.map_append]
      rfl
    · rintro σ H2 ⟨o4, rfl, s2, hP2⟩
      rw [List.length_map, List.take_of_length_le (Nat.le_refl _)] at hP2
      exact ⟨_, rfl, k PL H2 s2 hPL hP2⟩
def spWOn : Sp := fun vs H Q _ => ∃ (l : List Nat) (p off : Int) (c : Nat), vs = [.str (txt l), .int p, .int off, .str (txt [c])] ∧ Wheel l ∧ ∀ D qs H', Same H H' → H D = none → PrAt H' D (wys l p off c) qs → Q (.ref D) H'
theorem cal_won (D : Def K mg "ways_on" sWOn psWOn) (T : Txt mg) : Cal P w K mg base CX0 1 "ways_on" psWOn spWOn := cal_mk D fun f fd F => by
  refine F.ok scWOn (fun vs H Q E h => ?_) (fun cdv A outer s H vs Q E hr h => ?_)
  · obtain ⟨l, p, off, c, rfl, _⟩ := h
    rfl
  · obtain ⟨l, p, off, c, rfl, hW, k⟩ := h
    have h1 := hW.pos
    have h2 := hW.le
    have hz : (txt l).length ≤ sizeLine := by rw [txt_length]; exact Nat.le_of_lt (small1000 (by omega))
    refine ⟨_, (@pss_cons _ _ _ _ _ (@ps_set _ _ 4 _ _ _ _ scWOn.nd rfl lWOn_4 (@pe_callB _ _ _ _ _ _ _ _ _ call_len_str (by rfl) T.len PySem.boot_len (@pa_cN _ _ _ _ _ _ (@pv _ 0 _ _ (by rfl) vWOn_0 (by decide) (by decide)) (@pa_nil _)) (by decide) (by decide) (by rfl) (by rfl)) (by rfl) (by first | exact .inl rfl | exact .inr rfl | assumption)) (@pss_one _ _ _ (@ps_ret _ _ _ _ (@pe_lc _ _ _ _ _ _ [("by", 5)] _ _ (gName 5) _ _ (by rfl) scWOn.nd (@pi_range1 _ _ _ _ _ _ (by rfl) T.range (@pa_cN _ _ _ _ _ _ (@pv _ 4 _ _ (by rfl) vWOn_4 (by decide) (by decide)) (@pa_nil _)) (by rfl)) (blkOk_by (own := [("by", 5)]) (N := ["wheel", "place", "off", "sign", "count", "by"]) (sc := defScope sWOn) (by decide +kernel)) (fun _ _ _ _ _ => (@pg_name _ _ 5 _ scWOn.nd rfl (Or.inl rfl) (by first | exact .inl rfl | exact .inr rfl | assumption))) (fun _ _ _ _ _ => (@pts_one _ _ _ (@pt_cmpR _ _ _ _ _ _ _ _ op_eq (@pe_ix _ _ _ _ _ _ _ ix_str (@pv _ 0 _ _ (by rfl) (by first | exact Or.inl rfl | exact Or.inr (Or.inl rfl) | exact Or.inr (Or.inr rfl)) (by decide) (by decide)) (@pe_op _ _ _ _ _ _ _ _ op_mod (@pe_op _ _ _ _ _ _ _ _ op_add (@pe_op _ _ _ _ _ _ _ _ op_add (@pv _ 1 _ _ (by rfl) (by first | exact Or.inl rfl | exact Or.inr (Or.inl rfl) | exact Or.inr (Or.inr rfl)) (by decide) (by decide)) (@pv _ 2 _ _ (by rfl) (by first | exact Or.inl rfl | exact Or.inr (Or.inl rfl) | exact Or.inr (Or.inr rfl)) (by decide) (by decide))) (@pv _ 5 _ _ (by rfl) (by first | exact Or.inl rfl | exact Or.inr (Or.inl rfl) | exact Or.inr (Or.inr rfl)) (by decide) (by decide))) (@pv _ 4 _ _ (by rfl) (by first | exact Or.inl rfl | exact Or.inr (Or.inl rfl) | exact Or.inr (Or.inr rfl)) (by decide) (by decide))) (fun _ _ => rfl)) (@pv _ 3 _ _ (by rfl) (by first | exact Or.inl rfl | exact Or.inr (Or.inl rfl) | exact Or.inr (Or.inr rfl)) (by decide) (by decide)) (nomark _)))) (fun _ _ _ _ _ => (@pe_tup _ _ _ _ _ (@pa_cN _ _ _ _ _ _ (@pv _ 5 _ _ (by rfl) (by first | exact Or.inl rfl | exact Or.inr (Or.inl rfl) | exact Or.inr (Or.inr rfl)) (by decide) (by decide)) (@pa_cB _ _ _ _ _ _ _ _ (@pe_op _ _ _ _ _ _ _ _ op_mod (@pe_op _ _ _ _ _ _ _ _ op_add (@pv _ 2 _ _ (by rfl) (by first | exact Or.inl rfl | exact Or.inr (Or.inl rfl) | exact Or.inr (Or.inr rfl)) (by decide) (by decide)) (@pv _ 5 _ _ (by rfl) (by first | exact Or.inl rfl | exact Or.inr (Or.inl rfl) | exact Or.inr (Or.inr rfl)) (by decide) (by decide))) (@pv _ 4 _ _ (by rfl) (by first | exact Or.inl rfl | exact Or.inr (Or.inl rfl) | exact Or.inr (Or.inr rfl)) (by decide) (by decide))) (@pa_nil _))))) (by intro _ ; rfl))))), ?_⟩
    refine ⟨_, rfl, _, rfl, hz, ?_⟩
    rw [txt_length]
    refine ⟨_, rfl, _, rfl, by omega, by omega, fun D0 hD0 => ?_⟩
    refine lc_rangeR (lo := 0) (n := ((l.length : Nat) : Int).toNat) (fun b => decide (l.getD ((p + off + (b : Int)) % (l.length : Int)).toNat 0 = c)) (fun b y H => ∃ q, y = V.ref q ∧ Tr2 H q ((b : Int), (off + (b : Int)) % (l.length : Int))) (fun b y H H' r s => r.imp fun q h => ⟨h.1, h.2.same s⟩) hD0 (small1000 (by omega)) ?_ ?_
    · intro b H3 hb hDl s3 Qy Qn ky kn
      refine ⟨rfl, ?_⟩
      rw [Int.zero_add]
      have g0 := Int.emod_nonneg (p + off + (b : Int)) (show (l.length : Int) ≠ 0 by omega)
      have g1 := Int.emod_lt_of_pos (p + off + (b : Int)) (show (0 : Int) < (l.length : Int) by omega)
      refine ⟨_, rfl, _, rfl, _, rfl, _, _, rfl, rfl, _, rfl, _, _, rfl, rfl, _, rfl, _, _, rfl, rfl, (by show (0 : Int) < _; omega), ?_⟩
      refine ⟨_, _, _, rfl, rfl, hz, at_getD (l := l) g0 g1, ?_⟩
      refine ⟨_, rfl, rfl, _, rfl, ?_⟩
      rw [show (decide (V.str ⟨#[l.getD ((p + off + (b : Int)) % (l.length : Int)).toNat 0]⟩ = V.str (txt [c]))) = decide (l.getD ((p + off + (b : Int)) % (l.length : Int)).toNat 0 = c) from eq_sgn _ _]
      cases e : decide (l.getD ((p + off + (b : Int)) % (l.length : Int)).toNat 0 = c) with
      | true =>
        rw [e] at ky
        refine iteT ?_
        refine ⟨_, rfl, _, rfl, _, rfl, _, _, rfl, rfl, _, rfl, _, _, rfl, rfl, (by show (0 : Int) < _; omega), (by show 2 ≤ sizeLine; decide), fun q hq => ?_⟩
        obtain ⟨ll, hll⟩ := hDl
        have hqD : q ≠ D0 := (ne_of_none hll hq).symm
        refine ky rfl _ _ (Same.new hq) ⟨q, rfl, ?_⟩
        show del _ D0 q = _
        rw [del_ne hqD, upd_same]
      | false =>
        rw [e] at kn
        exact iteF (kn rfl _ (Same.refl _))
    intro H3 ys s3 hD3 hys
    obtain ⟨qs, rfl, hq⟩ := refs_of (R := Tr2 H3) (f := fun b : Nat => ((b : Int), (off + (b : Int)) % (l.length : Int))) hys
    exact k D0 qs H3 s3 hD0 ⟨hD3, hq⟩
def spSFo : Sp := fun vs H Q _ => ∃ b : Int, vs = [.int b] ∧ ∀ H', Same H H' → Q (.int (sfo b)) H'
theorem cal_sfo (D : Def K mg "slips_for" sSFo psSFo) (T : Txt mg) : Cal P w K mg base CX0 1 "slips_for" psSFo spSFo := cal_mk D fun f fd F => by
  refine F.ok scSFo (fun vs H Q E h => ?_) (fun cdv A outer s H vs Q E hr h => ?_)
  · obtain ⟨b, rfl, _⟩ := h
    rfl
  · obtain ⟨b, rfl, k⟩ := h
    refine ⟨_, (@pss_one _ _ _ (@ps_ret _ _ _ _ (@pe_ifExp _ _ _ _ _ _ _ _ (@pt_cmpR _ _ _ _ _ _ _ _ op_gt (@pv _ 0 _ _ (by rfl) vSFo_0 (by decide) (by decide)) (@pe_int _ _ _ _) (nomark _)) (@pe_int _ _ _ _) (@pe_int _ _ _ _)))), ?_⟩
    unfold sfo at k
    refine ⟨_, rfl, _, _, rfl, rfl, _, rfl, ?_⟩
    by_cases e : b > 0
    · rw [if_pos e] at k
      rw [decide_eq_true (show 0 < b from e)]
      refine iteT ?_
      exact k H (Same.refl H)
    · rw [if_neg e] at k
      rw [decide_eq_false (show ¬ 0 < b from e)]
      refine iteF ?_
      exact k H (Same.refl H)
end
end W

set_option Elab.async false
set_option linter.all false
set_option maxRecDepth 100000
set_option maxHeartbeats 4000000
namespace W
open PySem L2 WM
abbrev sBest : Stmt := top 28
abbrev psBest : List Str := ["found"]
theorem scBest : FnScope ["found", "total", "plans", "least"] ["found"] (defScope sBest) := ⟨rfl, rfl, rfl, by decide +kernel, rfl, by decide +kernel, by decide +kernel⟩
theorem lBest_0 : Loc (defScope sBest) "found" := Or.inl (by decide +kernel)
theorem vBest_0 : Vis (defScope sBest) "found" := Or.inl (by decide +kernel)
theorem lBest_3 : Loc (defScope sBest) "least" := Or.inr (by decide +kernel)
theorem vBest_3 : Vis (defScope sBest) "least" := Or.inr (Or.inl (by decide +kernel))
section
variable {P : Program} {w : World} {K : PySem.W.Frag} {mg : Str → Option Value} {base : Heap}
def spBest : Sp := fun vs H Q _ => ∃ (a : Addr) (qs : List Addr) (xs : List (Int × Int)), vs = [.ref a] ∧ H a = some (.lst (qs.map V.ref)) ∧ All2 (Tr2 H) qs xs ∧ 0 < xs.length ∧ xs.length ≤ 1000 ∧
  ∀ (k c : Int) q H', Same H H' → H q = none → k ∈ xs.map (·.1) → (∀ y ∈ xs.map (·.1), k ≤ y) → c = ((xs.filter fun x => decide (x.1 = k)).map (·.2)).sum → Tr2 H' q (k, c) → Q (.ref q) H'
theorem cal_best (D : Def K mg "best_of" sBest psBest) (T : Txt mg) : Cal P w K mg base CX0 1 "best_of" psBest spBest := cal_mk D fun f fd F => by
  refine F.ok scBest (fun vs H Q E h => ?_) (fun cdv A outer s H vs Q E hr h => ?_)
  · obtain ⟨a, qs, xs, rfl, _⟩ := h
    rfl
  · obtain ⟨a, qs, xs, rfl, ha, hqx, h0, h1000, k⟩ := h
    have hlen := hqx.length
    have hz := zip_facts hqx
    refine ⟨_, (@pss_cons _ _ _ _ _ (@ps_set _ _ 3 _ _ _ _ scBest.nd rfl lBest_3 (@pe_callB _ _ _ _ _ _ _ _ _ (cr_min rfl) (by rfl) T.min (by decide +kernel) (@pa_cG _ _ _ _ _ _ _ _ (@pe_lc _ _ _ _ _ _ [("total", 1), ("plans", 2)] _ _ (gTup K 2 (gCons (gName 1) (gCons (gName 2) gNil))) _ _ (by rfl) scBest.nd (@pi_list _ _ _ _ (@pv _ 0 _ _ (by rfl) vBest_0 (by decide) (by decide))) (blkOk_by (own := [("total", 1), ("plans", 2)]) (N := ["found", "total", "plans", "least"]) (sc := defScope sBest) (by decide +kernel)) (fun _ _ _ _ _ => (@pg_tup _ _ _ _ _ _ rfl (@pgs_cons _ _ _ _ _ (@pg_name _ _ 1 _ scBest.nd rfl (Or.inl rfl) (by first | exact .inl rfl | exact .inr rfl | assumption)) (@pgs_cons _ _ _ _ _ (@pg_name _ _ 2 _ scBest.nd rfl (Or.inl rfl) (by first | exact .inl rfl | exact .inr rfl | assumption)) (@pgs_nil _) (by rfl)) (by rfl)) (by rfl) (by rfl))) (fun _ _ _ _ _ => (@pts_nil _)) (fun _ _ _ _ _ => (@pv _ 1 _ _ (by rfl) (by first | exact Or.inl rfl | exact Or.inr (Or.inl rfl) | exact Or.inr (Or.inr rfl)) (by decide) (by decide))) (by intro _ ; rfl)) (@pa_nil _)) (by decide) (by decide) (by rfl) (by rfl)) (by rfl) (by first | exact .inl rfl | exact .inr rfl | assumption)) (@pss_one _ _ _ (@ps_ret _ _ _ _ (@pe_tup _ _ _ _ _ (@pa_cN _ _ _ _ _ _ (@pv _ 3 _ _ (by rfl) vBest_3 (by decide) (by decide)) (@pa_cK _ _ _ _ _ _ _ _ (@pe_callB _ _ _ _ _ _ _ _ _ (cr_sum rfl) (by rfl) T.sum (by decide +kernel) (@pa_cG _ _ _ _ _ _ _ _ (@pe_lc _ _ _ _ _ _ [("total", 1), ("plans", 2)] _ _ (gTup K 2 (gCons (gName 1) (gCons (gName 2) gNil))) _ _ (by rfl) scBest.nd (@pi_list _ _ _ _ (@pv _ 0 _ _ (by rfl) vBest_0 (by decide) (by decide))) (blkOk_by (own := [("total", 1), ("plans", 2)]) (N := ["found", "total", "plans", "least"]) (sc := defScope sBest) (by decide +kernel)) (fun _ _ _ _ _ => (@pg_tup _ _ _ _ _ _ rfl (@pgs_cons _ _ _ _ _ (@pg_name _ _ 1 _ scBest.nd rfl (Or.inl rfl) (by first | exact .inl rfl | exact .inr rfl | assumption)) (@pgs_cons _ _ _ _ _ (@pg_name _ _ 2 _ scBest.nd rfl (Or.inl rfl) (by first | exact .inl rfl | exact .inr rfl | assumption)) (@pgs_nil _) (by rfl)) (by rfl)) (by rfl) (by rfl))) (fun _ _ _ _ _ => (@pts_one _ _ _ (@pt_cmpR _ _ _ _ _ _ _ _ op_eq (@pv _ 1 _ _ (by rfl) (by first | exact Or.inl rfl | exact Or.inr (Or.inl rfl) | exact Or.inr (Or.inr rfl)) (by decide) (by decide)) (@pv _ 3 _ _ (by rfl) (by first | exact Or.inl rfl | exact Or.inr (Or.inl rfl) | exact Or.inr (Or.inr rfl)) (by decide) (by decide)) (nomark _)))) (fun _ _ _ _ _ => (@pv _ 2 _ _ (by rfl) (by first | exact Or.inl rfl | exact Or.inr (Or.inl rfl) | exact Or.inr (Or.inr rfl)) (by decide) (by decide))) (by intro _ ; rfl)) (@pa_nil _)) (by decide) (by decide) (by rfl) (by rfl)) (@pa_nil _))))))), ?_⟩
    refine ⟨_, rfl, a, rfl, ⟨_, SqL.of ha⟩, fun D hD => ?_⟩
    refine lc_listP (as := qs.zip xs) (vf := fun y => V.ref y.1) (fun _ => true) (fun y => V.int y.2.1) (by rw [zip_refs hlen]; exact SqL.of ha) hD (by rw [List.length_zip]; exact small1000 (by omega)) ?_ ?_
    · intro y H2 hy s2 Qy Qn ky kn
      refine ⟨y.1, _, rfl, SqT.of (s2 _ _ (hz y hy)), rfl, _, _, rfl, _, _, rfl, rfl, rfl, ?_⟩
      dsimp only [tYes]
      exact iteT ⟨_, rfl, ky rfl _ (Same.refl _)⟩
    intro H2 s2 hD2
    rw [List.filter_eq_self.mpr (fun _ _ => rfl), zip_snd_map hlen (fun x : Int × Int => V.int x.1)] at hD2
    refine ⟨D, xs.map (·.1), rfl, (by rw [List.map_map]; exact SqL.of hD2), by rw [List.length_map]; exact h0, fun kk hk1 hk2 => ?_⟩
    refine ⟨_, rfl, _, rfl, a, rfl, ⟨_, SqL.of (s2 _ _ ha)⟩, fun D2 hD2' => ?_⟩
    refine lc_listP (as := qs.zip xs) (vf := fun y => V.ref y.1) (fun y => decide (y.2.1 = kk)) (fun y => V.int y.2.2) (by rw [zip_refs hlen]; exact SqL.of (s2 _ _ ha)) hD2' (by rw [List.length_zip]; exact small1000 (by omega)) ?_ ?_
    · intro y H3 hy s3 Qy Qn ky kn
      refine ⟨y.1, _, rfl, SqT.of (s3 _ _ (s2 _ _ (hz y hy))), rfl, _, _, rfl, _, _, rfl, rfl, rfl, ?_⟩
      refine ⟨_, rfl, _, rfl, rfl, _, rfl, ?_⟩
      rw [show decide (V.int y.2.1 = V.int kk) = decide (y.2.1 = kk) from decide_eq_decide.mpr ⟨V.int.inj, congrArg V.int⟩]
      cases e : decide (y.2.1 = kk) with
      | true =>
        rw [e] at ky
        exact iteT ⟨_, rfl, ky rfl _ (Same.refl _)⟩
      | false =>
        rw [e] at kn
        exact iteF (kn rfl _ (Same.refl _))
    intro H3 s3 hD3
    have e3 := zip_filter_map hlen (fun x : Int × Int => decide (x.1 = kk)) (fun x : Int × Int => V.int x.2)
    rw [e3] at hD3
    refine ⟨D2, (xs.filter fun x => decide (x.1 = kk)).map (·.2), rfl, (by rw [List.map_map]; exact SqL.of hD3), (by show 2 ≤ sizeLine; decide), fun q hq => ?_⟩
    exact k kk _ q _ ((s2.trans s3).trans (Same.new hq)) (s2.free (s3.free hq)) hk1 hk2 rfl upd_same
end
end W

set_option Elab.async false
set_option linter.all false
set_option maxRecDepth 100000
set_option maxHeartbeats 4000000
namespace W
open PySem L2 WM

abbrev sSNe : Stmt := top 37
abbrev psSNe : List Str := ["ways", "behind"]
theorem scSNe : FnScope ["ways", "behind", "found", "by", "off", "rest", "lists"] ["ways", "behind"] (defScope sSNe) := ⟨rfl, rfl, rfl, by decide +kernel, rfl, by decide +kernel, by decide +kernel⟩
theorem lSNe_0 : Loc (defScope sSNe) "ways" := Or.inl (by decide +kernel)
theorem vSNe_0 : Vis (defScope sSNe) "ways" := Or.inl (by decide +kernel)
theorem lSNe_1 : Loc (defScope sSNe) "behind" := Or.inl (by decide +kernel)
theorem vSNe_1 : Vis (defScope sSNe) "behind" := Or.inl (by decide +kernel)
theorem lSNe_2 : Loc (defScope sSNe) "found" := Or.inl (by decide +kernel)
theorem vSNe_2 : Vis (defScope sSNe) "found" := Or.inl (by decide +kernel)
theorem lSNe_3 : Loc (defScope sSNe) "by" := Or.inl (by decide +kernel)
theorem vSNe_3 : Vis (defScope sSNe) "by" := Or.inl (by decide +kernel)
theorem lSNe_4 : Loc (defScope sSNe) "off" := Or.inl (by decide +kernel)
theorem vSNe_4 : Vis (defScope sSNe) "off" := Or.inl (by decide +kernel)
theorem lSNe_5 : Loc (defScope sSNe) "rest" := Or.inl (by decide +kernel)
theorem vSNe_5 : Vis (defScope sSNe) "rest" := Or.inl (by decide +kernel)
theorem lSNe_6 : Loc (defScope sSNe) "lists" := Or.inl (by decide +kernel)
theorem vSNe_6 : Vis (defScope sSNe) "lists" := Or.inl (by decide +kernel)
section
variable {P : Program} {w : World} {K : PySem.W.Frag} {mg : Str → Option Value} {base : Heap}
def sneG (xs : List (Int × Int)) (m : Int × Int) : Int × Int := (sfo m.1 + (xs.getD m.2.toNat (0, 0)).1, (xs.getD m.2.toNat (0, 0)).2)
theorem PrAt.get {H : Hp} {b : Addr} {xs : List (Int × Int)} {rb : List Addr} (h : PrAt H b xs rb) {z : Int} (h0 : 0 ≤ z) (h1 : z < (xs.length : Int)) : ∃ q, atI (rb.map V.ref) z = some (.ref q) ∧ Tr2 H q (xs.getD z.toNat (0, 0)) := by
  obtain ⟨n, rfl⟩ : ∃ n : Nat, z = (n : Int) := ⟨z.toNat, by omega⟩
  have hn : n < xs.length := by omega
  have hl := h.2.length
  obtain ⟨q, hq⟩ : ∃ q, rb[n]? = some q := ⟨_, List.getElem?_eq_getElem (by omega)⟩
  obtain ⟨x, hx, t⟩ := h.2.get hq
  refine ⟨q, atI_nat (by rw [List.getElem?_map, hq]; rfl), ?_⟩
  rw [Int.toNat_natCast, List.getD_eq_getElem?_getD, hx]
  exact t
def spSNe : Sp := fun vs H Q _ => ∃ (a b : Addr) (pl xs : List (Int × Int)) (qs rb : List Addr), vs = [.ref a, .ref b] ∧ PrAt H a pl qs ∧ PrAt H b xs rb ∧ pl ≠ [] ∧ pl.length ≤ 100 ∧ (∀ m ∈ pl, 0 ≤ m.2 ∧ m.2 < (xs.length : Int)) ∧
  ∀ q H', Same H H' → H q = none → Tr2 H' q (bst (pl.map (sneG xs))) → Q (.ref q) H'
theorem cal_sne (D : Def K mg "slip_need" sSNe psSNe) (T : Txt mg) (CSf : Cal P w K mg base CX0 1 "slips_for" ["by"] spSFo) (CBe : Cal P w K mg base CX0 1 "best_of" ["found"] spBest) : Cal P w K mg base CX0 2 "slip_need" psSNe spSNe := cal_mk D fun f fd F => by
  obtain ⟨fSf, dSf, GSf, kSf, bSf, mSf⟩ := CSf
  obtain ⟨fBe, dBe, GBe, kBe, bBe, mBe⟩ := CBe
  refine F.ok scSNe (fun vs H Q E h => ?_) (fun cdv A outer s H vs Q E hr h => ?_)
  · obtain ⟨a, b, pl, xs, qs, rb, rfl, _⟩ := h
    rfl
  · obtain ⟨a, b, pl, xs, qs, rb, rfl, hA, hB, hne, hml, hoff, k⟩ := h
    have hu := hu_of hr
    refine ⟨_, (@pss_cons _ _ _ _ _ (@ps_set _ _ 2 _ _ _ _ scSNe.nd rfl lSNe_2 (@pe_lst _ _ _ _ (@pa_nil _)) (by rfl) (by first | exact .inl rfl | exact .inr rfl | assumption)) (@pss_cons _ _ _ _ _ (@ps_for _ _ _ _ _ _ _ _ PassesOwn.never rfl (@pi_list _ _ _ _ (@pv _ 0 _ _ (by rfl) vSNe_0 (by decide) (by decide))) (@pg_tup _ _ _ _ _ _ rfl (@pgs_cons _ _ _ _ _ (@pg_name _ _ 3 _ scSNe.nd rfl lSNe_3 (by first | exact .inl rfl | exact .inr rfl | assumption)) (@pgs_cons _ _ _ _ _ (@pg_name _ _ 4 _ scSNe.nd rfl lSNe_4 (by first | exact .inl rfl | exact .inr rfl | assumption)) (@pgs_nil _) (by rfl)) (by rfl)) (by rfl) (by rfl)) (@pss_cons _ _ _ _ _ (@ps_asg _ _ _ _ _ _ (@pe_ix _ _ _ _ _ _ _ ix_list (@pv _ 1 _ _ (by rfl) vSNe_1 (by decide) (by decide)) (@pv _ 4 _ _ (by rfl) vSNe_4 (by decide) (by decide)) (fun _ _ => rfl)) (@pg_tup _ _ _ _ _ _ rfl (@pgs_cons _ _ _ _ _ (@pg_name _ _ 5 _ scSNe.nd rfl lSNe_5 (by first | exact .inl rfl | exact .inr rfl | assumption)) (@pgs_cons _ _ _ _ _ (@pg_name _ _ 6 _ scSNe.nd rfl lSNe_6 (by first | exact .inl rfl | exact .inr rfl | assumption)) (@pgs_nil _) (by rfl)) (by rfl)) (by rfl) (by rfl)) (by rfl) (by rfl) (by rfl)) (@pss_one _ _ _ (@ps_expr _ _ _ _ (@pe_bm _ _ _ _ _ _ _ _ _ _ _ _ PySem.F.plainAttrs_list PySem.F.slot_list_append PySem.F.type_list_append mt_append (@pv _ 2 _ _ (by rfl) vSNe_2 (by decide) (by decide)) (@pa_cT _ _ _ _ _ _ _ (@pe_tup _ _ _ _ _ (@pa_cB _ _ _ _ _ _ _ _ (@pe_op _ _ _ _ _ _ _ _ op_add (@pe_call _ _ _ _ _ _ _ _ _ _ _ _ _ _ _ _ GSf (hr.mono (by decide)) (by rfl) mSf kSf bSf .nil pass0 (@pa_cN _ _ _ _ _ _ (@pv _ 3 _ _ (by rfl) vSNe_3 (by decide) (by decide)) (@pa_nil _)) (by decide) (by rfl) (by rfl)) (@pv _ 5 _ _ (by rfl) vSNe_5 (by decide) (by decide))) (@pa_cN _ _ _ _ _ _ (@pv _ 6 _ _ (by rfl) vSNe_6 (by decide) (by decide)) (@pa_nil _)))) (@pa_nil _)) (by rfl) (by rfl) (by rfl) (by rfl) (by rfl)) (by rfl)))) (by intro _ ; rfl)) (@pss_one _ _ _ (@ps_ret _ _ _ _ (@pe_call _ _ _ _ _ _ _ _ _ _ _ _ _ _ _ _ GBe (hr.mono (by decide)) (by rfl) mBe kBe bBe .nil pass0 (@pa_cN _ _ _ _ _ _ (@pv _ 2 _ _ (by rfl) vSNe_2 (by decide) (by decide)) (@pa_nil _)) (by decide) (by rfl) (by rfl)))))), ?_⟩
    refine ⟨(by show 0 ≤ sizeLine; decide), fun F0 hF0 => ?_⟩
    have s0 := Same.new (o := .lst []) hF0
    refine ⟨_, rfl, a, rfl, ⟨_, SqL.of (s0 _ _ hA.1)⟩, for_list (xs := qs.map V.ref) (fun i σ H2 => ∃ (o3 o4 o5 o6 : Option V) (fs : List Addr), σ = [some (.ref a), some (.ref b), some (.ref F0), o3, o4, o5, o6] ∧ Same H H2 ∧ H2 F0 = some (.lst (fs.map V.ref)) ∧ All2 (Tr2 H2) fs ((pl.take i).map (sneG xs))) ?_ ?_ ?_ ?_⟩
    · exact ⟨_, _, _, _, [], rfl, s0, upd_same, .nil⟩
    · rintro i σ H2 _ ⟨o3, o4, o5, o6, fs, rfl, s2, _⟩
      exact SqL.of (s2 _ _ hA.1)
    · rintro i v σ H2 hv ⟨o3, o4, o5, o6, fs, rfl, s2, hF2, hfs⟩
      rw [List.getElem?_map] at hv
      cases er : qs[i]? with
      | none => rw [er] at hv; cases hv
      | some q =>
      rw [er] at hv
      cases hv
      obtain ⟨m, hm, hq⟩ := hA.2.get er
      have hil := (List.getElem?_eq_some_iff.mp hm).1
      obtain ⟨hm0, hm1⟩ := hoff m (List.mem_of_getElem? hm)
      have hB2 := hB.same s2
      obtain ⟨q', hat, hq'⟩ := hB2.get hm0 hm1
      refine ⟨q, _, rfl, SqT.of (s2 _ _ hq), rfl, _, _, rfl, _, _, rfl, rfl, ?_⟩
      refine ⟨_, rfl, _, rfl, b, _, _, _, rfl, rfl, SqL.of hB2.1, hat, q', _, rfl, SqT.of hq', rfl, _, _, rfl, _, _, rfl, rfl, ?_⟩
      refine ⟨_, rfl, .inl ⟨rfl, _, SqL.of hF2⟩, _, rfl, m.1, rfl, fun H3 s3 => ?_⟩
      refine ⟨_, rfl, _, _, rfl, rfl, _, rfl, (by show 2 ≤ sizeLine; decide), fun p hp => ?_⟩
      have sp := s3.trans (Same.new (o := .tup [.int (sfo m.1 + (xs.getD m.2.toNat (0, 0)).1), .int (xs.getD m.2.toNat (0, 0)).2]) hp)
      have hF3 := sp _ _ hF2
      have hfl : fs.length = i := by rw [hfs.length, List.length_map, List.length_take]; omega
      refine ⟨F0, _, _, rfl, rfl, hF3, by rw [List.length_map, hfl]; exact small1000 (by omega), ?_⟩
      refine ⟨_, _, _, _, fs ++ [p], rfl, (s2.trans sp).upd' hF0, by rw [upd_same, List.map_append]; rfl, ?_⟩
      rw [List.take_add_one, hm, List.map_append]
      exact All2.snoc (hfs.imp fun x y _ r => (r.same sp).updL hF3) (Tr2.updL (show Tr2 _ p (sneG xs m) from upd_same) hF3)
    · rintro σ H2 ⟨o3, o4, o5, o6, fs, rfl, s2, hF2, hfs⟩
      rw [List.length_map, hA.2.length, List.take_length] at hfs
      refine ⟨_, rfl, F0, fs, _, rfl, hF2, hfs, by rw [List.length_map]; exact List.length_pos_iff.mpr hne, by rw [List.length_map]; omega, fun kk cc q H' s' hq hk1 hk2 hc ht => k q H' (s2.trans s') (s2.free hq) ?_⟩
      rw [← bst_uniq hk1 hk2 hc]
      exact ht
end
end W

set_option Elab.async false
set_option linter.all false
set_option maxRecDepth 100000
set_option maxHeartbeats 4000000
namespace W
open PySem L2 WM

abbrev sFWy : Stmt := top 39
abbrev psFWy : List Str := ["ways", "fewest", "behind"]
theorem scFWy : FnScope ["ways", "fewest", "behind", "by", "off", "fitting", "slipping"] ["ways", "fewest", "behind"] (defScope sFWy) := ⟨rfl, rfl, rfl, by decide +kernel, rfl, by decide +kernel, by decide +kernel⟩
theorem lFWy_0 : Loc (defScope sFWy) "ways" := Or.inl (by decide +kernel)
theorem vFWy_0 : Vis (defScope sFWy) "ways" := Or.inl (by decide +kernel)
theorem lFWy_5 : Loc (defScope sFWy) "fitting" := Or.inl (by decide +kernel)
theorem vFWy_5 : Vis (defScope sFWy) "fitting" := Or.inl (by decide +kernel)
theorem lFWy_6 : Loc (defScope sFWy) "slipping" := Or.inl (by decide +kernel)
theorem vFWy_6 : Vis (defScope sFWy) "slipping" := Or.inl (by decide +kernel)
section
variable {P : Program} {w : World} {K : PySem.W.Frag} {mg : Str → Option Value} {base : Heap}
def fitW (xs : List (Int × Int)) (kk : Int) (pl : List (Int × Int)) : List (Int × Int) := pl.filter fun m => decide ((sneG xs m).1 = kk)
def fwy (xs : List (Int × Int)) (kk : Int) (pl : List (Int × Int)) : Int × Int := (((fitW xs kk pl).filter fun m => decide (0 < m.1)) ++ fitW xs kk pl).headD (0, 0)
def spFWy : Sp := fun vs H Q _ => ∃ (a b : Addr) (pl xs : List (Int × Int)) (qs rb : List Addr) (kk : Int), vs = [.ref a, .int kk, .ref b] ∧ PrAt H a pl qs ∧ PrAt H b xs rb ∧ pl.length ≤ 100 ∧ (∀ m ∈ pl, 0 ≤ m.2 ∧ m.2 < (xs.length : Int)) ∧ fitW xs kk pl ≠ [] ∧
  ∀ q H', Same H H' → Tr2 H' q (fwy xs kk pl) → Q (.ref q) H'
theorem cal_fwy (D : Def K mg "first_way" sFWy psFWy) (T : Txt mg) (CSf : Cal P w K mg base CX0 1 "slips_for" ["by"] spSFo) : Cal P w K mg base CX0 2 "first_way" psFWy spFWy := cal_mk D fun f fd F => by
  obtain ⟨fSf, dSf, GSf, kSf, bSf, mSf⟩ := CSf
  refine F.ok scFWy (fun vs H Q E h => ?_) (fun cdv A outer s H vs Q E hr h => ?_)
  · obtain ⟨a, b, pl, xs, qs, rb, kk, rfl, _⟩ := h
    rfl
  · obtain ⟨a, b, pl, xs, qs, rb, kk, rfl, hA, hB, hml, hoff, hne, k⟩ := h
    have hlen := hA.2.length
    have hz := zip_facts hA.2
    refine ⟨_, (@pss_cons _ _ _ _ _ (@ps_setLc _ 5 _ _ _ _ _ _ _ [("by", 3), ("off", 4)] _ _ _ (gTup K 2 (gCons (gName 3) (gCons (gName 4) gNil))) _ _ (by rfl) scFWy.nd rfl rfl (sw_true rfl rfl rfl (by decide +kernel)) (@pi_list _ _ _ _ (@pv _ 0 _ _ (by rfl) vFWy_0 (by decide) (by decide))) (blkOk_by (own := [("by", 3), ("off", 4)]) (N := ["ways", "fewest", "behind", "by", "off", "fitting", "slipping"]) (sc := defScope sFWy) (by decide +kernel)) (fun _ _ _ _ _ => (@pg_tup _ _ _ _ _ _ rfl (@pgs_cons _ _ _ _ _ (@pg_name _ _ 3 _ scFWy.nd rfl (Or.inl rfl) (by first | exact .inl rfl | exact .inr rfl | assumption)) (@pgs_cons _ _ _ _ _ (@pg_name _ _ 4 _ scFWy.nd rfl (Or.inl rfl) (by first | exact .inl rfl | exact .inr rfl | assumption)) (@pgs_nil _) (by rfl)) (by rfl)) (by rfl) (by rfl))) (fun _ _ _ _ _ => (@pts_one _ _ _ (@pt_cmpR _ _ _ _ _ _ _ _ op_eq (@pe_op _ _ _ _ _ _ _ _ op_add (@pe_call _ _ _ _ _ _ _ _ _ _ _ _ _ _ _ _ GSf (hr.mono (by decide)) (by rfl) mSf kSf bSf .nil pass0 (@pa_cN _ _ _ _ _ _ (@pv _ 3 _ _ (by rfl) (by first | exact Or.inl rfl | exact Or.inr (Or.inl rfl) | exact Or.inr (Or.inr rfl)) (by decide) (by decide)) (@pa_nil _)) (by decide) (by rfl) (by rfl)) (@pe_ix _ _ _ _ _ _ (rIxT K) ix_tup (@pe_ix _ _ _ _ _ _ (rIxL K) ix_list (@pv _ 2 _ _ (by rfl) (by first | exact Or.inl rfl | exact Or.inr (Or.inl rfl) | exact Or.inr (Or.inr rfl)) (by decide) (by decide)) (@pv _ 4 _ _ (by rfl) (by first | exact Or.inl rfl | exact Or.inr (Or.inl rfl) | exact Or.inr (Or.inr rfl)) (by decide) (by decide)) (fun _ _ => rfl)) (@pe_int _ _ _ _) (fun _ _ => rfl))) (@pv _ 1 _ _ (by rfl) (by first | exact Or.inl rfl | exact Or.inr (Or.inl rfl) | exact Or.inr (Or.inr rfl)) (by decide) (by decide)) (nomark _)))) (fun _ _ _ _ _ => (@pe_tup _ _ _ _ _ (@pa_cN _ _ _ _ _ _ (@pv _ 3 _ _ (by rfl) (by first | exact Or.inl rfl | exact Or.inr (Or.inl rfl) | exact Or.inr (Or.inr rfl)) (by decide) (by decide)) (@pa_cN _ _ _ _ _ _ (@pv _ 4 _ _ (by rfl) (by first | exact Or.inl rfl | exact Or.inr (Or.inl rfl) | exact Or.inr (Or.inr rfl)) (by decide) (by decide)) (@pa_nil _))))) (by intro _ ; rfl)) (@pss_cons _ _ _ _ _ (@ps_setLc _ 6 _ _ _ _ _ _ _ [("by", 3), ("off", 4)] _ _ _ (gTup K 2 (gCons (gName 3) (gCons (gName 4) gNil))) _ _ (by rfl) scFWy.nd rfl rfl (sw_true rfl rfl rfl (by decide +kernel)) (@pi_list _ _ _ _ (@pv _ 5 _ _ (by rfl) vFWy_5 (by decide) (by decide))) (blkOk_by (own := [("by", 3), ("off", 4)]) (N := ["ways", "fewest", "behind", "by", "off", "fitting", "slipping"]) (sc := defScope sFWy) (by decide +kernel)) (fun _ _ _ _ _ => (@pg_tup _ _ _ _ _ _ rfl (@pgs_cons _ _ _ _ _ (@pg_name _ _ 3 _ scFWy.nd rfl (Or.inl rfl) (by first | exact .inl rfl | exact .inr rfl | assumption)) (@pgs_cons _ _ _ _ _ (@pg_name _ _ 4 _ scFWy.nd rfl (Or.inl rfl) (by first | exact .inl rfl | exact .inr rfl | assumption)) (@pgs_nil _) (by rfl)) (by rfl)) (by rfl) (by rfl))) (fun _ _ _ _ _ => (@pts_one _ _ _ (@pt_cmpR _ _ _ _ _ _ _ _ op_gt (@pv _ 3 _ _ (by rfl) (by first | exact Or.inl rfl | exact Or.inr (Or.inl rfl) | exact Or.inr (Or.inr rfl)) (by decide) (by decide)) (@pe_int _ _ _ _) (nomark _)))) (fun _ _ _ _ _ => (@pe_tup _ _ _ _ _ (@pa_cN _ _ _ _ _ _ (@pv _ 3 _ _ (by rfl) (by first | exact Or.inl rfl | exact Or.inr (Or.inl rfl) | exact Or.inr (Or.inr rfl)) (by decide) (by decide)) (@pa_cN _ _ _ _ _ _ (@pv _ 4 _ _ (by rfl) (by first | exact Or.inl rfl | exact Or.inr (Or.inl rfl) | exact Or.inr (Or.inr rfl)) (by decide) (by decide)) (@pa_nil _))))) (by intro _ ; rfl)) (@pss_one _ _ _ (@ps_ret _ _ _ _ (@pe_ix _ _ _ _ _ _ _ ix_list (@pe_op _ _ _ _ _ _ _ _ op_cat (@pv _ 6 _ _ (by rfl) vFWy_6 (by decide) (by decide)) (@pv _ 5 _ _ (by rfl) vFWy_5 (by decide) (by decide))) (@pe_int _ _ _ _) (fun _ _ => rfl)))))), ?_⟩
    refine ⟨_, rfl, a, rfl, ⟨_, SqL.of hA.1⟩, fun D1 hD1 => ?_⟩
    refine lc_listR (as := qs.zip pl) (vf := fun y => V.ref y.1) (fun y => decide ((sneG xs y.2).1 = kk)) (fun y v H => ∃ q, v = V.ref q ∧ Tr2 H q y.2) (fun y v H H' r s => r.imp fun q h => ⟨h.1, h.2.same s⟩) (by rw [zip_refsG hlen]; exact SqL.of hA.1) hD1 (by rw [List.length_zip]; exact small1000 (by omega)) ?_ ?_
    · intro y H2 hy hDl s2 Qy Qn ky kn
      have hym := (List.of_mem_zip hy).2
      obtain ⟨hm0, hm1⟩ := hoff y.2 hym
      have hB2 := hB.same s2
      obtain ⟨q', hat, hq'⟩ := hB2.get hm0 hm1
      refine ⟨y.1, _, rfl, SqT.of (s2 _ _ (hz y hy)), rfl, _, _, rfl, _, _, rfl, rfl, rfl, ?_⟩
      refine ⟨_, rfl, y.2.1, rfl, fun H3 s3 => ?_⟩
      have hB3 := hB2.same s3
      have s23 := s2.trans s3
      refine ⟨_, rfl, _, rfl, b, _, _, _, rfl, rfl, SqL.of hB3.1, hat, q', _, _, _, rfl, rfl, SqT.of (s3 _ _ hq'), atI_nat (j := 0) rfl, _, _, rfl, rfl, _, rfl, rfl, _, rfl, ?_⟩
      rw [show decide (V.int (sfo y.2.1 + (xs.getD y.2.2.toNat (0, 0)).1) = V.int kk) = decide ((sneG xs y.2).1 = kk) from decide_eq_decide.mpr ⟨V.int.inj, congrArg V.int⟩]
      cases e : decide ((sneG xs y.2).1 = kk) with
      | true =>
        rw [e] at ky
        refine iteT ?_
        refine ⟨_, rfl, _, rfl, (by show 2 ≤ sizeLine; decide), fun q hq => ?_⟩
        obtain ⟨ll, hll⟩ := hDl
        have hqD : q ≠ D1 := (ne_of_none (s3 _ _ hll) hq).symm
        refine ky rfl _ _ (s3.trans (Same.new hq)) ⟨q, rfl, ?_⟩
        show del _ D1 q = _
        rw [del_ne hqD, upd_same]
      | false =>
        rw [e] at kn
        exact iteF (kn rfl _ s3)
    intro H2 ys s2 hD2 ha
    obtain ⟨fq, rfl, hfq⟩ := refs_of (R := Tr2 H2) (f := fun y : Addr × (Int × Int) => y.2) ha
    rw [zip_filter_map hlen (fun m => decide ((sneG xs m).1 = kk)) (fun x => x), List.map_id'] at hfq
    change All2 (Tr2 H2) fq (fitW xs kk pl) at hfq
    have hfl : (fitW xs kk pl).length ≤ 100 := Nat.le_trans (List.length_filter_le _ _) hml
    unfold fwy at k
    generalize fitW xs kk pl = ft at hfq hfl hne k
    have hlf := hfq.length
    have hzf := zip_facts hfq
    refine ⟨_, rfl, D1, rfl, ⟨_, SqL.of hD2⟩, fun D3 hD3 => ?_⟩
    refine lc_listR (as := fq.zip ft) (vf := fun y => V.ref y.1) (fun y => decide (0 < y.2.1)) (fun y v H => ∃ q, v = V.ref q ∧ Tr2 H q y.2) (fun y v H H' r s => r.imp fun q h => ⟨h.1, h.2.same s⟩) (by rw [zip_refsG hlf]; exact SqL.of hD2) hD3 (by rw [List.length_zip]; exact small1000 (by omega)) ?_ ?_
    · intro y H4 hy hDl s4 Qy Qn ky kn
      refine ⟨y.1, _, rfl, SqT.of (s4 _ _ (hzf y hy)), rfl, _, _, rfl, _, _, rfl, rfl, rfl, ?_⟩
      refine ⟨_, rfl, _, _, rfl, rfl, _, rfl, ?_⟩
      cases e : decide (0 < y.2.1) with
      | true =>
        rw [e] at ky
        refine iteT ?_
        refine ⟨_, rfl, _, rfl, (by show 2 ≤ sizeLine; decide), fun q hq => ?_⟩
        obtain ⟨ll, hll⟩ := hDl
        have hqD : q ≠ D3 := (ne_of_none hll hq).symm
        refine ky rfl _ _ (Same.new hq) ⟨q, rfl, ?_⟩
        show del _ D3 q = _
        rw [del_ne hqD, upd_same]
      | false =>
        rw [e] at kn
        exact iteF (kn rfl _ (Same.refl _))
    intro H4 ys s4 hD4 ha
    obtain ⟨gq, rfl, hgq⟩ := refs_of (R := Tr2 H4) (f := fun y : Addr × (Int × Int) => y.2) ha
    rw [zip_filter_map hlf (fun m => decide (0 < m.1)) (fun x => x), List.map_id'] at hgq
    have hlg := hgq.length
    have hgl : (ft.filter fun m => decide (0 < m.1)).length ≤ 100 := Nat.le_trans (List.length_filter_le _ _) hfl
    refine ⟨_, rfl, _, rfl, D3, D1, _, _, rfl, rfl, hD4, s4 _ _ hD2, by rw [List.length_map, List.length_map]; exact Nat.le_of_lt (small1000 (by omega)), fun DC hDC => ?_⟩
    have hall := hgq.append (hfq.imp fun x y _ r => r.same s4)
    rw [← List.map_append]
    have hal : (ft.filter fun m => decide (0 < m.1)) ++ ft ≠ [] := fun z => hne (List.append_eq_nil_iff.mp z).2
    generalize (ft.filter fun m => decide (0 < m.1)) ++ ft = al at hall k hal
    generalize gq ++ fq = aq at hall ⊢
    obtain ⟨x0, al', rfl⟩ : ∃ x0 al', al = x0 :: al' := by
      cases al with
      | nil => exact absurd rfl hal
      | cons x0 al' => exact ⟨_, _, rfl⟩
    cases hall with
    | cons r0 _ =>
    refine ⟨DC, _, _, _, rfl, rfl, SqL.of upd_same, atI_nat (j := 0) rfl, ?_⟩
    exact k _ _ (s2.trans (s4.trans (Same.new hDC))) (r0.same (Same.new hDC))
end
end W

set_option Elab.async false
set_option linter.all false
set_option maxRecDepth 100000
set_option maxHeartbeats 4000000
namespace W
open PySem L2 WM

abbrev sSNs : Stmt := top 38
abbrev psSNs : List Str := ["wheel", "places", "word"]
theorem scSNs : FnScope ["wheel", "places", "word", "offs", "off", "rows", "place", "sign", "behind"] ["wheel", "places", "word"] (defScope sSNs) := ⟨rfl, rfl, rfl, by decide +kernel, rfl, by decide +kernel, by decide +kernel⟩
theorem lSNs_0 : Loc (defScope sSNs) "wheel" := Or.inr (by decide +kernel)
theorem vSNs_0 : Vis (defScope sSNs) "wheel" := Or.inr (Or.inl (by decide +kernel))
theorem lSNs_1 : Loc (defScope sSNs) "places" := Or.inl (by decide +kernel)
theorem vSNs_1 : Vis (defScope sSNs) "places" := Or.inl (by decide +kernel)
theorem lSNs_2 : Loc (defScope sSNs) "word" := Or.inl (by decide +kernel)
theorem vSNs_2 : Vis (defScope sSNs) "word" := Or.inl (by decide +kernel)
theorem lSNs_3 : Loc (defScope sSNs) "offs" := Or.inl (by decide +kernel)
theorem vSNs_3 : Vis (defScope sSNs) "offs" := Or.inl (by decide +kernel)
theorem lSNs_5 : Loc (defScope sSNs) "rows" := Or.inl (by decide +kernel)
theorem vSNs_5 : Vis (defScope sSNs) "rows" := Or.inl (by decide +kernel)
theorem lSNs_6 : Loc (defScope sSNs) "place" := Or.inr (by decide +kernel)
theorem lSNs_7 : Loc (defScope sSNs) "sign" := Or.inr (by decide +kernel)
theorem lSNs_8 : Loc (defScope sSNs) "behind" := Or.inr (by decide +kernel)
section
variable {P : Program} {w : World} {K : PySem.W.Frag} {mg : Str → Option Value} {base : Heap}
/-- a row: what the rest needs for each count of places off -/
def rowW (l o : List Nat) (ps : List Int) (x : Nat) : List (Int × Int) := (List.range l.length).map fun off : Nat => wyN l (o.drop x) (ps.drop x) (off : Int)
theorem rowW_len (l o : List Nat) (ps : List Int) (x : Nat) : (rowW l o ps x).length = l.length := by unfold rowW; rw [List.length_map, List.length_range]
theorem rowW_get {l o : List Nat} {ps : List Int} {x : Nat} {z : Int} (h0 : 0 ≤ z) (h1 : z < (l.length : Int)) : (rowW l o ps x).getD z.toNat (0, 0) = wyN l (o.drop x) (ps.drop x) z := by
  obtain ⟨n, rfl⟩ : ∃ n : Nat, z = (n : Int) := ⟨z.toNat, by omega⟩
  have hn : n < l.length := by omega
  unfold rowW
  rw [Int.toNat_natCast, List.getD_eq_getElem?_getD, List.getElem?_map, List.getElem?_range hn]
  rfl
theorem wys_off {l : List Nat} {p off : Int} {c : Nat} {m : Int × Int} (h : 1 ≤ l.length) (hm : m ∈ wys l p off c) : 0 ≤ m.2 ∧ m.2 < (l.length : Int) := by
  obtain ⟨b, _, _, rfl⟩ := mem_wys.mp hm
  exact ⟨Int.emod_nonneg _ (by omega), Int.emod_lt_of_pos _ (by omega)⟩
theorem wys_len (l : List Nat) (p off : Int) (c : Nat) : (wys l p off c).length ≤ l.length := by
  unfold wys
  rw [List.length_map]
  exact Nat.le_trans (List.length_filter_le _ _) (by rw [List.length_range]; exact Nat.le_refl _)
theorem wyN_step {l o : List Nat} {ps : List Int} {x : Nat} {c : Nat} {t off : Int} (h : 1 ≤ l.length) (hc : o[x]? = some c) (ht : ps[x]? = some t) : wyN l (o.drop x) (ps.drop x) off = bst ((wys l t off c).map (sneG (rowW l o ps (x + 1)))) := by
  have e1 : o.drop x = c :: o.drop (x + 1) := drop_cons hc
  have e2 : ps.drop x = t :: ps.drop (x + 1) := by
    obtain ⟨hl, e⟩ := List.getElem?_eq_some_iff.mp ht
    rw [List.drop_eq_getElem_cons hl, e]
  rw [e1, e2]
  unfold wyN
  show bst ((wyM l (t :: ps.drop (x + 1), off) c).map fun m => (wyC m.1 + (gN (wyM l) wyC (o.drop (x + 1)) m.2).1, (gN (wyM l) wyC (o.drop (x + 1)) m.2).2)) = _
  unfold wyM
  rw [List.map_map]
  congr 1
  refine List.map_congr_left fun m hm => ?_
  obtain ⟨a, b⟩ := wys_off h hm
  show (sfo m.1 + (wyN l (o.drop (x + 1)) (ps.drop (x + 1)) m.2).1, (wyN l (o.drop (x + 1)) (ps.drop (x + 1)) m.2).2) = sneG _ m
  unfold sneG
  rw [rowW_get a b]
def NedW (H : Hp) (R : Addr) (l o : List Nat) (ps : List Int) : Prop := ∃ ds : List Addr, H R = some (.lst (ds.map V.ref)) ∧ ds.length = o.length + 1 ∧ ∀ i d, ds[i]? = some d → ∃ rq, PrAt H d (rowW l o ps i) rq
theorem NedW.same {H H' : Hp} {R : Addr} {l o : List Nat} {ps : List Int} (s : Same H H') (h : NedW H R l o ps) : NedW H' R l o ps := by
  obtain ⟨ds, h1, h2, h3⟩ := h
  exact ⟨ds, s _ _ h1, h2, fun i d e => (h3 i d e).imp fun rq r => r.same s⟩
def spSNs : Sp := fun vs H Q _ => ∃ (l : List Nat) (a : Addr) (ps : List Int) (o : List Nat), vs = [.str (txt l), .ref a, .str (txt o)] ∧ Wheel l ∧ H a = some (.lst (ps.map V.int)) ∧ ps.length = o.length ∧ o.length ≤ 200 ∧ (∀ c ∈ o, c ∈ l) ∧ ∀ R H', Same H H' → H R = none → NedW H' R l o ps → Q (.ref R) H'
theorem cal_sns (D : Def K mg "slip_needs" sSNs psSNs) (T : Txt mg) (CWo : Cal P w K mg base CX0 1 "ways_on" ["wheel", "place", "off", "sign"] spWOn) (CSn : Cal P w K mg base CX0 2 "slip_need" ["ways", "behind"] spSNe) : Cal P w K mg base CX0 3 "slip_needs" psSNs spSNs := cal_mk D fun f fd F => by
  obtain ⟨fWo, dWo, GWo, kWo, bWo, mWo⟩ := CWo
  obtain ⟨fSn, dSn, GSn, kSn, bSn, mSn⟩ := CSn
  refine F.ok scSNs (fun vs H Q E h => ?_) (fun cdv A outer s H vs Q E hr h => ?_)
  · obtain ⟨l, a, ps, o, rfl, _⟩ := h
    rfl
  · obtain ⟨l, a, ps, o, rfl, hW, ha, hpl, ho, hin, k⟩ := h
    refine ⟨_, (@pss_cons _ _ _ _ _ (@ps_set _ _ 3 _ _ _ _ scSNs.nd rfl lSNs_3 (@pe_listRange _ _ _ _ _ _ _ rfl (by rfl) T.list (by rfl) T.range (@pa_cK _ _ _ _ _ _ _ _ (@pe_callB _ _ _ _ _ _ _ _ _ call_len_str (by rfl) T.len PySem.boot_len (@pa_cN _ _ _ _ _ _ (@pv _ 0 _ _ (by rfl) vSNs_0 (by decide) (by decide)) (@pa_nil _)) (by decide) (by decide) (by rfl) (by rfl)) (@pa_nil _)) (by rfl) (by rfl)) (by rfl) (by first | exact .inl rfl | exact .inr rfl | assumption)) (@pss_cons _ _ _ _ _ (@ps_set _ _ 5 _ _ _ _ scSNs.nd rfl lSNs_5 (@pe_lst _ _ _ _ (@pa_cG _ _ _ _ _ _ _ _ (@pe_lc _ _ _ _ _ _ [("off", 4)] _ _ (gName 4) _ _ (by rfl) scSNs.nd (@pi_list _ _ _ _ (@pv _ 3 _ _ (by rfl) vSNs_3 (by decide) (by decide))) (blkOk_by (own := [("off", 4)]) (N := ["wheel", "places", "word", "offs", "off", "rows", "place", "sign", "behind"]) (sc := defScope sSNs) (by decide +kernel)) (fun _ _ _ _ _ => (@pg_name _ _ 4 _ scSNs.nd rfl (Or.inl rfl) (by first | exact .inl rfl | exact .inr rfl | assumption))) (fun _ _ _ _ _ => (@pts_nil _)) (fun _ _ _ _ _ => (@pe_tup _ _ _ _ _ (@pa_cC _ _ _ _ _ _ _ (@pe_int _ _ _ _) (@pa_cC _ _ _ _ _ _ _ (@pe_int _ _ _ _) (@pa_nil _))))) (by intro _ ; rfl)) (@pa_nil _))) (by rfl) (by first | exact .inl rfl | exact .inr rfl | assumption)) (@pss_cons _ _ _ _ _ (@ps_for _ _ _ _ _ _ _ _ PassesOwn.never rfl (@pi_reversed _ _ _ _ _ _ (by rfl) T.reversed (@pa_cK _ _ _ _ _ _ _ _ (@pe_listZip _ _ _ _ _ _ _ _ rfl (by rfl) T.list (by rfl) T.zip (@pa_cN _ _ _ _ _ _ (@pv _ 1 _ _ (by rfl) vSNs_1 (by decide) (by decide)) (@pa_cN _ _ _ _ _ _ (@pv _ 2 _ _ (by rfl) vSNs_2 (by decide) (by decide)) (@pa_nil _))) (by rfl) (by rfl)) (@pa_nil _)) (by rfl)) (@pg_tup _ _ _ _ _ _ rfl (@pgs_cons _ _ _ _ _ (@pg_name _ _ 6 _ scSNs.nd rfl lSNs_6 (by first | exact .inl rfl | exact .inr rfl | assumption)) (@pgs_cons _ _ _ _ _ (@pg_name _ _ 7 _ scSNs.nd rfl lSNs_7 (by first | exact .inl rfl | exact .inr rfl | assumption)) (@pgs_nil _) (by rfl)) (by rfl)) (by rfl) (by rfl)) (@pss_cons _ _ _ _ _ (@ps_set _ _ 8 _ _ _ _ scSNs.nd rfl lSNs_8 (@pe_ix _ _ _ _ _ _ _ ix_list (@pv _ 5 _ _ (by rfl) vSNs_5 (by decide) (by decide)) (@pe_un _ _ _ _ _ _ un_neg (@pe_int _ _ _ _)) (fun _ _ => rfl)) (by rfl) (by first | exact .inl rfl | exact .inr rfl | assumption)) (@pss_one _ _ _ (@ps_expr _ _ _ _ (@pe_bm _ _ _ _ _ _ _ _ _ _ _ _ PySem.F.plainAttrs_list PySem.F.slot_list_append PySem.F.type_list_append mt_append (@pv _ 5 _ _ (by rfl) vSNs_5 (by decide) (by decide)) (@pa_cG _ _ _ _ _ _ _ _ (@pe_lc _ _ _ _ _ _ [("off", 4)] _ _ (gName 4) _ _ (by rfl) scSNs.nd (@pi_list _ _ _ _ (@pv _ 3 _ _ (by rfl) vSNs_3 (by decide) (by decide))) (blkOk_by (own := [("off", 4)]) (N := ["wheel", "places", "word", "offs", "off", "rows", "place", "sign", "behind"]) (sc := defScope sSNs) (by decide +kernel)) (fun _ _ _ _ _ => (@pg_name _ _ 4 _ scSNs.nd rfl (Or.inl rfl) (by first | exact .inl rfl | exact .inr rfl | assumption))) (fun _ _ _ _ _ => (@pts_nil _)) (fun _ _ _ _ _ => (@pe_call _ _ _ _ _ _ _ _ _ _ _ _ _ _ _ _ GSn (hr.mono (by decide)) (by rfl) mSn kSn bSn .nil pass0 (@pa_cK _ _ _ _ _ _ _ _ (@pe_call _ _ _ _ _ _ _ _ _ _ _ _ _ _ _ _ GWo (hr.mono (by decide)) (by rfl) mWo kWo bWo .nil pass0 (@pa_cN _ _ _ _ _ _ (@pv _ 0 _ _ (by rfl) (by first | exact Or.inl rfl | exact Or.inr (Or.inl rfl) | exact Or.inr (Or.inr rfl)) (by decide) (by decide)) (@pa_cN _ _ _ _ _ _ (@pv _ 6 _ _ (by rfl) (by first | exact Or.inl rfl | exact Or.inr (Or.inl rfl) | exact Or.inr (Or.inr rfl)) (by decide) (by decide)) (@pa_cN _ _ _ _ _ _ (@pv _ 4 _ _ (by rfl) (by first | exact Or.inl rfl | exact Or.inr (Or.inl rfl) | exact Or.inr (Or.inr rfl)) (by decide) (by decide)) (@pa_cN _ _ _ _ _ _ (@pv _ 7 _ _ (by rfl) (by first | exact Or.inl rfl | exact Or.inr (Or.inl rfl) | exact Or.inr (Or.inr rfl)) (by decide) (by decide)) (@pa_nil _))))) (by decide) (by rfl) (by rfl)) (@pa_cN _ _ _ _ _ _ (@pv _ 8 _ _ (by rfl) (by first | exact Or.inl rfl | exact Or.inr (Or.inl rfl) | exact Or.inr (Or.inr rfl)) (by decide) (by decide)) (@pa_nil _))) (by decide) (by rfl) (by rfl))) (by intro _ ; rfl)) (@pa_nil _)) (by rfl) (by rfl) (by rfl) (by rfl) (by rfl)) (by rfl)))) (by intro _ ; rfl)) (@pss_one _ _ _ (@ps_ret _ _ _ _ (@pe_sliceRev _ _ _ _ _ _ _ (@pv _ 5 _ _ (by rfl) vSNs_5 (by decide) (by decide)) (@po_some _ _ _ (@pe_un _ _ _ _ _ _ un_neg (@pe_int _ _ _ _))))))))), ?_⟩
    have h1 := hW.pos
    have h2 := hW.le
    have hz : (txt l).length ≤ sizeLine := by rw [txt_length]; exact Nat.le_of_lt (small1000 (by omega))
    have hzo : (txt o).length ≤ sizeLine := by rw [txt_length]; exact Nat.le_of_lt (small1000 (by omega))
    refine ⟨_, rfl, _, rfl, hz, ?_⟩
    rw [txt_length]
    refine ⟨_, rfl, by omega, by omega, fun OF hOF => ?_⟩
    have s1 := Same.new (o := .lst ((List.range l.length).map fun i : Nat => V.int i)) hOF
    have hO1 : (upd H OF (.lst ((List.range l.length).map fun i : Nat => V.int i))) OF = some (.lst ((List.range l.length).map fun i : Nat => V.int i)) := upd_same
    generalize upd H OF (.lst ((List.range l.length).map fun i : Nat => V.int i)) = H1 at s1 hO1 ⊢
    refine ⟨_, rfl, OF, rfl, ⟨_, SqL.of hO1⟩, fun D0 hD0 => ?_⟩
    refine lc_listR (as := List.range l.length) (vf := fun i : Nat => V.int i) (fun _ => true) (fun _ v H => ∃ q, v = V.ref q ∧ Tr2 H q (0, 1)) (fun _ v H H' r s => r.imp fun q h => ⟨h.1, h.2.same s⟩) (SqL.of hO1) hD0 (by rw [List.length_range]; exact small1000 (by omega)) ?_ ?_
    · intro b H2 hb hDl s2 Qy Qn ky kn
      refine ⟨rfl, ?_⟩
      dsimp only [tYes]
      refine iteT ?_
      refine ⟨(by show 2 ≤ sizeLine; decide), fun q hq => ?_⟩
      obtain ⟨ll, hll⟩ := hDl
      have hqD : q ≠ D0 := (ne_of_none hll hq).symm
      refine ky rfl _ _ (Same.new hq) ⟨q, rfl, ?_⟩
      show del _ D0 q = _
      rw [del_ne hqD, upd_same]
    intro H2 ys s2 hD2 hys
    rw [List.filter_eq_self.mpr (fun _ _ => rfl)] at hys
    obtain ⟨q0s, rfl, hq0⟩ := refs_of (R := Tr2 H2) (f := fun _ : Nat => ((0 : Int), (1 : Int))) hys
    have hrow0 : PrAt H2 D0 (rowW l o ps o.length) q0s := ⟨hD2, by
      have e : rowW l o ps o.length = (List.range l.length).map fun _ : Nat => ((0 : Int), (1 : Int)) := by
        unfold rowW
        rw [List.drop_length]
        rfl
      rw [e]; exact hq0⟩
    refine ⟨(by show 1 ≤ sizeLine; decide), fun R hR => ?_⟩
    have sR := Same.new (o := .lst [.ref D0]) hR
    have hRD : D0 ≠ R := ne_of_none hD2 hR
    have hRn : H R = none := (s1.trans s2).free hR
    have hrow3 := hrow0.same sR
    have hO3 := (s2.trans sR) _ _ hO1
    have s03 := s1.trans (s2.trans sR)
    have hOR : OF ≠ R := ne_of_none (s2 _ _ hO1) hR
    have hR3 : (upd H2 R (.lst [.ref D0])) R = some (.lst [.ref D0]) := upd_same
    generalize upd H2 R (.lst [.ref D0]) = H3 at s03 hrow3 hO3 hR3 ⊢
    refine ⟨_, rfl, _, rfl, a, ps, txt o, rfl, SqL.of (s03 _ _ ha), by rw [hpl]; show o.length = o.toArray.size; simp, by omega, fun ZL qs H5 s5 hZn hZ hql hzz => ?_⟩
    have s05 := s03.trans s5
    have hZR : ZL ≠ R := (ne_of_none hR3 hZn).symm
    refine ⟨ZL, _, rfl, SqL.of hZ, for_revL (xs := qs.map V.ref) (fun i σ H6 => i ≤ o.length ∧ ∃ (o6 o7 o8 : Option V) (ds : List Addr), σ = [some (.str (txt l)), some (.ref a), some (.str (txt o)), some (.ref OF), none, some (.ref R), o6, o7, o8] ∧ But R H5 H6 ∧ Same H H6 ∧ H6 R = some (.lst (ds.map V.ref)) ∧ ds.length = i + 1 ∧ ∀ j d, ds[j]? = some d → d ≠ R ∧ ∃ rq, PrAt H6 d (rowW l o ps (o.length - j)) rq) ?_ ?_ ?_ ?_⟩
    · refine ⟨Nat.zero_le _, _, _, _, [D0], rfl, fun b u hb _ => hb, s05, s5 _ _ hR3, rfl, fun j d hj => ?_⟩
      cases j with
      | succ j => cases hj
      | zero =>
        cases hj
        exact ⟨hRD, q0s, hrow3.same s5⟩
    · rintro i σ H6 ⟨hi, o6, o7, o8, ds, rfl, b6, s6, hR6, hdl, hds⟩
      exact SqL.of (b6 _ _ hZ hZR)
    · rintro i v σ H6 hil hv ⟨hi, o6, o7, o8, ds, rfl, b6, s6, hR6, hdl, hds⟩
      rw [List.length_map, hql, hpl] at hil
      rw [List.length_map, hql, hpl, List.getElem?_map] at hv
      obtain ⟨x, ex⟩ : ∃ x : Nat, x + 1 + i = o.length := ⟨o.length - 1 - i, by omega⟩
      rw [show o.length - 1 - i = x by omega] at hv
      cases er : qs[x]? with
      | none => rw [er] at hv; cases hv
      | some q =>
      rw [er] at hv
      cases hv
      obtain ⟨t, ht⟩ : ∃ t, ps[x]? = some t := ⟨_, List.getElem?_eq_getElem (by omega)⟩
      obtain ⟨c, hc⟩ : ∃ c, o[x]? = some c := ⟨_, List.getElem?_eq_getElem (by omega)⟩
      have hcm := hin c (List.mem_of_getElem? hc)
      have hq5 := hzz x q t c er ht (by show o.toArray[x]? = _; rw [List.getElem?_toArray]; exact hc)
      have hq6 := b6 _ _ hq5 (ne_of hq5 (s5 _ _ hR3) (fun z => nomatch z))
      obtain ⟨d, hd⟩ : ∃ d, ds[i]? = some d := ⟨_, List.getElem?_eq_getElem (by omega)⟩
      have hlast := last_at hdl hd
      obtain ⟨hdR, rq, hrow⟩ := hds i d hd
      rw [show o.length - i = x + 1 by omega] at hrow
      have hO6 := b6 _ _ (s5 _ _ hO3) hOR
      refine ⟨q, _, rfl, SqT.of hq6, rfl, _, _, rfl, _, _, rfl, rfl, ?_⟩
      refine ⟨_, rfl, _, rfl, R, _, _, _, rfl, rfl, SqL.of hR6, hlast, ?_⟩
      refine ⟨_, rfl, .inl ⟨rfl, _, SqL.of hR6⟩, ?_⟩
      refine ⟨_, rfl, OF, rfl, ⟨_, SqL.of hO6⟩, fun D1 hD1 => ?_⟩
      have hD1R : D1 ≠ R := (ne_of_none hR6 hD1).symm
      refine lc_listR (as := List.range l.length) (vf := fun i : Nat => V.int i) (fun _ => true) (fun off v H => ∃ q, v = V.ref q ∧ Tr2 H q (wyN l (o.drop x) (ps.drop x) (off : Int))) (fun _ v H H' r s => r.imp fun q h => ⟨h.1, h.2.same s⟩) (SqL.of hO6) hD1 (by rw [List.length_range]; exact small1000 (by omega)) ?_ ?_
      · intro off H7 hoff hDl s7 Qy Qn ky kn
        have hoff := List.mem_range.mp hoff
        refine ⟨rfl, ?_⟩
        dsimp only [tYes]
        refine iteT ?_
        refine ⟨_, rfl, _, rfl, _, rfl, _, rfl, l, t, (off : Int), c, rfl, hW, fun W wqs H8 s8 hWn hW8 => ?_⟩
        refine ⟨_, rfl, W, d, wys l t (off : Int) c, rowW l o ps (x + 1), wqs, rq, rfl, hW8, hrow.same (s7.trans s8), wys_ne h1 hcm, by have := wys_len l t (off : Int) c; omega, fun m hm => by rw [rowW_len]; exact wys_off h1 hm, fun q9 H9 s9 hq9 ht9 => ?_⟩
        rw [← wyN_step h1 hc ht] at ht9
        obtain ⟨ll, hll⟩ := hDl
        have hqD : q9 ≠ D1 := (ne_of_none (s8 _ _ hll) hq9).symm
        refine ky rfl _ _ (s8.trans s9) ⟨q9, rfl, ?_⟩
        show del _ D1 q9 = _
        rw [del_ne hqD]
        exact ht9
      intro H7 ys s7 hD7 hys
      rw [List.filter_eq_self.mpr (fun _ _ => rfl)] at hys
      obtain ⟨rq7, rfl, hrq7⟩ := refs_of (R := Tr2 H7) (f := fun off : Nat => wyN l (o.drop x) (ps.drop x) (off : Int)) hys
      have hR7 := s7 _ _ hR6
      refine ⟨R, _, _, rfl, rfl, hR7, by rw [List.length_map, hdl]; exact small1000 (by omega), ?_⟩
      refine ⟨by omega, _, _, _, ds ++ [D1], rfl, fun b u hb hn => ?_, (s6.trans s7).upd' hRn, by rw [upd_same, List.map_append]; rfl, by rw [List.length_append, hdl]; rfl, fun y d' hy => ?_⟩
      · rw [upd_ne hn]
        exact s7 _ _ (b6 _ _ hb hn)
      · by_cases hyi : y < ds.length
        · rw [List.getElem?_append_left hyi] at hy
          obtain ⟨n1, rq1, p1⟩ := hds y d' hy
          have p2 := p1.same s7
          exact ⟨n1, rq1, by rw [upd_ne n1]; exact p2.1, p2.2.imp fun x y _ r => r.updL hR7⟩
        · have hy2 : y = i + 1 := by
            have := (List.getElem?_eq_some_iff.mp hy).1
            rw [List.length_append] at this
            have : y < ds.length + 1 := this
            omega
          subst hy2
          rw [List.getElem?_append_right (by omega), show i + 1 - ds.length = 0 by omega] at hy
          cases hy
          rw [show o.length - (i + 1) = x by omega]
          exact ⟨hD1R, rq7, by rw [upd_ne hD1R]; exact hD7, hrq7.imp fun x y _ r => r.updL hR7⟩
    · rintro σ H6 ⟨_, o6, o7, o8, ds, rfl, b6, s6, hR6, hdl, hds⟩
      rw [List.length_map, hql, hpl] at hdl
      refine ⟨_, rfl, _, rfl, _, rfl, rfl, R, _, rfl, SqL.of hR6, fun p hp => ?_⟩
      have sp := Same.new (o := .lst (ds.map V.ref).reverse) hp
      refine k p _ (s6.trans sp) (s6.free hp) ⟨ds.reverse, by rw [upd_same, List.map_reverse], by rw [List.length_reverse, hdl], fun i d hi => ?_⟩
      have hil := (List.getElem?_eq_some_iff.mp hi).1
      rw [List.length_reverse] at hil
      rw [List.getElem?_reverse hil] at hi
      obtain ⟨_, rq, h⟩ := hds _ d hi
      have := h.same sp
      rw [show o.length - (ds.length - 1 - i) = i by omega] at this
      exact ⟨rq, this⟩
end
end W

set_option Elab.async false
set_option linter.all false
set_option maxRecDepth 100000
set_option maxHeartbeats 4000000
namespace W
open PySem L2 WM

abbrev sMSl : Stmt := top 41
abbrev psMSl : List Str := ["wheel", "turns", "word"]
theorem scMSl : FnScope ["wheel", "turns", "word"] ["wheel", "turns", "word"] (defScope sMSl) := ⟨rfl, rfl, rfl, by decide +kernel, rfl, by decide +kernel, by decide +kernel⟩
theorem lMSl_0 : Loc (defScope sMSl) "wheel" := Or.inl (by decide +kernel)
theorem vMSl_0 : Vis (defScope sMSl) "wheel" := Or.inl (by decide +kernel)
theorem lMSl_1 : Loc (defScope sMSl) "turns" := Or.inl (by decide +kernel)
theorem vMSl_1 : Vis (defScope sMSl) "turns" := Or.inl (by decide +kernel)
theorem lMSl_2 : Loc (defScope sMSl) "word" := Or.inl (by decide +kernel)
theorem vMSl_2 : Vis (defScope sMSl) "word" := Or.inl (by decide +kernel)
abbrev sLSl : Stmt := top 40
abbrev psLSl : List Str := ["wheel", "turns", "word"]
theorem scLSl : FnScope ["wheel", "turns", "word", "places", "rows", "slips", "off", "number", "sign", "ways", "by"] ["wheel", "turns", "word"] (defScope sLSl) := ⟨rfl, rfl, rfl, by decide +kernel, rfl, by decide +kernel, by decide +kernel⟩
theorem lLSl_0 : Loc (defScope sLSl) "wheel" := Or.inl (by decide +kernel)
theorem vLSl_0 : Vis (defScope sLSl) "wheel" := Or.inl (by decide +kernel)
theorem lLSl_1 : Loc (defScope sLSl) "turns" := Or.inl (by decide +kernel)
theorem vLSl_1 : Vis (defScope sLSl) "turns" := Or.inl (by decide +kernel)
theorem lLSl_2 : Loc (defScope sLSl) "word" := Or.inl (by decide +kernel)
theorem vLSl_2 : Vis (defScope sLSl) "word" := Or.inl (by decide +kernel)
theorem lLSl_3 : Loc (defScope sLSl) "places" := Or.inl (by decide +kernel)
theorem vLSl_3 : Vis (defScope sLSl) "places" := Or.inl (by decide +kernel)
theorem lLSl_4 : Loc (defScope sLSl) "rows" := Or.inl (by decide +kernel)
theorem vLSl_4 : Vis (defScope sLSl) "rows" := Or.inl (by decide +kernel)
theorem lLSl_5 : Loc (defScope sLSl) "slips" := Or.inl (by decide +kernel)
theorem vLSl_5 : Vis (defScope sLSl) "slips" := Or.inl (by decide +kernel)
theorem lLSl_6 : Loc (defScope sLSl) "off" := Or.inl (by decide +kernel)
theorem vLSl_6 : Vis (defScope sLSl) "off" := Or.inl (by decide +kernel)
theorem lLSl_7 : Loc (defScope sLSl) "number" := Or.inl (by decide +kernel)
theorem vLSl_7 : Vis (defScope sLSl) "number" := Or.inl (by decide +kernel)
theorem lLSl_8 : Loc (defScope sLSl) "sign" := Or.inl (by decide +kernel)
theorem vLSl_8 : Vis (defScope sLSl) "sign" := Or.inl (by decide +kernel)
theorem lLSl_9 : Loc (defScope sLSl) "ways" := Or.inl (by decide +kernel)
theorem vLSl_9 : Vis (defScope sLSl) "ways" := Or.inl (by decide +kernel)
theorem lLSl_10 : Loc (defScope sLSl) "by" := Or.inl (by decide +kernel)
theorem vLSl_10 : Vis (defScope sLSl) "by" := Or.inl (by decide +kernel)
section
variable {P : Program} {w : World} {K : PySem.W.Frag} {mg : Str → Option Value} {base : Heap}
/-- the doors of slips refuse alike -/
def spSD (K : PySem.W.Frag) (C11 C12 C10 C0 : Addr) (R : List Nat → List Int → List Nat → Hp → (V → Hp → Prop) → Prop) : Sp := fun vs H Q E => ∃ (l : List Nat) (a : Addr) (ts : List Int) (o : List Nat), vs = [.str (txt l), .ref a, .str (txt o)] ∧ l.length ≤ 1000 ∧ SqL K H a (ts.map V.int) ∧ ts.length ≤ 1000 ∧ o.length ≤ 1000 ∧
  (rpk l ts o = 99 → R l ts o H Q) ∧ (rpk l ts o = 11 → ∀ H', Same H H' → E (.ref C11) none H') ∧ (rpk l ts o = 12 → ∀ H', Same H H' → E (.ref C12) none H') ∧ (rpk l ts o = 10 → ∀ H', Same H H' → E (.ref C10) none H') ∧ (rpk l ts o = 0 → ∀ H', Same H H' → E (.ref C0) none H')
/-- how many shortest lists explain the word -/
def msN (l : List Nat) (ts : List Int) (o : List Nat) : Int := (wyN l o (ptl (l.length : Int) ts) 0).2
theorem row_at {H : Hp} {R : Addr} {l o : List Nat} {ps : List Int} (h : NedW H R l o ps) {i : Nat} (hi : i ≤ o.length) {off : Int} (h0 : 0 ≤ off) (h1 : off < (l.length : Int)) :
    ∃ (ds : List Addr) (d : Addr) (rq : List Addr) (q : Addr), H R = some (.lst (ds.map V.ref)) ∧ atI (ds.map V.ref) (i : Int) = some (.ref d) ∧ PrAt H d (rowW l o ps i) rq ∧ atI (rq.map V.ref) off = some (.ref q) ∧ Tr2 H q (wyN l (o.drop i) (ps.drop i) off) := by
  obtain ⟨ds, hR, hdl, hds⟩ := h
  obtain ⟨d, hd⟩ : ∃ d, ds[i]? = some d := ⟨_, List.getElem?_eq_getElem (by omega)⟩
  obtain ⟨rq, hP⟩ := hds i d hd
  obtain ⟨q, hq, ht⟩ := hP.get h0 (by rw [rowW_len]; exact h1)
  rw [rowW_get h0 h1] at ht
  exact ⟨ds, d, rq, q, hR, atI_nat (by rw [List.getElem?_map, hd]; rfl), hP, hq, ht⟩
theorem cal_msl {C11 C12 C10 C0 : Addr} (D : Def K mg "many_slips" sMSl psMSl) (T : Txt mg) (CNr : Cal P w K mg base (CX1 P w) 5 "need_report" ["wheel", "turns", "word"] (spNRp K C11 C12 C10 C0)) (CPt : Cal P w K mg base CX0 1 "places_told" ["wheel", "turns"] (spPTd K)) (CSn : Cal P w K mg base CX0 3 "slip_needs" ["wheel", "places", "word"] spSNs) :
    Cal P w K mg base (CX1 P w) 6 "many_slips" psMSl (spSD K C11 C12 C10 C0 fun l ts o H Q => ∀ H', Same H H' → Q (.int (msN l ts o)) H') := cal_mk D fun f fd F => by
  obtain ⟨fNr, dNr, GNr, kNr, bNr, mNr⟩ := CNr
  obtain ⟨fPt, dPt, GPt, kPt, bPt, mPt⟩ := CPt
  obtain ⟨fSn, dSn, GSn, kSn, bSn, mSn⟩ := CSn
  refine F.okX scMSl (fun vs H Q E h => ?_) (fun cdv A outer s H vs Q E hr h => ?_)
  · obtain ⟨l, a, ts, o, rfl, _⟩ := h
    rfl
  · obtain ⟨l, a, ts, o, rfl, hl, hS, ht, ho, k99, k11, k12, k10, k0⟩ := h
    refine ⟨_, (@pss_cons _ _ _ _ _ (@ps_expr _ _ _ _ (@pe_call _ _ _ _ _ _ _ _ _ _ _ _ _ _ _ _ GNr (hr.mono (by decide)) (by rfl) mNr kNr bNr .nil pass_up (@pa_cN _ _ _ _ _ _ (@pv _ 0 _ _ (by rfl) vMSl_0 (by decide) (by decide)) (@pa_cN _ _ _ _ _ _ (@pv _ 1 _ _ (by rfl) vMSl_1 (by decide) (by decide)) (@pa_cN _ _ _ _ _ _ (@pv _ 2 _ _ (by rfl) vMSl_2 (by decide) (by decide)) (@pa_nil _)))) (by decide) (by rfl) (by rfl)) (by rfl)) (@pss_one _ _ _ (@ps_ret _ _ _ _ (@pe_ix _ _ _ _ _ _ _ ix_tup (@pe_ix _ _ _ _ _ _ _ ix_list (@pe_ix _ _ _ _ _ _ _ ix_list (@pe_call _ _ _ _ _ _ _ _ _ _ _ _ _ _ _ _ GSn (hr.mono (by decide)) (by rfl) mSn kSn bSn .nil pass0 (@pa_cN _ _ _ _ _ _ (@pv _ 0 _ _ (by rfl) vMSl_0 (by decide) (by decide)) (@pa_cK _ _ _ _ _ _ _ _ (@pe_call _ _ _ _ _ _ _ _ _ _ _ _ _ _ _ _ GPt (hr.mono (by decide)) (by rfl) mPt kPt bPt .nil pass0 (@pa_cN _ _ _ _ _ _ (@pv _ 0 _ _ (by rfl) vMSl_0 (by decide) (by decide)) (@pa_cN _ _ _ _ _ _ (@pv _ 1 _ _ (by rfl) vMSl_1 (by decide) (by decide)) (@pa_nil _))) (by decide) (by rfl) (by rfl)) (@pa_cN _ _ _ _ _ _ (@pv _ 2 _ _ (by rfl) vMSl_2 (by decide) (by decide)) (@pa_nil _)))) (by decide) (by rfl) (by rfl)) (@pe_int _ _ _ _) (fun _ _ => rfl)) (@pe_int _ _ _ _) (fun _ _ => rfl)) (@pe_int _ _ _ _) (fun _ _ => rfl))))), ?_⟩
    refine ⟨_, rfl, _, rfl, _, rfl, l, a, ts, o, rfl, hl, hS, ht, ho, fun h99 H1 s1 => ?_, k11, k12, k10, k0⟩
    obtain ⟨hW, hw, hlen, hin⟩ := rpk_good h99
    have h1 := hW.pos
    have ho80 := isW_len hw
    refine ⟨_, rfl, _, rfl, _, rfl, l, a, ts, rfl, hW, s1.seq hS, ht, fun PD H2 s2 hPn hPD => ?_⟩
    refine ⟨_, rfl, l, PD, _, o, rfl, hW, hPD, by rw [ptl_len]; exact hlen, by omega, hin, fun R H3 s3 hRn hN => ?_⟩
    obtain ⟨ds, d, rq, q, hR, hd, hP, hq, htr⟩ := row_at hN (i := 0) (Nat.zero_le _) (off := 0) (by decide) (by omega)
    refine ⟨R, _, _, _, rfl, rfl, SqL.of hR, hd, d, _, _, _, rfl, rfl, SqL.of hP.1, hq, q, _, _, _, rfl, rfl, SqT.of htr, atI_nat (j := 1) rfl, ?_⟩
    exact k99 h99 H3 (s1.trans (s2.trans s3))
/-- the first of all shortest lists: how far it is off, the slips so far -/
def lsS (l o : List Nat) (ps : List Int) : Nat → Int × List (Int × Int)
  | 0 => (0, [])
  | i + 1 =>
    let m := fwy (rowW l o ps (i + 1)) (wyN l (o.drop i) (ps.drop i) (lsS l o ps i).1).1 (wys l (ps.getD i 0) (lsS l o ps i).1 (o.getD i 0))
    (m.2, (lsS l o ps i).2 ++ if 0 < m.1 then [((i : Int), m.1)] else [])
def lsl (l : List Nat) (ts : List Int) (o : List Nat) : List (Int × Int) := (lsS l o (ptl (l.length : Int) ts) o.length).2
theorem lsS_len (l o : List Nat) (ps : List Int) : ∀ i, (lsS l o ps i).2.length ≤ i
  | 0 => Nat.le_refl _
  | i + 1 => by
    have := lsS_len l o ps i
    unfold lsS
    dsimp only
    rw [List.length_append]
    split
    · show _ + 1 ≤ _; omega
    · show _ + 0 ≤ _; omega
theorem fwy_mem {xs : List (Int × Int)} {kk : Int} {pl : List (Int × Int)} (h : fitW xs kk pl ≠ []) : fwy xs kk pl ∈ fitW xs kk pl := by
  unfold fwy
  generalize fitW xs kk pl = ft at h
  cases e : ft.filter fun m => decide (0 < m.1) with
  | nil =>
    cases ft with
    | nil => exact absurd rfl h
    | cons x r => exact List.mem_cons_self
  | cons x r =>
    show x ∈ ft
    have : x ∈ ft.filter fun m => decide (0 < m.1) := by rw [e]; exact List.mem_cons_self
    exact (List.mem_filter.mp this).1
theorem fit_ne {l o : List Nat} {ps : List Int} {x c : Nat} {t off : Int} (h : 1 ≤ l.length) (hcl : c ∈ l) (hc : o[x]? = some c) (ht : ps[x]? = some t) : fitW (rowW l o ps (x + 1)) (wyN l (o.drop x) (ps.drop x) off).1 (wys l t off c) ≠ [] := by
  have hb := bst_ok (xs := (wys l t off c).map (sneG (rowW l o ps (x + 1)))) (fun e => wys_ne (p := t) (off := off) h hcl (List.map_eq_nil_iff.mp e))
  rw [← wyN_step h hc ht (off := off)] at hb
  obtain ⟨y, hy, e⟩ := List.mem_map.mp hb.mem
  obtain ⟨m, hm, rfl⟩ := List.mem_map.mp hy
  exact List.ne_nil_of_mem (List.mem_filter.mpr ⟨hm, decide_eq_true e⟩)
theorem lsS_off {l o : List Nat} {ps : List Int} (h : 1 ≤ l.length) (hcl : ∀ c ∈ o, c ∈ l) (hp : ps.length = o.length) : ∀ i, i ≤ o.length → 0 ≤ (lsS l o ps i).1 ∧ (lsS l o ps i).1 < (l.length : Int)
  | 0, _ => ⟨Int.le_refl _, by show (0 : Int) < _; omega⟩
  | i + 1, hi => by
    obtain ⟨c, hc⟩ : ∃ c, o[i]? = some c := ⟨_, List.getElem?_eq_getElem (by omega)⟩
    obtain ⟨t, ht⟩ : ∃ t, ps[i]? = some t := ⟨_, List.getElem?_eq_getElem (by omega)⟩
    unfold lsS
    dsimp only
    rw [List.getD_eq_getElem?_getD, List.getD_eq_getElem?_getD, hc, ht]
    exact wys_off h (List.mem_filter.mp (fwy_mem (fit_ne h (hcl c (List.mem_of_getElem? hc)) hc ht))).1
theorem cal_lsl {C11 C12 C10 C0 : Addr} (D : Def K mg "least_slips" sLSl psLSl) (T : Txt mg) (CNr : Cal P w K mg base (CX1 P w) 5 "need_report" ["wheel", "turns", "word"] (spNRp K C11 C12 C10 C0)) (CPt : Cal P w K mg base CX0 1 "places_told" ["wheel", "turns"] (spPTd K)) (CWo : Cal P w K mg base CX0 1 "ways_on" ["wheel", "place", "off", "sign"] spWOn) (CSn : Cal P w K mg base CX0 3 "slip_needs" ["wheel", "places", "word"] spSNs) (CFw : Cal P w K mg base CX0 2 "first_way" ["ways", "fewest", "behind"] spFWy) :
    Cal P w K mg base (CX1 P w) 6 "least_slips" psLSl (spSD K C11 C12 C10 C0 fun l ts o H Q => ∀ D qs H', Same H H' → H D = none → PrAt H' D (lsl l ts o) qs → Q (.ref D) H') := cal_mk D fun f fd F => by
  obtain ⟨fNr, dNr, GNr, kNr, bNr, mNr⟩ := CNr
  obtain ⟨fPt, dPt, GPt, kPt, bPt, mPt⟩ := CPt
  obtain ⟨fWo, dWo, GWo, kWo, bWo, mWo⟩ := CWo
  obtain ⟨fSn, dSn, GSn, kSn, bSn, mSn⟩ := CSn
  obtain ⟨fFw, dFw, GFw, kFw, bFw, mFw⟩ := CFw
  refine F.okX scLSl (fun vs H Q E h => ?_) (fun cdv A outer s H vs Q E hr h => ?_)
  · obtain ⟨l, a, ts, o, rfl, _⟩ := h
    rfl
  · obtain ⟨l, a, ts, o, rfl, hl, hS, ht, ho, k99, k11, k12, k10, k0⟩ := h
    refine ⟨_, (@pss_cons _ _ _ _ _ (@ps_expr _ _ _ _ (@pe_call _ _ _ _ _ _ _ _ _ _ _ _ _ _ _ _ GNr (hr.mono (by decide)) (by rfl) mNr kNr bNr .nil pass_up (@pa_cN _ _ _ _ _ _ (@pv _ 0 _ _ (by rfl) vLSl_0 (by decide) (by decide)) (@pa_cN _ _ _ _ _ _ (@pv _ 1 _ _ (by rfl) vLSl_1 (by decide) (by decide)) (@pa_cN _ _ _ _ _ _ (@pv _ 2 _ _ (by rfl) vLSl_2 (by decide) (by decide)) (@pa_nil _)))) (by decide) (by rfl) (by rfl)) (by rfl)) (@pss_cons _ _ _ _ _ (@ps_set _ _ 3 _ _ _ _ scLSl.nd rfl lLSl_3 (@pe_call _ _ _ _ _ _ _ _ _ _ _ _ _ _ _ _ GPt (hr.mono (by decide)) (by rfl) mPt kPt bPt .nil pass0 (@pa_cN _ _ _ _ _ _ (@pv _ 0 _ _ (by rfl) vLSl_0 (by decide) (by decide)) (@pa_cN _ _ _ _ _ _ (@pv _ 1 _ _ (by rfl) vLSl_1 (by decide) (by decide)) (@pa_nil _))) (by decide) (by rfl) (by rfl)) (by rfl) (by first | exact .inl rfl | exact .inr rfl | assumption)) (@pss_cons _ _ _ _ _ (@ps_set _ _ 4 _ _ _ _ scLSl.nd rfl lLSl_4 (@pe_call _ _ _ _ _ _ _ _ _ _ _ _ _ _ _ _ GSn (hr.mono (by decide)) (by rfl) mSn kSn bSn .nil pass0 (@pa_cN _ _ _ _ _ _ (@pv _ 0 _ _ (by rfl) vLSl_0 (by decide) (by decide)) (@pa_cN _ _ _ _ _ _ (@pv _ 3 _ _ (by rfl) vLSl_3 (by decide) (by decide)) (@pa_cN _ _ _ _ _ _ (@pv _ 2 _ _ (by rfl) vLSl_2 (by decide) (by decide)) (@pa_nil _)))) (by decide) (by rfl) (by rfl)) (by rfl) (by first | exact .inl rfl | exact .inr rfl | assumption)) (@pss_cons _ _ _ _ _ (@ps_set _ _ 5 _ _ _ _ scLSl.nd rfl lLSl_5 (@pe_lst _ _ _ _ (@pa_nil _)) (by rfl) (by first | exact .inl rfl | exact .inr rfl | assumption)) (@pss_cons _ _ _ _ _ (@ps_set _ _ 6 _ _ _ _ scLSl.nd rfl lLSl_6 (@pe_int _ _ _ _) (by rfl) (by first | exact .inl rfl | exact .inr rfl | assumption)) (@pss_cons _ _ _ _ _ (@PS.nox _ _ _ (@ps_for _ _ _ _ _ _ _ _ PassesOwn.never rfl (@pi_enumS _ _ _ _ _ _ _ _ (by rfl) T.enum (@pa_cN _ _ _ _ _ _ (@pv _ 2 _ _ (by rfl) vLSl_2 (by decide) (by decide)) (@pa_nil _)) (by rfl)) (@pg_tup _ _ _ _ _ _ rfl (@pgs_cons _ _ _ _ _ (@pg_name _ _ 7 _ scLSl.nd rfl lLSl_7 (by first | exact .inl rfl | exact .inr rfl | assumption)) (@pgs_cons _ _ _ _ _ (@pg_name _ _ 8 _ scLSl.nd rfl lLSl_8 (by first | exact .inl rfl | exact .inr rfl | assumption)) (@pgs_nil _) (by rfl)) (by rfl)) (by rfl) (by rfl)) (@pss_cons _ _ _ _ _ (@ps_set _ _ 9 _ _ _ _ scLSl.nd rfl lLSl_9 (@pe_call _ _ _ _ _ _ _ _ _ _ _ _ _ _ _ _ GWo (hr.mono (by decide)) (by rfl) mWo kWo bWo .nil pass0 (@pa_cN _ _ _ _ _ _ (@pv _ 0 _ _ (by rfl) vLSl_0 (by decide) (by decide)) (@pa_cS _ _ _ _ _ _ _ (@pe_ix _ _ _ _ _ _ _ ix_list (@pv _ 3 _ _ (by rfl) vLSl_3 (by decide) (by decide)) (@pv _ 7 _ _ (by rfl) vLSl_7 (by decide) (by decide)) (fun _ _ => rfl)) (@pa_cN _ _ _ _ _ _ (@pv _ 6 _ _ (by rfl) vLSl_6 (by decide) (by decide)) (@pa_cN _ _ _ _ _ _ (@pv _ 8 _ _ (by rfl) vLSl_8 (by decide) (by decide)) (@pa_nil _))))) (by decide) (by rfl) (by rfl)) (by rfl) (by first | exact .inl rfl | exact .inr rfl | assumption)) (@pss_cons _ _ _ _ _ (@ps_asg _ _ _ _ _ _ (@pe_call _ _ _ _ _ _ _ _ _ _ _ _ _ _ _ _ GFw (hr.mono (by decide)) (by rfl) mFw kFw bFw .nil pass0 (@pa_cN _ _ _ _ _ _ (@pv _ 9 _ _ (by rfl) vLSl_9 (by decide) (by decide)) (@pa_cS _ _ _ _ _ _ _ (@pe_ix _ _ _ _ _ _ _ ix_tup (@pe_ix _ _ _ _ _ _ _ ix_list (@pe_ix _ _ _ _ _ _ _ ix_list (@pv _ 4 _ _ (by rfl) vLSl_4 (by decide) (by decide)) (@pv _ 7 _ _ (by rfl) vLSl_7 (by decide) (by decide)) (fun _ _ => rfl)) (@pv _ 6 _ _ (by rfl) vLSl_6 (by decide) (by decide)) (fun _ _ => rfl)) (@pe_int _ _ _ _) (fun _ _ => rfl)) (@pa_cS _ _ _ _ _ _ _ (@pe_ix _ _ _ _ _ _ _ ix_list (@pv _ 4 _ _ (by rfl) vLSl_4 (by decide) (by decide)) (@pe_op _ _ _ _ _ _ _ _ op_add (@pv _ 7 _ _ (by rfl) vLSl_7 (by decide) (by decide)) (@pe_int _ _ _ _)) (fun _ _ => rfl)) (@pa_nil _)))) (by decide) (by rfl) (by rfl)) (@pg_tup _ _ _ _ _ _ rfl (@pgs_cons _ _ _ _ _ (@pg_name _ _ 10 _ scLSl.nd rfl lLSl_10 (by first | exact .inl rfl | exact .inr rfl | assumption)) (@pgs_cons _ _ _ _ _ (@pg_name _ _ 6 _ scLSl.nd rfl lLSl_6 (by first | exact .inl rfl | exact .inr rfl | assumption)) (@pgs_nil _) (by rfl)) (by rfl)) (by rfl) (by rfl)) (by rfl) (by rfl) (by rfl)) (@pss_one _ _ _ (@ps_if _ _ _ _ _ _ _ _ (@pt_cmpR _ _ _ _ _ _ _ _ op_gt (@pv _ 10 _ _ (by rfl) vLSl_10 (by decide) (by decide)) (@pe_int _ _ _ _) (nomark _)) (@pss_one _ _ _ (@ps_expr _ _ _ _ (@pe_bm _ _ _ _ _ _ _ _ _ _ _ _ PySem.F.plainAttrs_list PySem.F.slot_list_append PySem.F.type_list_append mt_append (@pv _ 5 _ _ (by rfl) vLSl_5 (by decide) (by decide)) (@pa_cT _ _ _ _ _ _ _ (@pe_tup _ _ _ _ _ (@pa_cN _ _ _ _ _ _ (@pv _ 7 _ _ (by rfl) vLSl_7 (by decide) (by decide)) (@pa_cN _ _ _ _ _ _ (@pv _ 10 _ _ (by rfl) vLSl_10 (by decide) (by decide)) (@pa_nil _)))) (@pa_nil _)) (by rfl) (by rfl) (by rfl) (by rfl) (by rfl)) (by rfl))) (@pss_nil _))))) (by intro _ ; rfl))) (@pss_one _ _ _ (@ps_ret _ _ _ _ (@pv _ 5 _ _ (by rfl) vLSl_5 (by decide) (by decide)))))))))), ?_⟩
    refine ⟨_, rfl, _, rfl, _, rfl, l, a, ts, o, rfl, hl, hS, ht, ho, fun h99 H1 s1 => ?_, k11, k12, k10, k0⟩
    obtain ⟨hW, hw, hlen, hin⟩ := rpk_good h99
    have h1 := hW.pos
    have h2 := hW.le
    have ho80 := isW_len hw
    refine ⟨_, rfl, _, rfl, l, a, ts, rfl, hW, s1.seq hS, ht, fun PD H2 s2 hPn hPD => ?_⟩
    have hpl : (ptl (l.length : Int) ts).length = o.length := by rw [ptl_len]; exact hlen
    have kE : ∀ D qs H', Same H H' → H D = none → PrAt H' D (lsS l o (ptl (l.length : Int) ts) o.length).2 qs → Q (.ref D) H' := k99 h99
    generalize ptl (l.length : Int) ts = ps at hPD hpl kE
    refine ⟨_, rfl, _, rfl, _, rfl, l, PD, ps, o, rfl, hW, hPD, hpl, by omega, hin, fun R H3 s3 hRn hN => ?_⟩
    refine ⟨(by show 0 ≤ sizeLine; decide), fun SL hSL => ?_⟩
    have s4 := Same.new (o := .lst []) hSL
    have sH := s1.trans (s2.trans s3)
    have hSn : H SL = none := sH.free hSL
    have hPD3 := s3 _ _ hPD
    have hSL4 : PrAt (upd H3 SL (.lst [])) SL [] [] := ⟨upd_same, .nil⟩
    generalize upd H3 SL (.lst []) = H4 at s4 hSL4 ⊢
    refine ⟨_, rfl, _, rfl, for_enumS (l := o) (fun i σ HI => i ≤ o.length ∧ ∃ (o8 o9 o10 o11 : Option V) (qs : List Addr), σ = [some (.str (txt l)), some (.ref a), some (.str (txt o)), some (.ref PD), some (.ref R), some (.ref SL), some (.int (lsS l o ps i).1), o8, o9, o10, o11] ∧ Same H3 HI ∧ PrAt HI SL (lsS l o ps i).2 qs) ?_ ?_ ?_⟩
    · exact ⟨Nat.zero_le _, _, _, _, _, [], rfl, s4, hSL4⟩
    rotate_left
    · rintro σ HI ⟨_, o8, o9, o10, o11, qs, rfl, sI, hP⟩
      exact ⟨_, rfl, kE SL qs HI (sH.trans sI) hSn hP⟩
    rintro i c T' σ HI hc ⟨hi, o8, o9, o10, o11, qs, rfl, sI, hSI⟩ hT
    have hil := (List.getElem?_eq_some_iff.mp hc).1
    have hcm := hin c (List.mem_of_getElem? hc)
    obtain ⟨t, hpt⟩ : ∃ t, ps[i]? = some t := ⟨_, List.getElem?_eq_getElem (by omega)⟩
    refine ⟨T', _, rfl, SqT.of upd_same, rfl, _, _, rfl, _, _, rfl, rfl, ?_⟩
    have sT := Same.new (o := .tup [.int (i : Nat), .str (txt [c])]) hT
    have hS5 := hSI.same sT
    have s5 := sI.trans sT
    generalize upd HI T' (.tup [.int (i : Nat), .str (txt [c])]) = H5 at hS5 s5 ⊢
    obtain ⟨hoff0, hoff1⟩ := lsS_off (ps := ps) h1 hin hpl i hi
    have est : lsS l o ps (i + 1) = ((fwy (rowW l o ps (i + 1)) (wyN l (o.drop i) (ps.drop i) (lsS l o ps i).1).1 (wys l t (lsS l o ps i).1 c)).2, (lsS l o ps i).2 ++ if 0 < (fwy (rowW l o ps (i + 1)) (wyN l (o.drop i) (ps.drop i) (lsS l o ps i).1).1 (wys l t (lsS l o ps i).1 c)).1 then [((i : Int), (fwy (rowW l o ps (i + 1)) (wyN l (o.drop i) (ps.drop i) (lsS l o ps i).1).1 (wys l t (lsS l o ps i).1 c)).1)] else []) := by
      have e1 : ps.getD i 0 = t := by rw [List.getD_eq_getElem?_getD, hpt]; rfl
      have e2 : o.getD i 0 = c := by rw [List.getD_eq_getElem?_getD, hc]; rfl
      conv => lhs; unfold lsS
      rw [e1, e2]
    have hsll := lsS_len l o ps i
    generalize lsS l o ps i = st at hoff0 hoff1 est hS5 hsll ⊢
    refine ⟨_, rfl, _, rfl, _, rfl, PD, _, _, _, rfl, rfl, SqL.of (s5 _ _ hPD3), atI_nat (j := i) (by rw [List.getElem?_map, hpt]; rfl), ?_⟩
    refine ⟨_, rfl, _, rfl, l, t, st.1, c, rfl, hW, fun W wqs H6 s6 hWn hW6 => ?_⟩
    have hN6 := hN.same (s5.trans s6)
    obtain ⟨ds, d, rq, q, hR, hd, hP, hq, htr⟩ := row_at hN6 hi hoff0 hoff1
    obtain ⟨ds', d1, rq1, q1, hR', hd1, hP1, _, _⟩ := row_at hN6 (i := i + 1) (by omega) hoff0 hoff1
    refine ⟨_, rfl, _, rfl, _, rfl, R, _, _, _, rfl, rfl, SqL.of hR, hd, _, rfl, d, _, _, _, rfl, rfl, SqL.of hP.1, hq, q, _, _, _, rfl, rfl, SqT.of htr, atI_nat (j := 0) rfl, ?_⟩
    refine ⟨_, rfl, _, rfl, _, _, rfl, rfl, R, _, _, _, rfl, rfl, SqL.of hR', (by rw [show ((i : Int) + 1) = ((i + 1 : Nat) : Int) by omega]; exact hd1), ?_⟩
    refine ⟨W, d1, _, _, wqs, rq1, _, rfl, hW6, hP1, by have := wys_len l t st.1 c; omega, fun m hm => by rw [rowW_len]; exact wys_off h1 hm, fit_ne h1 hcm hc hpt, fun q2 H7 s7 hq2 => ?_⟩
    generalize fwy (rowW l o ps (i + 1)) (wyN l (o.drop i) (ps.drop i) st.1).1 (wys l t st.1 c) = m at est hq2
    refine ⟨q2, _, rfl, SqT.of hq2, rfl, _, _, rfl, _, _, rfl, rfl, ?_⟩
    have hS7 := hS5.same (s6.trans s7)
    have s57 := s5.trans (s6.trans s7)
    refine ⟨_, rfl, _, _, rfl, rfl, _, rfl, ?_⟩
    have hSl := hS7.2.length
    by_cases hm : 0 < m.1
    · rw [decide_eq_true hm]
      rw [if_pos hm] at est
      refine iteT ?_
      refine ⟨_, rfl, .inl ⟨rfl, _, SqL.of hS7.1⟩, _, rfl, _, rfl, (by show 2 ≤ sizeLine; decide), fun q3 hq3 => ?_⟩
      have s8 := Same.new (o := .tup [.int (i : Int), .int m.1]) hq3
      have hS8 := hS7.same s8
      refine ⟨SL, _, _, rfl, rfl, hS8.1, by rw [List.length_map, hSl]; exact small1000 (by omega), ?_⟩
      refine ⟨hil, _, _, _, _, qs ++ [q3], by rw [est]; rfl, (s57.trans s8).upd' hSL, ?_⟩
      rw [est]
      exact ⟨by rw [upd_same, List.map_append]; rfl, All2.snoc (hS8.2.imp fun x y _ r => r.updL hS8.1) (Tr2.updL (show Tr2 _ q3 ((i : Int), m.1) from upd_same) hS8.1)⟩
    · rw [decide_eq_false hm]
      rw [if_neg hm, List.append_nil] at est
      refine iteF ?_
      refine ⟨hil, _, _, _, _, qs, by rw [est]; rfl, s57, ?_⟩
      rw [est]
      exact hS7
end
end W

set_option Elab.async false
set_option linter.all false
set_option maxRecDepth 100000
set_option maxHeartbeats 4000000
namespace W
open PySem L2 WM
abbrev sSStr : Stmt := top 26
abbrev psSStr : List Str := ["wheel", "turns"]
theorem scSStr : FnScope ["wheel", "turns", "place", "signs", "turn"] ["wheel", "turns"] (defScope sSStr) := ⟨rfl, rfl, rfl, by decide +kernel, rfl, by decide +kernel, by decide +kernel⟩
theorem lSStr_0 : Loc (defScope sSStr) "wheel" := Or.inl (by decide +kernel)
theorem vSStr_0 : Vis (defScope sSStr) "wheel" := Or.inl (by decide +kernel)
theorem lSStr_1 : Loc (defScope sSStr) "turns" := Or.inl (by decide +kernel)
theorem vSStr_1 : Vis (defScope sSStr) "turns" := Or.inl (by decide +kernel)
theorem lSStr_2 : Loc (defScope sSStr) "place" := Or.inl (by decide +kernel)
theorem vSStr_2 : Vis (defScope sSStr) "place" := Or.inl (by decide +kernel)
theorem lSStr_3 : Loc (defScope sSStr) "signs" := Or.inl (by decide +kernel)
theorem vSStr_3 : Vis (defScope sSStr) "signs" := Or.inl (by decide +kernel)
theorem lSStr_4 : Loc (defScope sSStr) "turn" := Or.inl (by decide +kernel)
theorem vSStr_4 : Vis (defScope sSStr) "turn" := Or.inl (by decide +kernel)
section
variable {P : Program} {w : World} {K : PySem.W.Frag} {mg : Str → Option Value} {base : Heap}
def spSStr (K : PySem.W.Frag) : Sp := fun vs H Q _ => ∃ (l : List Nat) (a : Addr) (ts : List Int), vs = [.str (txt l), .ref a] ∧ Wheel l ∧ SqL K H a (ts.map V.int) ∧ ts.length ≤ 200 ∧ ∀ H', Same H H' → Q (.str (txt (stk l ts).2)) H'
theorem cal_sstr (D : Def K mg "signs_struck" sSStr psSStr) (T : Txt mg) : Cal P w K mg base CX0 1 "signs_struck" psSStr (spSStr K) := cal_mk D fun f fd F => by
  refine F.ok scSStr (fun vs H Q E h => ?_) (fun cdv A outer s H vs Q E hr h => ?_)
  · obtain ⟨l, a, ts, rfl, _⟩ := h
    rfl
  · obtain ⟨l, a, ts, rfl, hW, hS, ht, k⟩ := h
    have h1 := hW.pos
    have h2 := hW.le
    have hz : (txt l).length ≤ sizeLine := by rw [txt_length]; exact Nat.le_of_lt (small1000 (by omega))
    refine ⟨_, (@pss_cons _ _ _ _ _ (@ps_set _ _ 2 _ _ _ _ scSStr.nd rfl lSStr_2 (@pe_int _ _ _ _) (by rfl) (by first | exact .inl rfl | exact .inr rfl | assumption)) (@pss_cons _ _ _ _ _ (@ps_set _ _ 3 _ _ _ _ scSStr.nd rfl lSStr_3 (@pe_lst _ _ _ _ (@pa_nil _)) (by rfl) (by first | exact .inl rfl | exact .inr rfl | assumption)) (@pss_cons _ _ _ _ _ (@ps_for _ _ _ _ _ _ _ _ PassesOwn.never rfl (@pi_list _ _ _ _ (@pv _ 1 _ _ (by rfl) vSStr_1 (by decide) (by decide))) (@pg_name _ _ 4 _ scSStr.nd rfl lSStr_4 (by first | exact .inl rfl | exact .inr rfl | assumption)) (@pss_cons _ _ _ _ _ (@ps_set _ _ 2 _ _ _ _ scSStr.nd rfl lSStr_2 (@pe_op _ _ _ _ _ _ _ _ op_mod (@pe_op _ _ _ _ _ _ _ _ op_add (@pv _ 2 _ _ (by rfl) vSStr_2 (by decide) (by decide)) (@pv _ 4 _ _ (by rfl) vSStr_4 (by decide) (by decide))) (@pe_callB _ _ _ _ _ _ _ _ _ call_len_str (by rfl) T.len PySem.boot_len (@pa_cN _ _ _ _ _ _ (@pv _ 0 _ _ (by rfl) vSStr_0 (by decide) (by decide)) (@pa_nil _)) (by decide) (by decide) (by rfl) (by rfl))) (by rfl) (by first | exact .inl rfl | exact .inr rfl | assumption)) (@pss_one _ _ _ (@ps_expr _ _ _ _ (@pe_bm _ _ _ _ _ _ _ _ _ _ _ _ PySem.F.plainAttrs_list PySem.F.slot_list_append PySem.F.type_list_append mt_append (@pv _ 3 _ _ (by rfl) vSStr_3 (by decide) (by decide)) (@pa_cS _ _ _ _ _ _ _ (@pe_ix _ _ _ _ _ _ _ ix_str (@pv _ 0 _ _ (by rfl) vSStr_0 (by decide) (by decide)) (@pv _ 2 _ _ (by rfl) vSStr_2 (by decide) (by decide)) (fun _ _ => rfl)) (@pa_nil _)) (by rfl) (by rfl) (by rfl) (by rfl) (by rfl)) (by rfl)))) (by intro _ ; rfl)) (@pss_one _ _ _ (@ps_ret _ _ _ _ (@pe_join _ _ _ _ _ _ _ (@pe_str _ _ _ _) (@pv _ 3 _ _ (by rfl) vSStr_3 (by decide) (by decide)) (by rfl) (by rfl) (by rfl))))))), ?_⟩
    refine ⟨(by show 0 ≤ sizeLine; decide), fun L hL => ?_⟩
    have sL : Same H (upd H L (.lst [])) := Same.new hL
    refine ⟨_, rfl, a, rfl, ⟨_, sL.seq hS⟩, for_list (xs := ts.map V.int) (fun i σ H2 => ∃ o4 : Option V, σ = [some (.str (txt l)), some (.ref a), some (.int (stk l (ts.take i)).1), some (.ref L), o4] ∧ Same H H2 ∧ H2 L = some (.lst (((stk l (ts.take i)).2.map fun c => txt [c]).map V.str))) ?_ ?_ ?_ ?_⟩
    · exact ⟨_, rfl, sL, upd_same⟩
    · rintro i σ H2 _ ⟨o4, rfl, s2, _⟩
      exact s2.seq hS
    · rintro i x σ H2 hx ⟨o4, rfl, s2, hL2⟩
      rw [List.getElem?_map] at hx
      cases ex : ts[i]? with
      | none => rw [ex] at hx; cases hx
      | some t =>
        rw [ex] at hx
        cases hx
        have e : ts.take (i + 1) = ts.take i ++ [t] := by rw [List.take_add_one, ex]; rfl
        obtain ⟨q1, q2⟩ := ix_ok ((stk l (ts.take i)).1 + t) (show 0 < l.length by omega)
        refine ⟨_, rfl, _, rfl, _, _, rfl, rfl, _, rfl, _, rfl, hz, _, _, rfl, rfl, (by rw [txt_length]; show (0 : Int) < _; omega), ?_⟩
        rw [txt_length]
        have hat := at_getD (l := l) (z := ((stk l (ts.take i)).1 + t) % (l.length : Int)) (by omega) (by omega)
        refine ⟨_, rfl, .inl ⟨rfl, _, SqL.of hL2⟩, _, rfl, _, rfl, _, _, _, rfl, rfl, hz, hat, ?_⟩
        refine ⟨L, _, _, rfl, rfl, hL2, ?_, ?_⟩
        · rw [List.length_map, List.length_map, stk_len, List.length_take]; exact small1000 (by omega)
        · refine ⟨some (.int t), ?_, s2.upd' hL, ?_⟩
          · rw [e, stk_snoc]; rfl
          · rw [upd_same, e, stk_snoc, List.map_append, List.map_append]; rfl
    · rintro σ H2 ⟨o4, rfl, s2, hL2⟩
      rw [List.length_map, List.take_length] at hL2
      refine ⟨⟨_, rfl⟩, _, rfl, _, L, _, rfl, rfl, .inl (SqL.of hL2), ?_, ?_⟩
      · rw [List.map_map, List.length_map]
        have : ∀ l : List Nat, (l.map ((fun x : Str => x.length) ∘ fun c => txt [c])).sum = l.length := by
          intro l
          induction l with
          | nil => rfl
          | cons a r ih =>
            rw [List.map_cons, List.sum_cons, ih]
            show (txt [a]).length + _ = _
            rw [txt_length]
            show 1 + r.length = r.length + 1
            omega
        rw [this, stk_len]
        show _ + _ * 0 ≤ _
        omega
      · show Q (.str (Txt.join (txt []) _)) H2
        rw [join_signs]
        exact k H2 s2
end
end W

set_option Elab.async false
set_option linter.all false
set_option maxRecDepth 100000
set_option maxHeartbeats 4000000
namespace W
open PySem L2 WM

abbrev sSlT : Stmt := top 30
abbrev psSlT : List Str := ["turns", "slips"]
theorem scSlT : FnScope ["turns", "slips", "number", "turn", "k", "by"] ["turns", "slips"] (defScope sSlT) := ⟨rfl, rfl, rfl, by decide +kernel, rfl, by decide +kernel, by decide +kernel⟩
theorem lSlT_0 : Loc (defScope sSlT) "turns" := Or.inl (by decide +kernel)
theorem vSlT_0 : Vis (defScope sSlT) "turns" := Or.inl (by decide +kernel)
abbrev sSeen : Stmt := top 31
abbrev psSeen : List Str := ["wheel", "turns", "slips"]
theorem scSeen : FnScope ["wheel", "turns", "slips"] ["wheel", "turns", "slips"] (defScope sSeen) := ⟨rfl, rfl, rfl, by decide +kernel, rfl, by decide +kernel, by decide +kernel⟩
theorem lSeen_0 : Loc (defScope sSeen) "wheel" := Or.inl (by decide +kernel)
theorem vSeen_0 : Vis (defScope sSeen) "wheel" := Or.inl (by decide +kernel)
theorem lSeen_1 : Loc (defScope sSeen) "turns" := Or.inl (by decide +kernel)
theorem vSeen_1 : Vis (defScope sSeen) "turns" := Or.inl (by decide +kernel)
theorem lSeen_2 : Loc (defScope sSeen) "slips" := Or.inl (by decide +kernel)
theorem vSeen_2 : Vis (defScope sSeen) "slips" := Or.inl (by decide +kernel)
section
variable {P : Program} {w : World} {K : PySem.W.Frag} {mg : Str → Option Value} {base : Heap}
def spSlT (K : PySem.W.Frag) : Sp := fun vs H Q _ => ∃ (a b : Addr) (ts : List Int) (sl : List (Int × Int)) (qs : List Addr), vs = [.ref a, .ref b] ∧ SqL K H a (ts.map V.int) ∧ ts.length ≤ 200 ∧ PrAt H b sl qs ∧ sl.length ≤ 1000 ∧ ∀ D H', Same H H' → H D = none → H' D = some (.lst ((slt ts sl).map V.int)) → Q (.ref D) H'
theorem cal_slt (D : Def K mg "slipped_turns" sSlT psSlT) (T : Txt mg) : Cal P w K mg base CX0 1 "slipped_turns" psSlT (spSlT K) := cal_mk D fun f fd F => by
  refine F.ok scSlT (fun vs H Q E h => ?_) (fun cdv A outer s H vs Q E hr h => ?_)
  · obtain ⟨a, b, ts, sl, qs, rfl, _⟩ := h
    rfl
  · obtain ⟨a, b, ts, sl, qs, rfl, hS, ht, hb, hsl, k⟩ := h
    have hlen := hb.2.length
    refine ⟨_, (@pss_one _ _ _ (@ps_ret _ _ _ _ (@pe_lc _ _ _ _ _ _ [("number", 2), ("turn", 3)] _ _ (gTup K 2 (gCons (gName 2) (gCons (gName 3) gNil))) _ _ (by rfl) scSlT.nd (@pi_enum _ _ _ _ _ _ _ _ (by rfl) T.enum (@pa_cN _ _ _ _ _ _ (@pv _ 0 _ _ (by rfl) vSlT_0 (by decide) (by decide)) (@pa_nil _)) (by rfl)) (blkOk_by (own := [("number", 2), ("turn", 3)]) (N := ["turns", "slips", "number", "turn", "k", "by"]) (sc := defScope sSlT) (by decide +kernel)) (fun _ _ _ _ _ => (@pg_tup _ _ _ _ _ _ rfl (@pgs_cons _ _ _ _ _ (@pg_name _ _ 2 _ scSlT.nd rfl (Or.inr rfl) (by first | exact .inl rfl | exact .inr rfl | assumption)) (@pgs_cons _ _ _ _ _ (@pg_name _ _ 3 _ scSlT.nd rfl (Or.inl rfl) (by first | exact .inl rfl | exact .inr rfl | assumption)) (@pgs_nil _) (by rfl)) (by rfl)) (by rfl) (by rfl))) (fun _ _ _ _ _ => (@pts_nil _)) (fun _ _ _ _ _ => (@pe_op _ _ _ _ _ _ _ _ op_add (@pv _ 3 _ _ (by rfl) (by first | exact Or.inl rfl | exact Or.inr (Or.inl rfl) | exact Or.inr (Or.inr rfl)) (by decide) (by decide)) (@pe_callB _ _ _ _ _ _ _ _ (rSum K) (cr_sum rfl) (by rfl) T.sum (by decide +kernel) (@pa_cG _ _ _ _ _ _ _ _ (@pe_lc _ _ _ _ _ _ [("k", 4), ("by", 5)] _ _ (gTup K 2 (gCons (gName 4) (gCons (gName 5) gNil))) _ _ (by rfl) scSlT.nd (@pi_listK _ K _ _ _ rfl (@pv _ 1 _ _ (by rfl) (by first | exact Or.inl rfl | exact Or.inr (Or.inl rfl) | exact Or.inr (Or.inr rfl)) (by decide) (by decide))) (blkOk_by (own := [("k", 4), ("by", 5)]) (N := ["turns", "slips", "number", "turn", "k", "by"]) (sc := _) (by kernel_rfl)) (fun _ _ _ _ _ => (@pg_tup _ _ _ _ _ _ rfl (@pgs_cons _ _ _ _ _ (@pg_name _ _ 4 _ scSlT.nd rfl (Or.inl rfl) (by first | exact .inl rfl | exact .inr rfl | assumption)) (@pgs_cons _ _ _ _ _ (@pg_name _ _ 5 _ scSlT.nd rfl (Or.inl rfl) (by first | exact .inl rfl | exact .inr rfl | assumption)) (@pgs_nil _) (by rfl)) (by rfl)) (by rfl) (by rfl))) (fun _ _ _ _ _ => (@pts_one _ _ _ (@pt_cmpR _ _ _ _ _ _ _ _ op_eq (@pv _ 4 _ _ (by rfl) (by first | exact Or.inl rfl | exact Or.inr (Or.inl rfl) | exact Or.inr (Or.inr rfl)) (by decide) (by decide)) (@pv _ 2 _ _ (by rfl) (by first | exact Or.inl rfl | exact Or.inr (Or.inl rfl) | exact Or.inr (Or.inr rfl)) (by decide) (by decide)) (nomark _)))) (fun _ _ _ _ _ => (@pv _ 5 _ _ (by rfl) (by first | exact Or.inl rfl | exact Or.inr (Or.inl rfl) | exact Or.inr (Or.inr rfl)) (by decide) (by decide))) (by intro _ ; rfl)) (@pa_nil _)) (by decide) (by decide) (by rfl) (by rfl)))) (by intro _ ; rfl)))), ?_⟩
    refine ⟨_, rfl, a, _, rfl, hS, fun D hD => lc_enumL (xs := ts.map V.int) (fun i H1 => Same H H1 ∧ H1 D = some (.lst (((slt ts sl).take i).map V.int))) ⟨Same.new hD, upd_same⟩ (fun i H1 _ h => h.1.seq hS) (fun i x T' H1 hx h hT => ?_) (fun H1 h => ?_)⟩
    · obtain ⟨s1, hD1⟩ := h
      rw [List.getElem?_map] at hx
      cases ex : ts[i]? with
      | none => rw [ex] at hx; cases hx
      | some t =>
        rw [ex] at hx
        cases hx
        have hDT : D ≠ T' := ne_of_none hD1 hT
        have sT : Same H1 (upd H1 T' (.tup [.int (i : Nat), .int t])) := Same.new hT
        have s2 := s1.trans sT
        have hD2 := sT _ _ hD1
        refine ⟨T', _, rfl, SqT.of upd_same, rfl, _, _, rfl, _, _, rfl, rfl, rfl, ?_⟩
        dsimp only [tYes]
        refine iteT ?_
        generalize upd H1 T' (.tup [.int (i : Nat), .int t]) = H2 at s2 hD2 ⊢
        refine ⟨_, rfl, _, rfl, b, rfl, ⟨_, SqL.of (s2 _ _ hb.1)⟩, fun D2 hDn => ?_⟩
        refine lc_listP (as := qs.zip sl) (vf := fun y => V.ref y.1) (fun y => decide (y.2.1 = (i : Int))) (fun y => V.int y.2.2) (by rw [zip_refsG hlen]; exact SqL.of (s2 _ _ hb.1)) hDn (by rw [List.length_zip]; exact small1000 (by omega)) ?_ ?_
        · intro y H3 hy s3 Qy Qn ky kn
          refine ⟨y.1, _, rfl, SqT.of (s3 _ _ (s2 _ _ (zip_facts hb.2 y hy))), rfl, _, _, rfl, _, _, rfl, rfl, rfl, ?_⟩
          refine ⟨_, rfl, _, rfl, rfl, _, rfl, ?_⟩
          rw [show decide (V.int y.2.1 = V.int (i : Int)) = decide (y.2.1 = (i : Int)) from decide_eq_decide.mpr ⟨V.int.inj, congrArg V.int⟩]
          cases e : decide (y.2.1 = (i : Int)) with
          | true =>
            rw [e] at ky
            exact iteT ⟨_, rfl, ky rfl _ (Same.refl _)⟩
          | false =>
            rw [e] at kn
            exact iteF (kn rfl _ (Same.refl _))
        intro H3 s3 hD3
        have e3 := zip_filter_map hlen (fun x : Int × Int => decide (x.1 = (i : Int))) (fun x : Int × Int => V.int x.2)
        rw [e3] at hD3
        refine ⟨D2, (sl.filter fun x => decide (x.1 = (i : Int))).map (·.2), rfl, (by rw [List.map_map]; exact SqL.of hD3), _, _, rfl, rfl, _, s3 _ _ hD2, ?_, ?_, ?_⟩
        · rw [List.length_map, List.length_take, slt_len]; exact small1000 (by omega)
        · exact (s2.trans s3).upd' hD
        · rw [upd_same, slt_take ex, List.map_append]; rfl
    · obtain ⟨s1, hD1⟩ := h
      rw [List.length_map, List.take_of_length_le (by rw [slt_len]; omega)] at hD1
      exact k D H1 s1 hD hD1
def spSeen (K : PySem.W.Frag) (C : Addr) : Sp := fun vs H Q E => ∃ (l : List Nat) (a b : Addr) (ts : List Int) (sl : List (Int × Int)) (qs : List Addr), vs = [.str (txt l), .ref a, .ref b] ∧ l.length ≤ 1000 ∧ SqL K H a (ts.map V.int) ∧ ts.length ≤ 200 ∧ PrAt H b sl qs ∧ sl.length ≤ 1000 ∧
  (isWh l = true → ∀ H', Same H H' → Q (.str (txt (stk l (slt ts sl)).2)) H') ∧ (isWh l = false → ∀ H', Same H H' → E (.ref C) none H')
theorem cal_seen {C : Addr} (D : Def K mg "seen" sSeen psSeen) (T : Txt mg) (CNd : Cal P w K mg base (CX1 P w) 4 "need_wheel" ["wheel"] (spNeed C)) (CSs : Cal P w K mg base CX0 1 "signs_struck" ["wheel", "turns"] (spSStr K)) (CSt : Cal P w K mg base CX0 1 "slipped_turns" ["turns", "slips"] (spSlT K)) :
    Cal P w K mg base (CX1 P w) 5 "seen" psSeen (spSeen K C) := cal_mk D fun f fd F => by
  obtain ⟨fNd, dNd, GNd, kNd, bNd, mNd⟩ := CNd
  obtain ⟨fSs, dSs, GSs, kSs, bSs, mSs⟩ := CSs
  obtain ⟨fSt, dSt, GSt, kSt, bSt, mSt⟩ := CSt
  refine F.okX scSeen (fun vs H Q E h => ?_) (fun cdv A outer s H vs Q E hr h => ?_)
  · obtain ⟨l, a, b, ts, sl, qs, rfl, _⟩ := h
    rfl
  · obtain ⟨l, a, b, ts, sl, qs, rfl, hl, hS, ht, hb, hsl, kt, kf⟩ := h
    refine ⟨_, (@pss_cons _ _ _ _ _ (@ps_expr _ _ _ _ (@pe_call _ _ _ _ _ _ _ _ _ _ _ _ _ _ _ _ GNd (hr.mono (by decide)) (by rfl) mNd kNd bNd .nil pass_up (@pa_cN _ _ _ _ _ _ (@pv _ 0 _ _ (by rfl) vSeen_0 (by decide) (by decide)) (@pa_nil _)) (by decide) (by rfl) (by rfl)) (by rfl)) (@pss_one _ _ _ (@ps_ret _ _ _ _ (@pe_call _ _ _ _ _ _ _ _ _ _ _ _ _ _ _ _ GSs (hr.mono (by decide)) (by rfl) mSs kSs bSs .nil pass0 (@pa_cN _ _ _ _ _ _ (@pv _ 0 _ _ (by rfl) vSeen_0 (by decide) (by decide)) (@pa_cK _ _ _ _ _ _ _ _ (@pe_call _ _ _ _ _ _ _ _ _ _ _ _ _ _ _ _ GSt (hr.mono (by decide)) (by rfl) mSt kSt bSt .nil pass0 (@pa_cN _ _ _ _ _ _ (@pv _ 1 _ _ (by rfl) vSeen_1 (by decide) (by decide)) (@pa_cN _ _ _ _ _ _ (@pv _ 2 _ _ (by rfl) vSeen_2 (by decide) (by decide)) (@pa_nil _))) (by decide) (by rfl) (by rfl)) (@pa_nil _))) (by decide) (by rfl) (by rfl))))), ?_⟩
    refine ⟨_, rfl, l, rfl, hl, fun hw H1 s1 => ?_, fun hw H1 s1 => kf hw H1 s1⟩
    refine ⟨_, rfl, _, rfl, _, rfl, a, b, ts, sl, qs, rfl, s1.seq hS, ht, hb.same s1, hsl, fun D H2 s2 hD hD2 => ?_⟩
    exact ⟨l, D, slt ts sl, rfl, wheel_of hw, SqL.of hD2, by rw [slt_len]; exact ht, fun H3 s3 => kt hw H3 ((s1.trans s2).trans s3)⟩
end
end W

set_option Elab.async false
set_option linter.all false
set_option maxRecDepth 100000
set_option maxHeartbeats 4000000
namespace W
open PySem L2 WM

abbrev sAsk : Stmt := top 51
abbrev psAsk : List Str := ["door", "wheel", "turns", "word"]
theorem scAsk : FnScope ["door", "wheel", "turns", "word", "kind", "e"] ["door", "wheel", "turns", "word"] (defScope sAsk) := ⟨rfl, rfl, rfl, by decide +kernel, rfl, by decide +kernel, by decide +kernel⟩
theorem leAsk : (defScope sAsk).names.lookup ("e" : Str) = some NameKind.local := by decide +kernel
theorem lAsk_0 : Loc (defScope sAsk) "door" := Or.inl (by decide +kernel)
theorem vAsk_0 : Vis (defScope sAsk) "door" := Or.inl (by decide +kernel)
theorem lAsk_1 : Loc (defScope sAsk) "wheel" := Or.inl (by decide +kernel)
theorem vAsk_1 : Vis (defScope sAsk) "wheel" := Or.inl (by decide +kernel)
theorem lAsk_2 : Loc (defScope sAsk) "turns" := Or.inl (by decide +kernel)
theorem vAsk_2 : Vis (defScope sAsk) "turns" := Or.inl (by decide +kernel)
theorem lAsk_3 : Loc (defScope sAsk) "word" := Or.inl (by decide +kernel)
theorem vAsk_3 : Vis (defScope sAsk) "word" := Or.inl (by decide +kernel)
theorem lAsk_4 : Loc (defScope sAsk) "kind" := Or.inl (by decide +kernel)
theorem vAsk_4 : Vis (defScope sAsk) "kind" := Or.inl (by decide +kernel)
theorem vAsk_5 : Vis (defScope sAsk) "e" := Or.inl (by decide +kernel)
section
variable {P : Program} {w : World} {K : PySem.W.Frag} {mg : Str → Option Value} {base : Heap}
/-- what a refusal is told as -/
def kd (n : Nat) : Str := if n = 11 then "NoWheel+" else if n = 12 then "NoWord+" else if n = 10 then "NoTurns+" else if n = 0 then "Lacks+" else ""
def kdD (d : Nat) (l : List Nat) (ts : List Int) (o : List Nat) : Str := if d = 2 then (if isWh l = false then "NoWheel+" else "") else kd (rpk l ts o)
def spAsk (K : PySem.W.Frag) : Sp := fun vs H Q _ => ∃ (d : Nat) (l : List Nat) (a : Addr) (ts : List Int) (o : List Nat), vs = [.int (d : Int), .str (txt l), .ref a, .str (txt o)] ∧ d ≤ 2 ∧ l.length ≤ 1000 ∧ SqL K H a (ts.map V.int) ∧ ts.length ≤ 200 ∧ o.length ≤ 1000 ∧ ∀ H', Same H H' → Q (.str (kdD d l ts o)) H'
theorem cal_ask {C11 C12 C10 C0 Cw : Addr} {c : Cls14} {R1 R2 : List Nat → List Int → List Nat → Hp → (V → Hp → Prop) → Prop} (i1 : ∀ l ts o H Q, (∀ v H', Same H H' → Q v H') → R1 l ts o H Q) (i2 : ∀ l ts o H Q, (∀ v H', Same H H' → Q v H') → R2 l ts o H Q)
    (D : Def K mg "_law_asked" sAsk psAsk) (T : Txt mg) (CLs : Cal P w K mg base (CX1 P w) 6 "least_slips" ["wheel", "turns", "word"] (spSD K C11 C12 C10 C0 R1)) (CMs : Cal P w K mg base (CX1 P w) 6 "many_slips" ["wheel", "turns", "word"] (spSD K C11 C12 C10 C0 R2)) (CSe : Cal P w K mg base (CX1 P w) 5 "seen" ["wheel", "turns", "slips"] (spSeen K C11)) (CKi : CalH P w K mg base 1 "_law_kind" ["e"] (spKind K c))
    (mW : mg "WheelError" = some (.ref Cw)) (ZW : CatchK K Cw) (sub11 : PySem.W.mroIn K C11 (.ref Cw) = some true) (kit11 : Kit K c C11 (bsAt 11)) (sub12 : PySem.W.mroIn K C12 (.ref Cw) = some true) (kit12 : Kit K c C12 (bsAt 12)) (sub10 : PySem.W.mroIn K C10 (.ref Cw) = some true) (kit10 : Kit K c C10 (bsAt 10)) (sub0 : PySem.W.mroIn K C0 (.ref Cw) = some true) (kit0 : Kit K c C0 (bsAt 0)) :
    Cal P w K mg base CX0 7 "_law_asked" psAsk (spAsk K) := cal_mk D fun f fd F => by
  obtain ⟨fLs, dLs, GLs, kLs, bLs, mLs⟩ := CLs
  obtain ⟨fMs, dMs, GMs, kMs, bMs, mMs⟩ := CMs
  obtain ⟨fSe, dSe, GSe, kSe, bSe, mSe⟩ := CSe
  obtain ⟨fKi, dKi, GKi, kKi, bKi, mKi⟩ := CKi
  refine F.ok scAsk (fun vs H Q E h => ?_) (fun cdv A outer s H vs Q E hr h => ?_)
  · obtain ⟨d, l, a, ts, o, rfl, _⟩ := h
    rfl
  · obtain ⟨d, l, a, ts, o, rfl, hd2, hl, hS, ht, ho, k⟩ := h
    have q11 : rpk l ts o = 11 → kd (rpk l ts o) = "NoWheel+" := fun h => by rw [h]; rfl
    have q12 : rpk l ts o = 12 → kd (rpk l ts o) = "NoWord+" := fun h => by rw [h]; rfl
    have q10 : rpk l ts o = 10 → kd (rpk l ts o) = "NoTurns+" := fun h => by rw [h]; rfl
    have q0 : rpk l ts o = 0 → kd (rpk l ts o) = "Lacks+" := fun h => by rw [h]; rfl
    have q99 : rpk l ts o = 99 → kd (rpk l ts o) = "" := fun h => by rw [h]; rfl
    refine ⟨_, (@pss_cons _ _ _ _ _ (@ps_set _ _ 4 _ _ _ _ scAsk.nd rfl lAsk_4 (@pe_str _ _ _ _) (by rfl) (by first | exact .inl rfl | exact .inr rfl | assumption)) (@pss_cons _ _ _ _ _ (@ps_cut _ _ _ (@ps_try _ _ _ _ _ _ _ _ _ _ Cw 5 _ rfl rfl (@pxs_one _ _ _ (@px_if _ _ _ _ _ _ _ _ (@pt_cmpR _ _ _ _ _ _ _ _ op_eq (@pv _ 0 _ _ (by rfl) vAsk_0 (by decide) (by decide)) (@pe_int _ _ _ _) (nomark _)) (@pxs_one _ _ _ (@px_expr _ _ _ _ (@pex_call _ _ _ _ _ _ _ _ _ _ _ _ GLs (hr.mono (by decide)) (by rfl) mLs kLs bLs rfl (@pa_cN _ _ _ _ _ _ (@pv _ 1 _ _ (by rfl) vAsk_1 (by decide) (by decide)) (@pa_cN _ _ _ _ _ _ (@pv _ 2 _ _ (by rfl) vAsk_2 (by decide) (by decide)) (@pa_cN _ _ _ _ _ _ (@pv _ 3 _ _ (by rfl) vAsk_3 (by decide) (by decide)) (@pa_nil _)))) (by decide) (by rfl) (by rfl)) (by rfl))) (@pxs_one _ _ _ (@px_if _ _ _ _ _ _ _ _ (@pt_cmpR _ _ _ _ _ _ _ _ op_eq (@pv _ 0 _ _ (by rfl) vAsk_0 (by decide) (by decide)) (@pe_int _ _ _ _) (nomark _)) (@pxs_one _ _ _ (@px_expr _ _ _ _ (@pex_call _ _ _ _ _ _ _ _ _ _ _ _ GMs (hr.mono (by decide)) (by rfl) mMs kMs bMs rfl (@pa_cN _ _ _ _ _ _ (@pv _ 1 _ _ (by rfl) vAsk_1 (by decide) (by decide)) (@pa_cN _ _ _ _ _ _ (@pv _ 2 _ _ (by rfl) vAsk_2 (by decide) (by decide)) (@pa_cN _ _ _ _ _ _ (@pv _ 3 _ _ (by rfl) vAsk_3 (by decide) (by decide)) (@pa_nil _)))) (by decide) (by rfl) (by rfl)) (by rfl))) (@pxs_one _ _ _ (@px_expr _ _ _ _ (@pex_call _ _ _ _ _ _ _ _ _ _ _ _ GSe (hr.mono (by decide)) (by rfl) mSe kSe bSe rfl (@pa_cN _ _ _ _ _ _ (@pv _ 1 _ _ (by rfl) vAsk_1 (by decide) (by decide)) (@pa_cN _ _ _ _ _ _ (@pv _ 2 _ _ (by rfl) vAsk_2 (by decide) (by decide)) (@pa_cL _ _ _ _ _ _ (@pe_lst _ _ _ _ (@pa_nil _)) (@pa_nil _)))) (by decide) (by rfl) (by rfl)) (by rfl))))))) (by rfl) mW ZW scAsk.nd rfl leAsk (fun x C' ox vs h1 h2 h3 h4 => (@pss_one _ _ _ (@ps_set _ _ 4 _ _ _ _ scAsk.nd rfl lAsk_4 (@pe_callH _ x C' ox vs _ _ _ _ _ _ _ _ _ _ _ GKi (Room.mark hr (by decide)) List.mem_cons_self rfl h1 h2 h3 h4 (by rfl) mKi kKi bKi (@pa_cons _ _ _ _ _ (@pv _ 5 _ _ (by rfl) vAsk_5 (by decide) (by decide)) (@pa_nil _) (by rfl)) (by decide) (by rfl) (by rfl)) (by rfl) (by first | exact .inl rfl | exact .inr rfl | assumption)))) (by decide))) (@pss_one _ _ _ (@ps_ret _ _ _ _ (@pv _ 4 _ _ (by rfl) vAsk_4 (by decide) (by decide)))))), ?_⟩
    refine ⟨fun σ H' => ∃ o5 : Option V, σ = [some (.int (d : Int)), some (.str (txt l)), some (.ref a), some (.str (txt o)), some (.str (kdD d l ts o)), o5] ∧ Same H H', ?_, ?_⟩
    rotate_left
    · rintro σ H' ⟨o5, rfl, s'⟩
      exact ⟨_, rfl, k H' s'⟩
    have e01 : ∀ d, d ≠ 2 → kdD d l ts o = kd (rpk l ts o) := fun d h => if_neg h
    refine ⟨_, rfl, rfl, _, rfl, ?_⟩
    by_cases h0 : d = 0
    · subst h0
      refine iteT ?_
      refine ⟨_, rfl, _, rfl, _, rfl, l, a, ts, o, rfl, hl, hS, by omega, ho, fun h => i1 _ _ _ _ _ fun v H1 s1 => ?_, fun h H1 s1 => ?_, fun h H1 s1 => ?_, fun h H1 s1 => ?_, fun h H1 s1 => ?_⟩
      · exact ⟨none, by rw [e01 _ (by decide), q99 h]; rfl, s1⟩
      · refine ⟨C11, rfl, sub11, fun x hx => ⟨_, rfl, bsAt 11, rfl, kit11, by decide +kernel, fun H2 s2 => ?_⟩⟩
        rw [kind_11]
        exact ⟨none, by rw [e01 _ (by decide), q11 h]; rfl, (s1.trans s2)⟩
      · refine ⟨C12, rfl, sub12, fun x hx => ⟨_, rfl, bsAt 12, rfl, kit12, by decide +kernel, fun H2 s2 => ?_⟩⟩
        rw [kind_12]
        exact ⟨none, by rw [e01 _ (by decide), q12 h]; rfl, (s1.trans s2)⟩
      · refine ⟨C10, rfl, sub10, fun x hx => ⟨_, rfl, bsAt 10, rfl, kit10, by decide +kernel, fun H2 s2 => ?_⟩⟩
        rw [kind_10]
        exact ⟨none, by rw [e01 _ (by decide), q10 h]; rfl, (s1.trans s2)⟩
      · refine ⟨C0, rfl, sub0, fun x hx => ⟨_, rfl, bsAt 0, rfl, kit0, by decide +kernel, fun H2 s2 => ?_⟩⟩
        rw [kind_0]
        exact ⟨none, by rw [e01 _ (by decide), q0 h]; rfl, (s1.trans s2)⟩
    rw [decide_eq_false (show ¬ V.int (d : Int) = V.int 0 from fun e => h0 (by have := V.int.inj e; omega))]
    refine iteF ?_
    refine ⟨_, rfl, rfl, _, rfl, ?_⟩
    by_cases h1 : d = 1
    · subst h1
      refine iteT ?_
      refine ⟨_, rfl, _, rfl, _, rfl, l, a, ts, o, rfl, hl, hS, by omega, ho, fun h => i2 _ _ _ _ _ fun v H1 s1 => ?_, fun h H1 s1 => ?_, fun h H1 s1 => ?_, fun h H1 s1 => ?_, fun h H1 s1 => ?_⟩
      · exact ⟨none, by rw [e01 _ (by decide), q99 h]; rfl, s1⟩
      · refine ⟨C11, rfl, sub11, fun x hx => ⟨_, rfl, bsAt 11, rfl, kit11, by decide +kernel, fun H2 s2 => ?_⟩⟩
        rw [kind_11]
        exact ⟨none, by rw [e01 _ (by decide), q11 h]; rfl, (s1.trans s2)⟩
      · refine ⟨C12, rfl, sub12, fun x hx => ⟨_, rfl, bsAt 12, rfl, kit12, by decide +kernel, fun H2 s2 => ?_⟩⟩
        rw [kind_12]
        exact ⟨none, by rw [e01 _ (by decide), q12 h]; rfl, (s1.trans s2)⟩
      · refine ⟨C10, rfl, sub10, fun x hx => ⟨_, rfl, bsAt 10, rfl, kit10, by decide +kernel, fun H2 s2 => ?_⟩⟩
        rw [kind_10]
        exact ⟨none, by rw [e01 _ (by decide), q10 h]; rfl, (s1.trans s2)⟩
      · refine ⟨C0, rfl, sub0, fun x hx => ⟨_, rfl, bsAt 0, rfl, kit0, by decide +kernel, fun H2 s2 => ?_⟩⟩
        rw [kind_0]
        exact ⟨none, by rw [e01 _ (by decide), q0 h]; rfl, (s1.trans s2)⟩
    rw [decide_eq_false (show ¬ V.int (d : Int) = V.int 1 from fun e => h1 (by have := V.int.inj e; omega))]
    refine iteF ?_
    have hd : d = 2 := by omega
    subst hd
    refine ⟨_, rfl, _, rfl, (by show 0 ≤ sizeLine; decide), fun L hL => ?_⟩
    have sL := Same.new (o := .lst []) hL
    refine ⟨l, a, L, ts, [], [], rfl, hl, sL.seq hS, ht, ⟨upd_same, .nil⟩, by decide, fun h H1 s1 => ?_, fun h H1 s1 => ?_⟩
    · exact ⟨none, by rw [show kdD 2 l ts o = "" from by unfold kdD; rw [if_pos rfl, if_neg (by rw [h]; decide)]]; rfl, sL.trans s1⟩
    · refine ⟨C11, rfl, sub11, fun x hx => ⟨_, rfl, bsAt 11, rfl, kit11, by decide +kernel, fun H2 s2 => ?_⟩⟩
      rw [kind_11]
      exact ⟨none, by rw [show kdD 2 l ts o = "NoWheel+" from by unfold kdD; rw [if_pos rfl, if_pos h]]; rfl, sL.trans (s1.trans s2)⟩
end
end W

set_option Elab.async false
set_option linter.all false
set_option maxRecDepth 100000
set_option maxHeartbeats 4000000
namespace W
open PySem L2 WM

abbrev sLaw : Stmt := top 52
abbrev psLaw : List Str := ["script"]
theorem scLaw : FnScope ["script", "k", "draws", "j", "spoils", "wheel", "word", "sign", "turns", "at", "due", "bad", "handed", "door", "told"] ["script"] (defScope sLaw) := ⟨rfl, rfl, rfl, by decide +kernel, rfl, by decide +kernel, by decide +kernel⟩
theorem lLaw_0 : Loc (defScope sLaw) "script" := Or.inl (by decide +kernel)
theorem vLaw_0 : Vis (defScope sLaw) "script" := Or.inl (by decide +kernel)
theorem lLaw_1 : Loc (defScope sLaw) "k" := Or.inl (by decide +kernel)
theorem vLaw_1 : Vis (defScope sLaw) "k" := Or.inl (by decide +kernel)
theorem lLaw_2 : Loc (defScope sLaw) "draws" := Or.inr (by decide +kernel)
theorem vLaw_2 : Vis (defScope sLaw) "draws" := Or.inr (Or.inl (by decide +kernel))
theorem lLaw_4 : Loc (defScope sLaw) "spoils" := Or.inl (by decide +kernel)
theorem vLaw_4 : Vis (defScope sLaw) "spoils" := Or.inl (by decide +kernel)
theorem lLaw_5 : Loc (defScope sLaw) "wheel" := Or.inr (by decide +kernel)
theorem vLaw_5 : Vis (defScope sLaw) "wheel" := Or.inr (Or.inl (by decide +kernel))
theorem lLaw_6 : Loc (defScope sLaw) "word" := Or.inr (by decide +kernel)
theorem vLaw_6 : Vis (defScope sLaw) "word" := Or.inr (Or.inl (by decide +kernel))
theorem lLaw_8 : Loc (defScope sLaw) "turns" := Or.inl (by decide +kernel)
theorem vLaw_8 : Vis (defScope sLaw) "turns" := Or.inl (by decide +kernel)
theorem lLaw_9 : Loc (defScope sLaw) "at" := Or.inl (by decide +kernel)
theorem vLaw_9 : Vis (defScope sLaw) "at" := Or.inl (by decide +kernel)
theorem lLaw_10 : Loc (defScope sLaw) "due" := Or.inl (by decide +kernel)
theorem vLaw_10 : Vis (defScope sLaw) "due" := Or.inl (by decide +kernel)
theorem lLaw_11 : Loc (defScope sLaw) "bad" := Or.inl (by decide +kernel)
theorem vLaw_11 : Vis (defScope sLaw) "bad" := Or.inl (by decide +kernel)
theorem lLaw_12 : Loc (defScope sLaw) "handed" := Or.inr (by decide +kernel)
theorem vLaw_12 : Vis (defScope sLaw) "handed" := Or.inr (Or.inl (by decide +kernel))
theorem lLaw_14 : Loc (defScope sLaw) "told" := Or.inl (by decide +kernel)
theorem vLaw_14 : Vis (defScope sLaw) "told" := Or.inl (by decide +kernel)
section
variable {P : Program} {w : World} {K : PySem.W.Frag} {mg : Str → Option Value} {base : Heap}
theorem bools4 {ys : List V} (h : ys.length = 4) (hb : ∀ y ∈ ys, ∃ b : Bool, y = .bl b) : ∃ b0 b1 b2 b3 : Bool, ys = [.bl b0, .bl b1, .bl b2, .bl b3] := by
  match ys, h with
  | [y0, y1, y2, y3], _ =>
    obtain ⟨b0, rfl⟩ := hb y0 (by simp)
    obtain ⟨b1, rfl⟩ := hb y1 (by simp)
    obtain ⟨b2, rfl⟩ := hb y2 (by simp)
    obtain ⟨b3, rfl⟩ := hb y3 (by simp)
    exact ⟨_, _, _, _, rfl⟩
def spLaw (K : PySem.W.Frag) : Sp := fun vs H Q _ => ∃ (a : Addr) (ns : List Int), vs = [.ref a] ∧ SqL K H a (ns.map V.int) ∧ ns.length ≤ 63 ∧ ∀ H', Q (.bl true) H'
/-- what is due, one behind the other -/
def du0 (l o : List Nat) : Str := if o.all (fun c => decide (c ∈ l)) = false then "Lacks+" else ""
def du1 (l : List Nat) (ts : List Int) (o : List Nat) : Str := if ts.length ≠ o.length then "NoTurns+" else du0 l o
def du2 (l : List Nat) (ts : List Int) (o : List Nat) : Str := if isW o = false then "NoWord+" else du1 l ts o
theorem du_kd (l : List Nat) (ts : List Int) (o : List Nat) : kd (rpk l ts o) = if isWh l = false then ("NoWheel+" : Str) else du2 l ts o := by
  unfold rpk du2 du1 du0
  split
  · rfl
  split
  · rfl
  split
  · rfl
  split <;> rfl
theorem ifQ {d e : PyData} {A B : Prop} (h : PyData.eqv d e = true) (hb : B) : if (!PyData.eqv d e) = true then A else B := by
  rw [h]
  exact hb
theorem cutV_from1 (ts : List Int) : cutV (ts.map V.int) (some 1) none = (ts.drop 1).map V.int := by
  cases ts with
  | nil => rfl
  | cons t ts =>
    have := cutV_from ((t :: ts).map V.int) (k := 1) (by rw [List.length_map]; exact Nat.le_add_left 1 _)
    rw [List.map_drop]
    exact this
theorem ok_law {f : Addr} {fd : FuncData} (F : Fun K "law" "law" sLaw f fd) (T : Txt mg) (CDs : Cal P w K mg base CX0 1 "_law_draws" ["script", "k"] (spDraws K)) (CDw : Cal P w K mg base CX0 1 "_law_draw" ["draws", "many"] spDraw)
    (CLe : Cal P w K mg base CX0 2 "_law_letters" ["draws", "many", "kinds"] spLetters) (CLW : Cal P w K mg base CX0 3 "_law_wheel" ["draws", "most"] spLWheel) (CLw : Cal P w K mg base CX0 2 "_law_word" ["draws", "wheel", "most"] spLWord) (CBe : Cal P w K mg base CX0 2 "_law_bent" ["text", "draws"] spBent)
    (CIw : Cal P w K mg base CX0 1 "_law_is_word" ["text"] spLIsWord) (CAs : Cal P w K mg base CX0 7 "_law_asked" ["door", "wheel", "turns", "word"] (spAsk K)) :
    FnOk P w K mg base CX0 8 f fd ["script"] (spLaw K) := by
  obtain ⟨fDs, dDs, GDs, kDs, bDs, mDs⟩ := CDs
  obtain ⟨fDw, dDw, GDw, kDw, bDw, mDw⟩ := CDw
  obtain ⟨fLe, dLe, GLe, kLe, bLe, mLe⟩ := CLe
  obtain ⟨fLW, dLW, GLW, kLW, bLW, mLW⟩ := CLW
  obtain ⟨fLw, dLw, GLw, kLw, bLw, mLw⟩ := CLw
  obtain ⟨fBe, dBe, GBe, kBe, bBe, mBe⟩ := CBe
  obtain ⟨fIw, dIw, GIw, kIw, bIw, mIw⟩ := CIw
  obtain ⟨fAs, dAs, GAs, kAs, bAs, mAs⟩ := CAs
  refine F.ok scLaw (fun vs H Q E h => ?_) (fun cdv A outer s H vs Q E hr h => ?_)
  · obtain ⟨a, ns, rfl, _⟩ := h
    rfl
  · obtain ⟨a, ns, rfl, hS, hlen, k⟩ := h
    refine ⟨_, (@pss_cons _ _ _ _ _ (@ps_for _ _ _ _ _ _ _ _ PassesOwn.never rfl (@pi_range1 _ _ _ _ _ _ (by rfl) T.range (@pa_cK _ _ _ _ _ _ _ _ (@pe_callB _ _ _ _ _ _ _ _ _ (call_max2 rfl) (by rfl) T.max (by decide +kernel) (@pa_cC _ _ _ _ _ _ _ (@pe_int _ _ _ _) (@pa_cK _ _ _ _ _ _ _ _ (@pe_callB _ _ _ _ _ _ _ _ _ (call_min2 rfl) (by rfl) T.min (by decide +kernel) (@pa_cC _ _ _ _ _ _ _ (@pe_int _ _ _ _) (@pa_cK _ _ _ _ _ _ _ _ (@pe_callB _ _ _ _ _ _ _ _ _ call_len_seq (by rfl) T.len PySem.boot_len (@pa_cN _ _ _ _ _ _ (@pv _ 0 _ _ (by rfl) vLaw_0 (by decide) (by decide)) (@pa_nil _)) (by decide) (by decide) (by rfl) (by rfl)) (@pa_nil _))) (by decide) (by decide) (by rfl) (by rfl)) (@pa_nil _))) (by decide) (by decide) (by rfl) (by rfl)) (@pa_nil _)) (by rfl)) (@pg_name _ _ 1 _ scLaw.nd rfl lLaw_1 (by first | exact .inl rfl | exact .inr rfl | assumption)) (@pss_cons _ _ _ _ _ (@ps_set _ _ 2 _ _ _ _ scLaw.nd rfl lLaw_2 (@pe_call _ _ _ _ _ _ _ _ _ _ _ _ _ _ _ _ GDs (hr.mono (by decide)) (by rfl) mDs kDs bDs .nil pass0 (@pa_cN _ _ _ _ _ _ (@pv _ 0 _ _ (by rfl) vLaw_0 (by decide) (by decide)) (@pa_cN _ _ _ _ _ _ (@pv _ 1 _ _ (by rfl) vLaw_1 (by decide) (by decide)) (@pa_nil _))) (by decide) (by rfl) (by rfl)) (by rfl) (by first | exact .inl rfl | exact .inr rfl | assumption)) (@pss_cons _ _ _ _ _ (@ps_setLc _ 4 _ _ _ _ _ _ _ [("j", 3)] _ _ _ (gName 3) _ _ (by rfl) scLaw.nd rfl rfl (sw_true rfl rfl rfl (by decide +kernel)) (@pi_range1 _ _ _ _ _ _ (by rfl) T.range (@pa_cC _ _ _ _ _ _ _ (@pe_int _ _ _ _) (@pa_nil _)) (by rfl)) (blkOk_by (own := [("j", 3)]) (N := ["script", "k", "draws", "j", "spoils", "wheel", "word", "sign", "turns", "at", "due", "bad", "handed", "door", "told"]) (sc := defScope sLaw) (by decide +kernel)) (fun _ _ _ _ _ => (@pg_name _ _ 3 _ scLaw.nd rfl (Or.inl rfl) (by first | exact .inl rfl | exact .inr rfl | assumption))) (fun _ _ _ _ _ => (@pts_nil _)) (fun _ _ _ _ _ => (@pe_cmpR _ _ _ _ _ _ _ _ op_eq (@pe_call _ _ _ _ _ _ _ _ _ _ _ _ _ _ _ _ GDw (hr.mono (by decide)) (by rfl) mDw kDw bDw .nil pass0 (@pa_cN _ _ _ _ _ _ (@pv _ 2 _ _ (by rfl) (by first | exact Or.inl rfl | exact Or.inr (Or.inl rfl) | exact Or.inr (Or.inr rfl)) (by decide) (by decide)) (@pa_cC _ _ _ _ _ _ _ (@pe_int _ _ _ _) (@pa_nil _))) (by decide) (by rfl) (by rfl)) (@pe_int _ _ _ _) (nomark _))) (by intro _ ; rfl)) (@pss_cons _ _ _ _ _ (@ps_set _ _ 5 _ _ _ _ scLaw.nd rfl lLaw_5 (@pe_call _ _ _ _ _ _ _ _ _ _ _ _ _ _ _ _ GLW (hr.mono (by decide)) (by rfl) mLW kLW bLW .nil pass0 (@pa_cN _ _ _ _ _ _ (@pv _ 2 _ _ (by rfl) vLaw_2 (by decide) (by decide)) (@pa_cC _ _ _ _ _ _ _ (@pe_int _ _ _ _) (@pa_nil _))) (by decide) (by rfl) (by rfl)) (by rfl) (by first | exact .inl rfl | exact .inr rfl | assumption)) (@pss_cons _ _ _ _ _ (@ps_set _ _ 6 _ _ _ _ scLaw.nd rfl lLaw_6 (@pe_call _ _ _ _ _ _ _ _ _ _ _ _ _ _ _ _ GLw (hr.mono (by decide)) (by rfl) mLw kLw bLw .nil pass0 (@pa_cN _ _ _ _ _ _ (@pv _ 2 _ _ (by rfl) vLaw_2 (by decide) (by decide)) (@pa_cN _ _ _ _ _ _ (@pv _ 5 _ _ (by rfl) vLaw_5 (by decide) (by decide)) (@pa_cC _ _ _ _ _ _ _ (@pe_int _ _ _ _) (@pa_nil _)))) (by decide) (by rfl) (by rfl)) (by rfl) (by first | exact .inl rfl | exact .inr rfl | assumption)) (@pss_cons _ _ _ _ _ (@ps_setLc _ 8 _ _ _ _ _ _ _ [("sign", 7)] _ _ _ (gName 7) _ _ (by rfl) scLaw.nd rfl rfl (sw_true rfl rfl rfl (by decide +kernel)) (@pi_str _ _ _ _ (@pv _ 6 _ _ (by rfl) vLaw_6 (by decide) (by decide))) (blkOk_by (own := [("sign", 7)]) (N := ["script", "k", "draws", "j", "spoils", "wheel", "word", "sign", "turns", "at", "due", "bad", "handed", "door", "told"]) (sc := defScope sLaw) (by decide +kernel)) (fun _ _ _ _ _ => (@pg_name _ _ 7 _ scLaw.nd rfl (Or.inl rfl) (by first | exact .inl rfl | exact .inr rfl | assumption))) (fun _ _ _ _ _ => (@pts_nil _)) (fun _ _ _ _ _ => (@pe_op _ _ _ _ _ _ _ _ op_sub (@pe_call _ _ _ _ _ _ _ _ _ _ _ _ _ _ _ _ GDw (hr.mono (by decide)) (by rfl) mDw kDw bDw .nil pass0 (@pa_cN _ _ _ _ _ _ (@pv _ 2 _ _ (by rfl) (by first | exact Or.inl rfl | exact Or.inr (Or.inl rfl) | exact Or.inr (Or.inr rfl)) (by decide) (by decide)) (@pa_cC _ _ _ _ _ _ _ (@pe_int _ _ _ _) (@pa_nil _))) (by decide) (by rfl) (by rfl)) (@pe_int _ _ _ _))) (by intro _ ; rfl)) (@pss_cons _ _ _ _ _ (@ps_cut _ _ _ (@ps_if _ _ _ _ _ _ _ _ (@pt_val _ _ _ (@pe_ix _ _ _ _ _ _ _ ix_list (@pv _ 4 _ _ (by rfl) vLaw_4 (by decide) (by decide)) (@pe_int _ _ _ _) (fun _ _ => rfl)) (by intro _ ; rfl)) (@pss_one _ _ _ (@ps_set _ _ 5 _ _ _ _ scLaw.nd rfl lLaw_5 (@pe_ix _ _ _ _ _ _ _ ix_list (@pe_lst _ _ _ _ (@pa_cC _ _ _ _ _ _ _ (@pe_str _ _ _ _) (@pa_cS _ _ _ _ _ _ _ (@pe_slice _ _ _ _ _ _ _ _ _ _ sl_str (@pe_op _ _ _ _ _ _ _ _ op_mul_str (@pv _ 5 _ _ (by rfl) vLaw_5 (by decide) (by decide)) (@pe_int _ _ _ _)) (@po_none _) (@po_some _ _ _ (@pe_int _ _ _ _))) (@pa_cK _ _ _ _ _ _ _ _ (@pe_call _ _ _ _ _ _ _ _ _ _ _ _ _ _ _ _ GBe (hr.mono (by decide)) (by rfl) mBe kBe bBe .nil pass0 (@pa_cN _ _ _ _ _ _ (@pv _ 5 _ _ (by rfl) vLaw_5 (by decide) (by decide)) (@pa_cN _ _ _ _ _ _ (@pv _ 2 _ _ (by rfl) vLaw_2 (by decide) (by decide)) (@pa_nil _))) (by decide) (by rfl) (by rfl)) (@pa_cK _ _ _ _ _ _ _ _ (@pe_call _ _ _ _ _ _ _ _ _ _ _ _ _ _ _ _ GBe (hr.mono (by decide)) (by rfl) mBe kBe bBe .nil pass0 (@pa_cN _ _ _ _ _ _ (@pv _ 5 _ _ (by rfl) vLaw_5 (by decide) (by decide)) (@pa_cN _ _ _ _ _ _ (@pv _ 2 _ _ (by rfl) vLaw_2 (by decide) (by decide)) (@pa_nil _))) (by decide) (by rfl) (by rfl)) (@pa_nil _)))))) (@pe_call _ _ _ _ _ _ _ _ _ _ _ _ _ _ _ _ GDw (hr.mono (by decide)) (by rfl) mDw kDw bDw .nil pass0 (@pa_cN _ _ _ _ _ _ (@pv _ 2 _ _ (by rfl) vLaw_2 (by decide) (by decide)) (@pa_cC _ _ _ _ _ _ _ (@pe_int _ _ _ _) (@pa_nil _))) (by decide) (by rfl) (by rfl)) (fun _ _ => rfl)) (by rfl) (by first | exact .inl rfl | exact .inr rfl | assumption))) (@pss_nil _))) (@pss_cons _ _ _ _ _ (@ps_cut _ _ _ (@ps_if _ _ _ _ _ _ _ _ (@pt_val _ _ _ (@pe_ix _ _ _ _ _ _ _ ix_list (@pv _ 4 _ _ (by rfl) vLaw_4 (by decide) (by decide)) (@pe_int _ _ _ _) (fun _ _ => rfl)) (by intro _ ; rfl)) (@pss_one _ _ _ (@ps_set _ _ 6 _ _ _ _ scLaw.nd rfl lLaw_6 (@pe_ix _ _ _ _ _ _ _ ix_list (@pe_lst _ _ _ _ (@pa_cS _ _ _ _ _ _ _ (@pe_slice _ _ _ _ _ _ _ _ _ _ sl_str (@pe_op _ _ _ _ _ _ _ _ op_add_str (@pv _ 6 _ _ (by rfl) vLaw_6 (by decide) (by decide)) (@pe_op _ _ _ _ _ _ _ _ op_mul_str (@pe_str _ _ _ _) (@pe_int _ _ _ _))) (@po_none _) (@po_some _ _ _ (@pe_int _ _ _ _))) (@pa_cK _ _ _ _ _ _ _ _ (@pe_call _ _ _ _ _ _ _ _ _ _ _ _ _ _ _ _ GBe (hr.mono (by decide)) (by rfl) mBe kBe bBe .nil pass0 (@pa_cN _ _ _ _ _ _ (@pv _ 6 _ _ (by rfl) vLaw_6 (by decide) (by decide)) (@pa_cN _ _ _ _ _ _ (@pv _ 2 _ _ (by rfl) vLaw_2 (by decide) (by decide)) (@pa_nil _))) (by decide) (by rfl) (by rfl)) (@pa_cK _ _ _ _ _ _ _ _ (@pe_call _ _ _ _ _ _ _ _ _ _ _ _ _ _ _ _ GBe (hr.mono (by decide)) (by rfl) mBe kBe bBe .nil pass0 (@pa_cN _ _ _ _ _ _ (@pv _ 6 _ _ (by rfl) vLaw_6 (by decide) (by decide)) (@pa_cN _ _ _ _ _ _ (@pv _ 2 _ _ (by rfl) vLaw_2 (by decide) (by decide)) (@pa_nil _))) (by decide) (by rfl) (by rfl)) (@pa_nil _))))) (@pe_call _ _ _ _ _ _ _ _ _ _ _ _ _ _ _ _ GDw (hr.mono (by decide)) (by rfl) mDw kDw bDw .nil pass0 (@pa_cN _ _ _ _ _ _ (@pv _ 2 _ _ (by rfl) vLaw_2 (by decide) (by decide)) (@pa_cC _ _ _ _ _ _ _ (@pe_int _ _ _ _) (@pa_nil _))) (by decide) (by rfl) (by rfl)) (fun _ _ => rfl)) (by rfl) (by first | exact .inl rfl | exact .inr rfl | assumption))) (@pss_nil _))) (@pss_cons _ _ _ _ _ (@ps_cut _ _ _ (@ps_if _ _ _ _ _ _ _ _ (@pt_val _ _ _ (@pe_ix _ _ _ _ _ _ _ ix_list (@pv _ 4 _ _ (by rfl) vLaw_4 (by decide) (by decide)) (@pe_int _ _ _ _) (fun _ _ => rfl)) (by intro _ ; rfl)) (@pss_one _ _ _ (@ps_set _ _ 8 _ _ _ _ scLaw.nd rfl lLaw_8 (@pe_ix _ _ _ _ _ _ _ ix_list (@pe_lst _ _ _ _ (@pa_cB _ _ _ _ _ _ _ _ (@pe_op _ _ _ _ _ _ _ _ op_cat (@pv _ 8 _ _ (by rfl) vLaw_8 (by decide) (by decide)) (@pe_lst _ _ _ _ (@pa_cC _ _ _ _ _ _ _ (@pe_int _ _ _ _) (@pa_nil _)))) (@pa_cS _ _ _ _ _ _ _ (@pe_slice _ _ _ _ _ _ _ _ _ _ sl_list (@pv _ 8 _ _ (by rfl) vLaw_8 (by decide) (by decide)) (@po_some _ _ _ (@pe_int _ _ _ _)) (@po_none _)) (@pa_cL _ _ _ _ _ _ (@pe_lst _ _ _ _ (@pa_nil _)) (@pa_nil _))))) (@pe_call _ _ _ _ _ _ _ _ _ _ _ _ _ _ _ _ GDw (hr.mono (by decide)) (by rfl) mDw kDw bDw .nil pass0 (@pa_cN _ _ _ _ _ _ (@pv _ 2 _ _ (by rfl) vLaw_2 (by decide) (by decide)) (@pa_cC _ _ _ _ _ _ _ (@pe_int _ _ _ _) (@pa_nil _))) (by decide) (by rfl) (by rfl)) (fun _ _ => rfl)) (by rfl) (by first | exact .inl rfl | exact .inr rfl | assumption))) (@pss_nil _))) (@pss_cons _ _ _ _ _ (@ps_cut _ _ _ (@ps_if _ _ _ _ _ _ _ _ (@PW.pt _ _ _ (@pw_and _ _ _ _ _ _ _ (@pt_val _ _ _ (@pe_ix _ _ _ _ _ _ _ ix_list (@pv _ 4 _ _ (by rfl) vLaw_4 (by decide) (by decide)) (@pe_int _ _ _ _) (fun _ _ => rfl)) (by intro _ ; rfl)) (@pw_and1 _ _ _ _ (@pt_cmpR _ _ _ _ _ _ _ _ op_ne (@pv _ 6 _ _ (by rfl) vLaw_6 (by decide) (by decide)) (@pe_str _ _ _ _) (nomark _))))) (@pss_cons _ _ _ _ _ (@ps_set _ _ 9 _ _ _ _ scLaw.nd rfl lLaw_9 (@pe_call _ _ _ _ _ _ _ _ _ _ _ _ _ _ _ _ GDw (hr.mono (by decide)) (by rfl) mDw kDw bDw .nil pass0 (@pa_cN _ _ _ _ _ _ (@pv _ 2 _ _ (by rfl) vLaw_2 (by decide) (by decide)) (@pa_cK _ _ _ _ _ _ _ _ (@pe_callB _ _ _ _ _ _ _ _ _ call_len_str (by rfl) T.len PySem.boot_len (@pa_cN _ _ _ _ _ _ (@pv _ 6 _ _ (by rfl) vLaw_6 (by decide) (by decide)) (@pa_nil _)) (by decide) (by decide) (by rfl) (by rfl)) (@pa_nil _))) (by decide) (by rfl) (by rfl)) (by rfl) (by first | exact .inl rfl | exact .inr rfl | assumption)) (@pss_one _ _ _ (@ps_set _ _ 6 _ _ _ _ scLaw.nd rfl lLaw_6 (@pe_op _ _ _ _ _ _ _ _ op_add_str (@pe_op _ _ _ _ _ _ _ _ op_add_str (@pe_slice _ _ _ _ _ _ _ _ _ _ sl_str (@pv _ 6 _ _ (by rfl) vLaw_6 (by decide) (by decide)) (@po_none _) (@po_some _ _ _ (@pv _ 9 _ _ (by rfl) vLaw_9 (by decide) (by decide)))) (@pe_call _ _ _ _ _ _ _ _ _ _ _ _ _ _ _ _ GLe (hr.mono (by decide)) (by rfl) mLe kLe bLe .nil pass0 (@pa_cN _ _ _ _ _ _ (@pv _ 2 _ _ (by rfl) vLaw_2 (by decide) (by decide)) (@pa_cC _ _ _ _ _ _ _ (@pe_int _ _ _ _) (@pa_cC _ _ _ _ _ _ _ (@pe_int _ _ _ _) (@pa_nil _)))) (by decide) (by rfl) (by rfl))) (@pe_slice _ _ _ _ _ _ _ _ _ _ sl_str (@pv _ 6 _ _ (by rfl) vLaw_6 (by decide) (by decide)) (@po_some _ _ _ (@pe_op _ _ _ _ _ _ _ _ op_add (@pv _ 9 _ _ (by rfl) vLaw_9 (by decide) (by decide)) (@pe_int _ _ _ _))) (@po_none _))) (by rfl) (by first | exact .inl rfl | exact .inr rfl | assumption)))) (@pss_nil _))) (@pss_cons _ _ _ _ _ (@ps_cut _ _ _ (@ps_set _ _ 10 _ _ _ _ scLaw.nd rfl lLaw_10 (@pe_ix _ _ _ _ _ _ _ ix_list (@pe_lst _ _ _ _ (@pa_cC _ _ _ _ _ _ _ (@pe_str _ _ _ _) (@pa_cC _ _ _ _ _ _ _ (@pe_str _ _ _ _) (@pa_nil _)))) (@pe_callTy _ _ _ _ _ _ _ _ _ call_int1 (by rfl) T.int (by decide +kernel) (@pa_cQ _ _ _ _ _ _ _ _ (@pe_cmpR _ _ _ _ _ _ _ _ (op_neD hr.units) (@pe_lc _ _ _ _ _ _ [("sign", 7)] _ _ (gName 7) _ _ (by rfl) scLaw.nd (@pi_str _ _ _ _ (@pv _ 6 _ _ (by rfl) vLaw_6 (by decide) (by decide))) (blkOk_by (own := [("sign", 7)]) (N := ["script", "k", "draws", "j", "spoils", "wheel", "word", "sign", "turns", "at", "due", "bad", "handed", "door", "told"]) (sc := defScope sLaw) (by decide +kernel)) (fun _ _ _ _ _ => (@pg_name _ _ 7 _ scLaw.nd rfl (Or.inl rfl) (by first | exact .inl rfl | exact .inr rfl | assumption))) (fun _ _ _ _ _ => (@pts_one _ _ _ (@pt_cmpR _ _ _ _ _ _ _ _ op_notIn_sign (@pv _ 7 _ _ (by rfl) (by first | exact Or.inl rfl | exact Or.inr (Or.inl rfl) | exact Or.inr (Or.inr rfl)) (by decide) (by decide)) (@pv _ 5 _ _ (by rfl) (by first | exact Or.inl rfl | exact Or.inr (Or.inl rfl) | exact Or.inr (Or.inr rfl)) (by decide) (by decide)) rfl))) (fun _ _ _ _ _ => (@pv _ 7 _ _ (by rfl) (by first | exact Or.inl rfl | exact Or.inr (Or.inl rfl) | exact Or.inr (Or.inr rfl)) (by decide) (by decide))) (by intro _ ; rfl)) (@pe_lst _ _ _ _ (@pa_nil _)) (nomark _)) (@pa_nil _)) (by decide) (by decide) (by rfl) (by rfl)) (fun _ _ => rfl)) (by rfl) (by first | exact .inl rfl | exact .inr rfl | assumption))) (@pss_cons _ _ _ _ _ (@ps_cut _ _ _ (@ps_if _ _ _ _ _ _ _ _ (@pt_cmpR _ _ _ _ _ _ _ _ op_ne (@pe_callB _ _ _ _ _ _ _ _ _ call_len_seq (by rfl) T.len PySem.boot_len (@pa_cN _ _ _ _ _ _ (@pv _ 8 _ _ (by rfl) vLaw_8 (by decide) (by decide)) (@pa_nil _)) (by decide) (by decide) (by rfl) (by rfl)) (@pe_callB _ _ _ _ _ _ _ _ _ call_len_str (by rfl) T.len PySem.boot_len (@pa_cN _ _ _ _ _ _ (@pv _ 6 _ _ (by rfl) vLaw_6 (by decide) (by decide)) (@pa_nil _)) (by decide) (by decide) (by rfl) (by rfl)) (nomark _)) (@pss_one _ _ _ (@ps_set _ _ 10 _ _ _ _ scLaw.nd rfl lLaw_10 (@pe_str _ _ _ _) (by rfl) (by first | exact .inl rfl | exact .inr rfl | assumption))) (@pss_nil _))) (@pss_cons _ _ _ _ _ (@ps_cut _ _ _ (@ps_if _ _ _ _ _ _ _ _ (@pt_not _ _ _ _ (@pt_val _ _ _ (@pe_call _ _ _ _ _ _ _ _ _ _ _ _ _ _ _ _ GIw (hr.mono (by decide)) (by rfl) mIw kIw bIw .nil pass0 (@pa_cN _ _ _ _ _ _ (@pv _ 6 _ _ (by rfl) vLaw_6 (by decide) (by decide)) (@pa_nil _)) (by decide) (by rfl) (by rfl)) (by intro _ ; rfl))) (@pss_one _ _ _ (@ps_set _ _ 10 _ _ _ _ scLaw.nd rfl lLaw_10 (@pe_str _ _ _ _) (by rfl) (by first | exact .inl rfl | exact .inr rfl | assumption))) (@pss_nil _))) (@pss_cons _ _ _ _ _ (@ps_cut _ _ _ (@ps_set _ _ 11 _ _ _ _ scLaw.nd rfl lLaw_11 (@pe_or _ _ _ _ _ _ _ (@pe_not _ _ _ _ (@pe_call _ _ _ _ _ _ _ _ _ _ _ _ _ _ _ _ GIw (hr.mono (by decide)) (by rfl) mIw kIw bIw .nil pass0 (@pa_cN _ _ _ _ _ _ (@pv _ 5 _ _ (by rfl) vLaw_5 (by decide) (by decide)) (@pa_nil _)) (by decide) (by rfl) (by rfl))) (@pe_one _ _ _ _ _ (@pe_not _ _ _ _ (@pe_chain _ _ _ _ _ _ _ _ _ _ _ _ op_le op_le (@pe_int _ _ _ _) (@pe_callB _ _ _ _ _ _ _ _ _ call_len_str (by rfl) T.len PySem.boot_len (@pa_cN _ _ _ _ _ _ (@pv _ 5 _ _ (by rfl) vLaw_5 (by decide) (by decide)) (@pa_nil _)) (by decide) (by decide) (by rfl) (by rfl)) (@pe_int _ _ _ _) (by with_unfolding_all rfl))))) (by rfl) (by first | exact .inl rfl | exact .inr rfl | assumption))) (@pss_cons _ _ _ _ _ (@ps_cut _ _ _ (@ps_if _ _ _ _ _ _ _ _ (@pt_val _ _ _ (@pv _ 11 _ _ (by rfl) vLaw_11 (by decide) (by decide)) (by intro _ ; rfl)) (@pss_one _ _ _ (@ps_set _ _ 10 _ _ _ _ scLaw.nd rfl lLaw_10 (@pe_str _ _ _ _) (by rfl) (by first | exact .inl rfl | exact .inr rfl | assumption))) (@pss_nil _))) (@pss_cons _ _ _ _ _ (@ps_set _ _ 12 _ _ _ _ scLaw.nd rfl lLaw_12 (@pe_callTy _ _ _ _ _ _ _ _ _ call_list_of (by rfl) T.list (by decide +kernel) (@pa_cN _ _ _ _ _ _ (@pv _ 8 _ _ (by rfl) vLaw_8 (by decide) (by decide)) (@pa_nil _)) (by decide) (by decide) (by rfl) (by rfl)) (by rfl) (by first | exact .inl rfl | exact .inr rfl | assumption)) (@pss_cons _ _ _ _ _ (@ps_setLc _ 14 _ _ _ _ _ _ _ [("door", 13)] _ _ _ (gName 13) _ _ (by rfl) scLaw.nd rfl rfl (sw_true rfl rfl rfl (by decide +kernel)) (@pi_range1 _ _ _ _ _ _ (by rfl) T.range (@pa_cC _ _ _ _ _ _ _ (@pe_int _ _ _ _) (@pa_nil _)) (by rfl)) (blkOk_by (own := [("door", 13)]) (N := ["script", "k", "draws", "j", "spoils", "wheel", "word", "sign", "turns", "at", "due", "bad", "handed", "door", "told"]) (sc := defScope sLaw) (by decide +kernel)) (fun _ _ _ _ _ => (@pg_name _ _ 13 _ scLaw.nd rfl (Or.inl rfl) (by first | exact .inl rfl | exact .inr rfl | assumption))) (fun _ _ _ _ _ => (@pts_nil _)) (fun _ _ _ _ _ => (@pe_call _ _ _ _ _ _ _ _ _ _ _ _ _ _ _ _ GAs (hr.mono (by decide)) (by rfl) mAs kAs bAs .nil pass0 (@pa_cN _ _ _ _ _ _ (@pv _ 13 _ _ (by rfl) (by first | exact Or.inl rfl | exact Or.inr (Or.inl rfl) | exact Or.inr (Or.inr rfl)) (by decide) (by decide)) (@pa_cN _ _ _ _ _ _ (@pv _ 5 _ _ (by rfl) (by first | exact Or.inl rfl | exact Or.inr (Or.inl rfl) | exact Or.inr (Or.inr rfl)) (by decide) (by decide)) (@pa_cN _ _ _ _ _ _ (@pv _ 12 _ _ (by rfl) (by first | exact Or.inl rfl | exact Or.inr (Or.inl rfl) | exact Or.inr (Or.inr rfl)) (by decide) (by decide)) (@pa_cN _ _ _ _ _ _ (@pv _ 6 _ _ (by rfl) (by first | exact Or.inl rfl | exact Or.inr (Or.inl rfl) | exact Or.inr (Or.inr rfl)) (by decide) (by decide)) (@pa_nil _))))) (by decide) (by rfl) (by rfl))) (by intro _ ; rfl)) (@pss_cons _ _ _ _ _ (@ps_if _ _ _ _ _ _ _ _ (@PW.pt _ _ _ (@pw_or _ _ _ _ _ _ _ (@pt_cmpR _ _ _ _ _ _ _ _ (op_neD hr.units) (@pv _ 14 _ _ (by rfl) vLaw_14 (by decide) (by decide)) (@pe_lst _ _ _ _ (@pa_cN _ _ _ _ _ _ (@pv _ 10 _ _ (by rfl) vLaw_10 (by decide) (by decide)) (@pa_cN _ _ _ _ _ _ (@pv _ 10 _ _ (by rfl) vLaw_10 (by decide) (by decide)) (@pa_nil _)))) (nomark _)) (@pw_or1 _ _ _ _ (@pt_cmpR _ _ _ _ _ _ _ _ (op_neD hr.units) (@pv _ 12 _ _ (by rfl) vLaw_12 (by decide) (by decide)) (@pv _ 8 _ _ (by rfl) vLaw_8 (by decide) (by decide)) (nomark _))))) (@pss_one _ _ _ (@ps_ret _ _ _ _ (@pe_bl _ _ _ _))) (@pss_nil _)) (@pss_one _ _ _ (@ps_if _ _ _ _ _ _ _ _ (@pt_cmpR _ _ _ _ _ _ _ _ op_ne (@pe_call _ _ _ _ _ _ _ _ _ _ _ _ _ _ _ _ GAs (hr.mono (by decide)) (by rfl) mAs kAs bAs .nil pass0 (@pa_cC _ _ _ _ _ _ _ (@pe_int _ _ _ _) (@pa_cN _ _ _ _ _ _ (@pv _ 5 _ _ (by rfl) vLaw_5 (by decide) (by decide)) (@pa_cN _ _ _ _ _ _ (@pv _ 12 _ _ (by rfl) vLaw_12 (by decide) (by decide)) (@pa_cN _ _ _ _ _ _ (@pv _ 6 _ _ (by rfl) vLaw_6 (by decide) (by decide)) (@pa_nil _))))) (by decide) (by rfl) (by rfl)) (@pe_ix _ _ _ _ _ _ _ ix_list (@pe_lst _ _ _ _ (@pa_cC _ _ _ _ _ _ _ (@pe_str _ _ _ _) (@pa_cC _ _ _ _ _ _ _ (@pe_str _ _ _ _) (@pa_nil _)))) (@pe_callTy _ _ _ _ _ _ _ _ _ call_int1 (by rfl) T.int (by decide +kernel) (@pa_cN _ _ _ _ _ _ (@pv _ 11 _ _ (by rfl) vLaw_11 (by decide) (by decide)) (@pa_nil _)) (by decide) (by decide) (by rfl) (by rfl)) (fun _ _ => rfl)) (nomark _)) (@pss_one _ _ _ (@ps_ret _ _ _ _ (@pe_bl _ _ _ _))) (@pss_nil _)))))))))))))))))))) (by intro _ ; rfl)) (@pss_one _ _ _ (@ps_ret _ _ _ _ (@pe_bl _ _ _ _)))), ?_⟩
    refine ⟨_, rfl, a, _, rfl, .inl hS, _, _, rfl, _, _, rfl, ?_⟩
    have hn : ∃ z : Int, (if (if ((ns.map V.int).length : Int) < 12 then ((ns.map V.int).length : Int) else 12) > 1 then (if ((ns.map V.int).length : Int) < 12 then ((ns.map V.int).length : Int) else 12) else 1) = z ∧ 1 ≤ z ∧ z ≤ 12 := by
      refine ⟨_, rfl, ?_, ?_⟩ <;> (split <;> (try split) <;> omega)
    obtain ⟨z, hz, z1, z20⟩ := hn
    refine ⟨_, rfl, ?_⟩
    rw [hz]
    refine ⟨by omega, by omega, for_range (lo := 0) (n := z.toNat) (fun i σ H2 => ∃ o1 o2 o3 o4 o5 o6 o7 o8 o9 o10 o11 o12 o13 o14 : Option V, σ = [some (.ref a), o1, o2, o3, o4, o5, o6, o7, o8, o9, o10, o11, o12, o13, o14] ∧ Same H H2) ?_ ?_ ?_⟩
    · exact ⟨_, _, _, _, _, _, _, _, _, _, _, _, _, _, rfl, Same.refl H⟩
    rotate_left
    · rintro σ H2 ⟨o1, o2, o3, o4, o5, o6, o7, o8, o9, o10, o11, o12, o13, o14, rfl, s2⟩
      exact k _
    rintro i σ H2 hi ⟨o1, o2, o3, o4, o5, o6, o7, o8, o9, o10, o11, o12, o13, o14, rfl, s2⟩
    refine ⟨_, rfl, _, rfl, a, ns, _, rfl, s2.seq hS, hlen, by omega, by omega, fun p H3 pn D3 s3 => ?_⟩
    -- which are spoilt
    refine ⟨_, rfl, by decide, by decide, fun SP hSP => lc_rangeD (p := p) (fun v => ∃ b : Bool, v = .bl b) D3 hSP (small1000 (by decide)) ?_ ?_ yes_mono name_mono⟩
    · intro j H' hj D' B' _ Qy ky
      refine ⟨rfl, rfl, ?_⟩
      exact ⟨_, rfl, p, 3, rfl, D', by omega, by omega, fun r H'' r0 r1 D'' B'' => ⟨rfl, ky _ _ ⟨_, rfl⟩ D'' B''⟩⟩
    intro H4 ys hyl hyR D4 B4 hSP4
    obtain ⟨b0, b1, b2, b3, rfl⟩ := bools4 hyl hyR
    have hSp : SP ≠ p := D3.ne hSP
    -- good ones
    refine ⟨_, rfl, p, 12, rfl, D4, by omega, by omega, fun l H5 hW hl12 D5 B5 => ?_⟩
    have h1 := hW.pos
    have hl12' : l.length ≤ 12 := hl12
    refine ⟨_, rfl, _, rfl, p, l, 12, rfl, D5, h1, by omega, by decide, by decide, fun o H6 hin ho D6 B6 => ?_⟩
    have ho12 : o.length ≤ 12 := by omega
    have hcl : Cp l := Low.cp hW.low
    have hco : Cp o := fun c hc => hcl c (hin c hc)
    refine ⟨_, rfl, _, rfl, fun TS hTS => lc_strD (p := p) (fun v => ∃ z : Int, v = .int z) D6 hTS (small1000 (by omega)) ?_ ?_ yes_mono name_mono⟩
    · intro c H' hc D' B' _ Qy ky
      refine ⟨rfl, rfl, ?_⟩
      exact ⟨_, rfl, p, 40, rfl, D', by omega, by omega, fun r H'' r0 r1 D'' B'' => ⟨_, _, rfl, rfl, ky _ _ ⟨_, rfl⟩ D'' B''⟩⟩
    intro H7 ys htl hyR D7 B7 hTS7
    obtain ⟨ts, rfl⟩ := ints_of hyR
    rw [List.length_map] at htl
    have B37 : But p H3 H7 := B4.trans (B5.trans (B6.trans B7))
    have hSP7 : H7 SP = some (.lst [.bl b0, .bl b1, .bl b2, .bl b3]) := B7 _ _ (B6 _ _ (B5 _ _ hSP4 hSp) hSp) hSp
    have hTp : TS ≠ p := D6.ne hTS
    have hz1 : (1 : Nat) ≤ sizeLine := by decide
    -- the wheel
    refine ⟨fun σ H' => ∃ m : List Nat, Cp m ∧ m.length ≤ 40 ∧ DrAt H' p ∧ But p H7 H' ∧ ∃ o3 o7 : Option V, σ = [some (.ref a), some (.int (0 + (i : Int))), some (.ref p), o3, some (.ref SP), some (.str (txt m)), some (.str (txt o)), o7, some (.ref TS), o9, o10, o11, o12, o13, o14], ?_, ?_⟩
    · refine ⟨_, rfl, SP, _, _, _, rfl, rfl, SqL.of hSP7, atI_nat (j := 0) rfl, _, rfl, ?_⟩
      cases b0 with
      | false => exact iteF ⟨l, hcl, by omega, D7, But.refl _ _, _, _, rfl⟩
      | true =>
        refine iteT ?_
        refine ⟨_, rfl, l, 31, rfl, rfl, by decide, by decide, h1, by omega, ?_⟩
        have hbl : ((List.replicate (31 : Int).toNat l).flatten).length ≤ 1000 := by
          rw [List.length_flatten, List.map_replicate, List.sum_replicate_nat]
          show 31 * l.length ≤ 1000
          omega
        have hbc : Cp ((List.replicate (31 : Int).toNat l).flatten) := fun c hc => by
          obtain ⟨x, hx, hcx⟩ := List.mem_flatten.mp hc
          rw [(List.mem_replicate.mp hx).2] at hcx
          exact hcl c hcx
        refine ⟨_, rfl, _, rfl, (by rw [txt_length]; exact Nat.le_of_lt (small1000 hbl)), ?_⟩
        rw [cut_toA (by decide)]
        refine ⟨_, rfl, _, rfl, l, p, rfl, hcl, by omega, D7, fun m1 H8 hc1 hm1 D8 B8 => ?_⟩
        refine ⟨_, rfl, _, rfl, l, p, rfl, hcl, by omega, D8, fun m2 H9 hc2 hm2 D9 B9 => ?_⟩
        refine ⟨(by show 4 ≤ sizeLine; decide), fun L hL => ?_⟩
        refine ⟨_, rfl, p, 4, rfl, D9.new hL, by omega, by omega, fun y HA y0 y1 DA BA => ?_⟩
        obtain ⟨v, hv, hv'⟩ := at4 (a := .str "") (b := .str (txt (((List.replicate (31 : Int).toNat l).flatten).take (31 : Int).toNat))) (c := .str (txt m1)) (d := .str (txt m2)) y0 y1
        refine ⟨L, _, _, _, rfl, rfl, SqL.of (BA _ _ upd_same (D9.ne hL)), hv, ?_⟩
        have BB : But p H7 HA := (B8.trans B9).trans ((But.new hL).trans BA)
        rcases hv' with rfl | rfl | rfl | rfl
        · refine ⟨[], (fun c hc => by cases hc), by decide, DA, BB, o3, o7, ?_⟩
          rw [← emp]; rfl
        · refine ⟨_, fun c hc => hbc c (List.mem_of_mem_take hc), ?_, DA, BB, _, _, rfl⟩
          rw [List.length_take]
          show min 31 _ ≤ 40
          omega
        · exact ⟨m1, hc1, by omega, DA, BB, _, _, rfl⟩
        · exact ⟨m2, hc2, by omega, DA, BB, _, _, rfl⟩
    rintro σ H8 ⟨lw, hclw, hlw, D8, B8, o3, o7, rfl⟩
    have hSP8 := B8 _ _ hSP7 hSp
    have hTS8 := B8 _ _ hTS7 hTp
    -- the word
    refine ⟨fun σ H' => ∃ m : List Nat, Cp m ∧ m.length ≤ 90 ∧ DrAt H' p ∧ But p H8 H' ∧ σ = [some (.ref a), some (.int (0 + (i : Int))), some (.ref p), o3, some (.ref SP), some (.str (txt lw)), some (.str (txt m)), o7, some (.ref TS), o9, o10, o11, o12, o13, o14], ?_, ?_⟩
    · refine ⟨_, rfl, SP, _, _, _, rfl, rfl, SqL.of hSP8, atI_nat (j := 1) rfl, _, rfl, ?_⟩
      cases b1 with
      | false => exact iteF ⟨o, hco, by omega, D8, But.refl _ _, rfl⟩
      | true =>
        refine iteT ?_
        have hbl : ((List.replicate (81 : Int).toNat [97]).flatten).length = 81 := by decide
        have hbc : Cp ((List.replicate (81 : Int).toNat [97]).flatten) := fun c hc => by
          obtain ⟨x, hx, hcx⟩ := List.mem_flatten.mp hc
          rw [(List.mem_replicate.mp hx).2] at hcx
          rw [List.mem_singleton.mp hcx]
          decide
        refine ⟨_, rfl, [97], 81, (by decide +kernel), rfl, by decide, by decide, by decide, by decide, _, _, rfl, rfl, ?_, ?_⟩
        · rw [txt_length, txt_length, hbl]
          exact Nat.le_of_lt (small1000 (by omega))
        rw [txt_app]
        refine ⟨_, rfl, _, rfl, (by rw [txt_length, List.length_append, hbl]; exact Nat.le_of_lt (small1000 (by omega))), ?_⟩
        rw [cut_toA (by decide)]
        refine ⟨_, rfl, _, rfl, o, p, rfl, hco, by omega, D8, fun m1 H9 hc1 hm1 D9 B9 => ?_⟩
        refine ⟨_, rfl, _, rfl, o, p, rfl, hco, by omega, D9, fun m2 HA hc2 hm2 DA BA => ?_⟩
        refine ⟨(by show 3 ≤ sizeLine; decide), fun L hL => ?_⟩
        refine ⟨_, rfl, p, 3, rfl, DA.new hL, by omega, by omega, fun y HB y0 y1 DB BB => ?_⟩
        obtain ⟨v, hv, hv'⟩ := at3 (a := .str (txt ((o ++ (List.replicate (81 : Int).toNat [97]).flatten).take (81 : Int).toNat))) (b := .str (txt m1)) (c := .str (txt m2)) y0 y1
        refine ⟨L, _, _, _, rfl, rfl, SqL.of (BB _ _ upd_same (DA.ne hL)), hv, ?_⟩
        have B8B : But p H8 HB := (B9.trans BA).trans ((But.new hL).trans BB)
        rcases hv' with rfl | rfl | rfl
        · refine ⟨_, fun c hc => ?_, ?_, DB, B8B, rfl⟩
          · rcases List.mem_append.mp (List.mem_of_mem_take hc) with hc | hc
            · exact hco c hc
            · exact hbc c hc
          · rw [List.length_take]
            show min 81 _ ≤ 90
            omega
        · exact ⟨m1, hc1, by omega, DB, B8B, rfl⟩
        · exact ⟨m2, hc2, by omega, DB, B8B, rfl⟩
    rintro σ H9 ⟨ow, hcow, how, D9, B9, rfl⟩
    have hSP9 := B9 _ _ hSP8 hSp
    have hTS9 := B9 _ _ hTS8 hTp
    -- the turns
    refine ⟨fun σ H' => ∃ (TS : Addr) (ts : List Int), TS ≠ p ∧ H' TS = some (.lst (ts.map V.int)) ∧ ts.length ≤ 20 ∧ DrAt H' p ∧ But p H9 H' ∧ σ = [some (.ref a), some (.int (0 + (i : Int))), some (.ref p), o3, some (.ref SP), some (.str (txt lw)), some (.str (txt ow)), o7, some (.ref TS), o9, o10, o11, o12, o13, o14], ?_, ?_⟩
    · refine ⟨_, rfl, SP, _, _, _, rfl, rfl, SqL.of hSP9, atI_nat (j := 2) rfl, _, rfl, ?_⟩
      cases b2 with
      | false => exact iteF ⟨TS, ts, hTp, hTS9, by omega, D9, But.refl _ _, rfl⟩
      | true =>
        refine iteT ?_
        refine ⟨_, rfl, (by show 1 ≤ sizeLine; decide), fun A1 hA1 => ?_⟩
        have u1 := Same.new (o := .lst [.int 1]) hA1
        refine ⟨TS, A1, _, _, rfl, rfl, u1 _ _ hTS9, upd_same, by rw [List.length_map]; show _ + 1 ≤ _; exact Nat.le_of_lt (small1000 (by omega)), fun A2 hA2 => ?_⟩
        rw [show ts.map V.int ++ [V.int 1] = (ts ++ [1]).map V.int by rw [List.map_append]; rfl]
        have u2 := Same.new (o := .lst ((ts ++ [1]).map V.int)) hA2
        refine ⟨_, rfl, _, rfl, TS, _, rfl, SqL.of (u2 _ _ (u1 _ _ hTS9)), fun A3 hA3 => ?_⟩
        rw [cutV_from1]
        have u3 := Same.new (o := .lst ((ts.drop 1).map V.int)) hA3
        refine ⟨(by show 0 ≤ sizeLine; decide), fun A4 hA4 => ⟨(by show 3 ≤ sizeLine; decide), fun L hL => ?_⟩⟩
        have u4 := Same.new (o := .lst []) hA4
        have u5 := Same.new (o := .lst [.ref A2, .ref A3, .ref A4]) hL
        have g4 := u5 _ _ (show (upd _ A4 (.lst [])) A4 = some (.lst []) from upd_same)
        have g3 := (u4.trans u5) _ _ (show (upd _ A3 (.lst ((ts.drop 1).map V.int))) A3 = some (.lst ((ts.drop 1).map V.int)) from upd_same)
        have g2 := (u3.trans (u4.trans u5)) _ _ (show (upd _ A2 (.lst ((ts ++ [1]).map V.int))) A2 = some (.lst ((ts ++ [1]).map V.int)) from upd_same)
        have u := u1.trans (u2.trans (u3.trans (u4.trans u5)))
        have n2 : A2 ≠ p := DrAt.ne (Same.dr u1 D9) hA2
        have n3 : A3 ≠ p := DrAt.ne (Same.dr (u1.trans u2) D9) hA3
        have n4 : A4 ≠ p := DrAt.ne (Same.dr (u1.trans (u2.trans u3)) D9) hA4
        have nL : L ≠ p := DrAt.ne (Same.dr (u1.trans (u2.trans (u3.trans u4))) D9) hL
        refine ⟨_, rfl, p, 3, rfl, Same.dr u D9, by omega, by omega, fun y HB y0 y1 DB BB => ?_⟩
        obtain ⟨v, hv, hv'⟩ := at3 (a := .ref A2) (b := .ref A3) (c := .ref A4) y0 y1
        refine ⟨L, _, _, _, rfl, rfl, SqL.of (BB _ _ upd_same nL), hv, ?_⟩
        have BU : But p H9 HB := (Same.but u).trans BB
        rcases hv' with rfl | rfl | rfl
        · exact ⟨A2, _, n2, BB _ _ g2 n2, by rw [List.length_append]; show _ + 1 ≤ _; omega, DB, BU, rfl⟩
        · exact ⟨A3, _, n3, BB _ _ g3 n3, by rw [List.length_drop]; omega, DB, BU, rfl⟩
        · exact ⟨A4, [], n4, BB _ _ g4 n4, by decide, DB, BU, rfl⟩
    rintro σ HA ⟨TT, tw, hTT, hTA, htw, DA, BA, rfl⟩
    have hSPA := BA _ _ hSP9 hSp
    have hzo : (txt ow).length ≤ sizeLine := by rw [txt_length]; exact Nat.le_of_lt (small1000 (by omega))
    -- another sign
    refine ⟨fun σ H' => ∃ (m : List Nat) (o9 : Option V), Cp m ∧ m.length ≤ 100 ∧ DrAt H' p ∧ But p HA H' ∧ σ = [some (.ref a), some (.int (0 + (i : Int))), some (.ref p), o3, some (.ref SP), some (.str (txt lw)), some (.str (txt m)), o7, some (.ref TT), o9, o10, o11, o12, o13, o14], ?_, ?_⟩
    · refine ⟨_, rfl, SP, _, _, _, rfl, rfl, SqL.of hSPA, atI_nat (j := 3) rfl, _, rfl, ?_⟩
      cases b3 with
      | false => exact iteF (iteF ⟨ow, _, hcow, by omega, DA, But.refl _ _, rfl⟩)
      | true =>
        refine iteT ?_
        refine ⟨_, rfl, rfl, _, rfl, ?_⟩
        by_cases hn0 : ow = []
        · subst hn0
          refine iteF ?_
          exact ⟨[], _, hcow, by decide, DA, But.refl _ _, rfl⟩
        have hol : 1 ≤ ow.length := List.length_pos_iff.mpr hn0
        rw [decide_eq_false (show ¬ V.str (txt ow) = V.str (Str.ofString "") from fun e => hn0 (by have := V.str.inj e; rw [emp] at this; exact txt_inj this))]
        refine iteT ?_
        refine ⟨_, rfl, _, rfl, _, rfl, hzo, p, _, rfl, DA, by rw [txt_length]; omega, by rw [txt_length]; omega, fun r HB r0 r1 DB BB => ?_⟩
        rw [txt_length] at r1
        refine ⟨_, rfl, _, rfl, _, rfl, _, rfl, hzo, ?_⟩
        rw [cut_toA r0]
        refine ⟨_, rfl, p, 1, 26, rfl, DB, by decide, by decide, by decide, by decide, fun ll HC hll low DC BC => ?_⟩
        have hll1 : ll.length = 1 := hll
        refine ⟨_, _, rfl, rfl, ?_, ?_⟩
        · rw [txt_length, txt_length, List.length_take, hll1]
          exact Nat.le_of_lt (small1000 (by omega))
        rw [txt_app]
        refine ⟨_, rfl, _, rfl, _, _, rfl, rfl, _, rfl, _, rfl, hzo, ?_⟩
        rw [cut_fromA (show 0 ≤ r + 1 by omega)]
        refine ⟨_, _, rfl, rfl, ?_, ?_⟩
        · rw [txt_length, txt_length, List.length_append, List.length_take, List.length_drop, hll1]
          exact Nat.le_of_lt (small1000 (by omega))
        rw [txt_app]
        refine ⟨_, _, fun c hc => ?_, ?_, DC, BB.trans BC, rfl⟩
        · rcases List.mem_append.mp hc with hc | hc
          · rcases List.mem_append.mp hc with hc | hc
            · exact hcow c (List.mem_of_mem_take hc)
            · exact Low.cp low c hc
          · exact hcow c (List.mem_of_mem_drop hc)
        · rw [List.length_append, List.length_append, List.length_take, List.length_drop, hll1]
          omega
    rintro σ HB ⟨om, o9', hcom, hom, DB, BB, rfl⟩
    have hTB := BB _ _ hTA hTT
    have hzm : (txt om).length ≤ sizeLine := by rw [txt_length]; exact Nat.le_of_lt (small1000 (by omega))
    have hzw : (txt lw).length ≤ sizeLine := by rw [txt_length]; exact Nat.le_of_lt (small1000 (by omega))
    -- what is due: signs that the wheel lacks
    refine ⟨fun σ H' => ∃ o7 : Option V, Same HB H' ∧ σ = [some (.ref a), some (.int (0 + (i : Int))), some (.ref p), o3, some (.ref SP), some (.str (txt lw)), some (.str (txt om)), o7, some (.ref TT), o9', some (.str (du0 lw om)), o11, o12, o13, o14], ?_, ?_⟩
    · refine ⟨(by show 2 ≤ sizeLine; decide), fun L hL => ?_⟩
      refine ⟨_, rfl, _, rfl, fun D hD => lc_strP (fun c => !decide (c ∈ lw)) (fun c => V.str (txt [c])) hD (small1000 (by omega)) ?_ ?_⟩
      · intro c H' _ s' Qy Qn ky kn
        refine ⟨rfl, ?_⟩
        refine ⟨_, rfl, _, rfl, c, _, rfl, rfl, _, rfl, ?_⟩
        have em : decide (c ∈ (txt lw).cps.toList) = decide (c ∈ lw) := rfl
        rw [em]
        cases e : decide (c ∈ lw) with
        | true =>
          rw [e] at kn
          exact iteF (kn rfl _ (Same.refl _))
        | false =>
          rw [e] at ky
          exact iteT ⟨_, rfl, ky rfl _ (Same.refl _)⟩
      intro H3 s3 hD3
      refine ⟨(by show 0 ≤ sizeLine; decide), fun D2 hD2 => ?_⟩
      have s4 := Same.new (o := .lst []) hD2
      refine ⟨.list ((om.filter fun c => !decide (c ∈ lw)).map dS), .list [], .lst (SqL.of (s4 _ _ hD3)) (dp_signs _), .lst (SqL.of upd_same) .nil, shaped_signs (fun c hc => hcom c (List.mem_filter.mp hc).1), rfl, .inr ⟨_, rfl, ?_⟩⟩
      have hLs := s4 _ _ (s3 _ _ (upd_same (H := HB) (a := L) (o := .lst [.str "", .str "Lacks+"])))
      have s05 := (Same.new (o := .lst [.str "", .str "Lacks+"]) hL).trans (s3.trans s4)
      unfold du0
      cases ef : om.filter fun c => !decide (c ∈ lw) with
      | nil =>
        refine ⟨L, _, _, _, rfl, rfl, SqL.of hLs, atI_nat (j := 0) rfl, ?_⟩
        have hall : (om.all fun c => decide (c ∈ lw)) = true := List.all_eq_true.mpr fun c hc => by
          cases e : decide (c ∈ lw) with
          | true => rfl
          | false =>
            have : c ∈ om.filter fun c => !decide (c ∈ lw) := List.mem_filter.mpr ⟨hc, by rw [e]; rfl⟩
            rw [ef] at this
            cases this
        rw [hall, if_neg (by decide)]
        exact ⟨_, s05, rfl⟩
      | cons c r =>
        refine ⟨L, _, _, _, rfl, rfl, SqL.of hLs, atI_nat (j := 1) rfl, ?_⟩
        have hall : (om.all fun c => decide (c ∈ lw)) = false := by
          have hm : c ∈ om.filter fun c => !decide (c ∈ lw) := by rw [ef]; exact List.mem_cons_self
          obtain ⟨h1', h2'⟩ := List.mem_filter.mp hm
          refine List.all_eq_false.mpr ⟨c, h1', ?_⟩
          cases e : decide (c ∈ lw) with
          | true => rw [e] at h2'; cases h2'
          | false => exact Bool.false_ne_true
        rw [hall, if_pos rfl]
        exact ⟨_, s05, rfl⟩
    rintro σ HC ⟨o7', sC, rfl⟩
    have hTC := sC _ _ hTB
    -- turns
    refine ⟨fun σ H' => H' = HC ∧ σ = [some (.ref a), some (.int (0 + (i : Int))), some (.ref p), o3, some (.ref SP), some (.str (txt lw)), some (.str (txt om)), o7', some (.ref TT), o9', some (.str (du1 lw tw om)), o11, o12, o13, o14], ?_, ?_⟩
    · refine ⟨_, rfl, TT, _, rfl, .inl (SqL.of hTC), _, rfl, _, rfl, hzm, rfl, _, rfl, ?_⟩
      rw [List.length_map, txt_length]
      unfold du1
      by_cases e : tw.length = om.length
      · rw [e, decide_eq_true rfl, if_neg (fun z => z rfl)]
        exact iteF ⟨rfl, rfl⟩
      · rw [decide_eq_false (show ¬ V.int ((tw.length : Nat) : Int) = V.int ((om.length : Nat) : Int) from fun z => e (by have := V.int.inj z; omega)), if_pos e]
        exact iteT ⟨rfl, rfl⟩
    rintro σ HE ⟨eHE, rfl⟩
    rw [eHE]
    -- the word
    refine ⟨fun σ H' => Same HC H' ∧ σ = [some (.ref a), some (.int (0 + (i : Int))), some (.ref p), o3, some (.ref SP), some (.str (txt lw)), some (.str (txt om)), o7', some (.ref TT), o9', some (.str (du2 lw tw om)), o11, o12, o13, o14], ?_, ?_⟩
    · refine ⟨_, rfl, om, rfl, by omega, hcom, fun HD sD => ⟨_, rfl, ?_⟩⟩
      cases e : isW om with
      | true =>
        have ed : du2 lw tw om = du1 lw tw om := by unfold du2; rw [if_neg (by rw [e]; decide)]
        rw [ed]
        refine iteF ?_
        exact ⟨sD, rfl⟩
      | false =>
        have ed : du2 lw tw om = "NoWord+" := by unfold du2; rw [if_pos e]
        rw [ed]
        refine iteT ?_
        exact ⟨sD, rfl⟩
    rintro σ HD ⟨sD, rfl⟩
    -- whether the wheel is bad
    refine ⟨fun σ H' => Same HD H' ∧ σ = [some (.ref a), some (.int (0 + (i : Int))), some (.ref p), o3, some (.ref SP), some (.str (txt lw)), some (.str (txt om)), o7', some (.ref TT), o9', some (.str (du2 lw tw om)), some (.bl (!isWh lw)), o12, o13, o14], ?_, ?_⟩
    · refine ⟨_, rfl, lw, rfl, by omega, hclw, fun HE sE => ?_⟩
      refine ⟨_, rfl, _, rfl, ?_⟩
      cases hiw : isW lw with
      | false =>
        have hwh : isWh lw = false := by unfold isWh; rw [hiw]; rfl
        rw [hwh]
        refine iteT ?_
        exact ⟨sE, rfl⟩
      | true =>
        refine iteF ?_
        refine ⟨_, rfl, _, rfl, hzw, _, _, rfl, rfl, _, rfl, ?_⟩
        rw [txt_length]
        by_cases h1 : (1 : Int) ≤ (lw.length : Int)
        · rw [decide_eq_true h1]
          refine iteT ⟨_, _, rfl, rfl, _, rfl, ?_⟩
          have hwh : isWh lw = decide ((lw.length : Int) ≤ 30) := by
            unfold isWh
            rw [hiw, decide_eq_true (show 1 ≤ lw.length by omega)]
            exact decide_eq_decide.mpr ⟨fun h => by omega, fun h => by omega⟩
          rw [hwh]
          exact ⟨sE, rfl⟩
        · rw [decide_eq_false h1]
          have hwh : isWh lw = false := by
            unfold isWh
            rw [decide_eq_false (show ¬ 1 ≤ lw.length by omega), Bool.false_and, Bool.and_false]
          rw [hwh]
          refine iteF ⟨_, rfl, ?_⟩
          exact ⟨sE, rfl⟩
    rintro σ HE ⟨sE, rfl⟩
    have dueE : du2 lw tw om = du2 lw tw om := rfl
    refine ⟨fun σ H' => H' = HE ∧ σ = [some (.ref a), some (.int (0 + (i : Int))), some (.ref p), o3, some (.ref SP), some (.str (txt lw)), some (.str (txt om)), o7', some (.ref TT), o9', some (.str (kd (rpk lw tw om))), some (.bl (!isWh lw)), o12, o13, o14], ?_, ?_⟩
    · refine ⟨_, rfl, _, rfl, ?_⟩
      cases e : isWh lw with
      | true =>
        rw [show kd (rpk lw tw om) = du2 lw tw om from by rw [du_kd, if_neg (by rw [e]; decide)]]
        refine iteF ?_
        exact ⟨rfl, rfl⟩
      | false =>
        rw [show kd (rpk lw tw om) = "NoWheel+" from by rw [du_kd, if_pos e]]
        refine iteT ?_
        exact ⟨rfl, rfl⟩
    rintro σ HF ⟨eHF, rfl⟩
    rw [eHF]
    have hTE := sE _ _ (sD _ _ hTC)
    -- asked
    refine ⟨_, rfl, TT, _, rfl, .inl (SqL.of hTE), fun HL hHL => ?_⟩
    have sHL := Same.new (o := .lst (tw.map V.int)) hHL
    have hHLL : (upd HE HL (.lst (tw.map V.int))) HL = some (.lst (tw.map V.int)) := upd_same
    have hTG := sHL _ _ hTE
    generalize (upd HE HL (.lst (tw.map V.int))) = HG at sHL hHLL hTG ⊢
    refine ⟨2, rfl, by decide, by decide, fun TL hTL => ?_⟩
    refine lc_rangeP (fun _ => true) (fun _ => V.str (kd (rpk lw tw om))) hTL (small1000 (by decide)) ?_ ?_
    · intro j H14 hj s14 Qy Qn ky kn
      refine ⟨rfl, ?_⟩
      dsimp only [tYes]
      refine iteT ?_
      have hHL14 := s14 _ _ hHLL
      refine ⟨_, rfl, _, rfl, _, rfl, _, rfl, j, lw, HL, tw, om, (by rw [Int.zero_add]; rfl), by omega, by omega, SqL.of hHL14, by omega, by omega, fun H15 s15 => ?_⟩
      have := ky rfl _ s15
      rw [show kdD j lw tw om = kd (rpk lw tw om) from if_neg (by have : j < 2 := hj; omega)]
      exact this
    intro H14 s14 hTL14
    have shd : Sh 1 (.list [.str (kd (rpk lw tw om)), .str (kd (rpk lw tw om))]) := Sh.list fun x hx => by
      have hxd : x = .str (kd (rpk lw tw om)) := by
        simp only [List.mem_cons, List.not_mem_nil, or_false, or_self] at hx
        exact hx
      rw [hxd]
      refine sh_str _ _ ?_
      unfold kd
      split
      · decide +kernel
      split
      · decide +kernel
      split
      · decide +kernel
      split <;> decide +kernel
    refine ⟨_, rfl, _, rfl, _, rfl, (by show 2 ≤ sizeLine; decide), fun D1 hD1 => ?_⟩
    have t1 := Same.new (o := .lst [.str (kd (rpk lw tw om)), .str (kd (rpk lw tw om))]) hD1
    refine ⟨_, _, .lst (SqL.of (t1 _ _ hTL14)) (.cons (.str _) (.cons (.str _) .nil)), .lst (SqL.of upd_same) (.cons (.str _) (.cons (.str _) .nil)), shd.shaped, shd.shaped, _, rfl, ?_⟩
    refine ifQ shd.eqv ?_
    have t14 := s14.trans t1
    refine ⟨_, rfl, _, rfl, dInts tw, dInts tw, Dp.ints (SqL.of (t14 _ _ hHLL)), Dp.ints (SqL.of (t14 _ _ hTG)), (Sh.ints tw).shaped, (Sh.ints tw).shaped, _, rfl, ?_⟩
    refine ifQ (dInts_eqv tw) ?_
    refine ⟨_, rfl, _, rfl, _, rfl, 2, lw, HL, tw, om, rfl, by decide, by omega, SqL.of (t14 _ _ hHLL), by omega, by omega, fun H15 s15 => ?_⟩
    refine ⟨(by show 2 ≤ sizeLine; decide), fun L hL => ?_⟩
    have sL := Same.new (o := .lst [.str "", .str "NoWheel+"]) hL
    refine ⟨_, rfl, .inr ⟨_, rfl, ?_⟩⟩
    have fin : Same H (upd H15 L (.lst [.str "", .str "NoWheel+"])) := by
      have B3B : But p H3 HB := B37.trans (B8.trans (B9.trans (BA.trans BB)))
      exact But.same (s2.trans s3) (s2.free pn) (B3B.trans (Same.but (sC.trans (sD.trans (sE.trans (sHL.trans (t14.trans (s15.trans sL))))))))
    unfold kdD
    cases e : isWh lw with
    | true =>
      refine ⟨L, _, _, _, rfl, rfl, SqL.of upd_same, atI_nat (j := 0) rfl, rfl, _, rfl, ?_⟩
      refine iteF ?_
      exact ⟨_, _, _, _, _, _, _, _, _, _, _, _, _, _, rfl, fin⟩
    | false =>
      refine ⟨L, _, _, _, rfl, rfl, SqL.of upd_same, atI_nat (j := 1) rfl, rfl, _, rfl, ?_⟩
      refine iteF ?_
      exact ⟨_, _, _, _, _, _, _, _, _, _, _, _, _, _, rfl, fin⟩
end
end W

set_option Elab.async false
set_option linter.all false
set_option maxRecDepth 100000
set_option maxHeartbeats 4000000
namespace W
open PySem L2 WM
theorem kit_ref {K : PySem.W.Frag} {C D : Addr} {b : Bool} (hd : Nat.beq C D = false) (h1 : PySem.W.isClsIn K D = true) (h2 : PySem.W.typeIn K (.ref D) = some (.type "type")) (h3 : PySem.W.subIn K (.ref C) (.ref D) = some b) : PySem.W.kitOne K (.ref C) (.ref D) = some b := by
  have hne : ¬ ((Value.ref C == Value.ref D) = true) := fun e => by
    have e' := Value.ref.inj (beq_iff_eq.mp e)
    subst e'
    rw [Nat.beq_refl] at hd
    cases hd
  have h1' : (PySem.W.clsIn K D).isSome = true := h1
  unfold PySem.W.kitOne PySem.W.kitCls
  rw [if_neg hne]
  dsimp only
  rw [h1', h2, if_pos (by simp), h3]
theorem kit_self {K : PySem.W.Frag} {C : Addr} : PySem.W.kitOne K (.ref C) (.ref C) = some true := by
  unfold PySem.W.kitOne
  rw [if_pos (by simp)]
theorem kit_ty {K : PySem.W.Frag} {C : Addr} {t : String} {b : Bool} (h0 : PySem.W.kitMeta t = true) (hne : (Value.ref C == Value.type t) = false) (h : PySem.W.subIn K (.ref C) (.type t) = some b) : PySem.W.kitOne K (.ref C) (.type t) = some b := by
  unfold PySem.W.kitOne PySem.W.kitCls
  rw [if_neg (by rw [hne]; exact Bool.false_ne_true)]
  dsimp only
  rw [if_pos h0, h]
theorem all_mk {l : PySem.W.OpenLaw} {w : World} {K : PySem.W.Frag} {h : Heap} {mg : Str → Option Value} {fa fSign fWord fNWord fWheel fNeed fBest fSStr fSlT fSeen fNAm fNRp fPTd fWOn fSFo fSNe fFWy fSNs fMSl fLSl fKind fLIsWord fDraws fDraw fLetters fLWheel fLWord fBent fAsk fLaw Cw C0 C1 C2 C3 C4 C5 C6 C7 C8 C9 C10 C11 C12 C13 : Addr} (X : K.In h) (G : h.Ns mainGlobals mg) (hfa : mg "law" = some (.ref fa))
    {odSign anSign odWord anWord odNWord anNWord odWheel anWheel odNeed anNeed odBest anBest odSStr anSStr odSlT anSlT odSeen anSeen odNAm anNAm odNRp anNRp odPTd anPTd odWOn anWOn odSFo anSFo odSNe anSNe odFWy anFWy odSNs anSNs odMSl anMSl odLSl anLSl odKind anKind odLIsWord anLIsWord odDraws anDraws odDraw anDraw odLetters anLetters odLWheel anLWheel odLWord anLWord odBent anBent odAsk anAsk odLaw anLaw : Option Addr} {slSign slWord slNWord slWheel slNeed slBest slSStr slSlT slSeen slNAm slNRp slPTd slWOn slSFo slSNe slFWy slSNs slMSl slLSl slKind slLIsWord slDraws slDraw slLetters slLWheel slLWord slBent slAsk slLaw : Array (Option Value)} {ocSign kVSign dcSign pmSign cdSign ctSign ocWord kVWord dcWord pmWord cdWord ctWord ocNWord kVNWord dcNWord pmNWord cdNWord ctNWord ocWheel kVWheel dcWheel pmWheel cdWheel ctWheel ocNeed kVNeed dcNeed pmNeed cdNeed ctNeed ocBest kVBest dcBest pmBest cdBest ctBest ocSStr kVSStr dcSStr pmSStr cdSStr ctSStr ocSlT kVSlT dcSlT pmSlT cdSlT ctSlT ocSeen kVSeen dcSeen pmSeen cdSeen ctSeen ocNAm kVNAm dcNAm pmNAm cdNAm ctNAm ocNRp kVNRp dcNRp pmNRp cdNRp ctNRp ocPTd kVPTd dcPTd pmPTd cdPTd ctPTd ocWOn kVWOn dcWOn pmWOn cdWOn ctWOn ocSFo kVSFo dcSFo pmSFo cdSFo ctSFo ocSNe kVSNe dcSNe pmSNe cdSNe ctSNe ocFWy kVFWy dcFWy pmFWy cdFWy ctFWy ocSNs kVSNs dcSNs pmSNs cdSNs ctSNs ocMSl kVMSl dcMSl pmMSl cdMSl ctMSl ocLSl kVLSl dcLSl pmLSl cdLSl ctLSl ocKind kVKind dcKind pmKind cdKind ctKind ocLIsWord kVLIsWord dcLIsWord pmLIsWord cdLIsWord ctLIsWord ocDraws kVDraws dcDraws pmDraws cdDraws ctDraws ocDraw kVDraw dcDraw pmDraw cdDraw ctDraw ocLetters kVLetters dcLetters pmLetters cdLetters ctLetters ocLWheel kVLWheel dcLWheel pmLWheel cdLWheel ctLWheel ocLWord kVLWord dcLWord pmLWord cdLWord ctLWord ocBent kVBent dcBent pmBent cdBent ctBent ocAsk kVAsk dcAsk pmAsk cdAsk ctAsk ocLaw kVLaw dcLaw pmLaw cdLaw ctLaw : Value} {tMOST_SIGNS tMOST_PLACES : Tok}
    (aSign : PySem.W.nsIn K mainGlobals "is_sign" = some (some (.ref fSign)))
    (lSign : K.lookup fSign = some ⟨ocSign, odSign, .func (PySem.W.fnOf "is_sign" "is_sign" (defArgs sSign) (defBody sSign) (defScope sSign) .none kVSign dcSign pmSign anSign cdSign ctSign), slSign⟩)
    (cSign : PySem.W.codeIn K cdSign "is_sign" = true)
    (kSign : PySem.W.keepIn K (.ref fSign) = true)
    (aWord : PySem.W.nsIn K mainGlobals "is_word" = some (some (.ref fWord)))
    (lWord : K.lookup fWord = some ⟨ocWord, odWord, .func (PySem.W.fnOf "is_word" "is_word" (defArgs sWord) (defBody sWord) (defScope sWord) .none kVWord dcWord pmWord anWord cdWord ctWord), slWord⟩)
    (cWord : PySem.W.codeIn K cdWord "is_word" = true)
    (kWord : PySem.W.keepIn K (.ref fWord) = true)
    (aNWord : PySem.W.nsIn K mainGlobals "need_word" = some (some (.ref fNWord)))
    (lNWord : K.lookup fNWord = some ⟨ocNWord, odNWord, .func (PySem.W.fnOf "need_word" "need_word" (defArgs sNWord) (defBody sNWord) (defScope sNWord) .none kVNWord dcNWord pmNWord anNWord cdNWord ctNWord), slNWord⟩)
    (cNWord : PySem.W.codeIn K cdNWord "need_word" = true)
    (kNWord : PySem.W.keepIn K (.ref fNWord) = true)
    (aWheel : PySem.W.nsIn K mainGlobals "is_wheel" = some (some (.ref fWheel)))
    (lWheel : K.lookup fWheel = some ⟨ocWheel, odWheel, .func (PySem.W.fnOf "is_wheel" "is_wheel" (defArgs sWheel) (defBody sWheel) (defScope sWheel) .none kVWheel dcWheel pmWheel anWheel cdWheel ctWheel), slWheel⟩)
    (cWheel : PySem.W.codeIn K cdWheel "is_wheel" = true)
    (kWheel : PySem.W.keepIn K (.ref fWheel) = true)
    (aNeed : PySem.W.nsIn K mainGlobals "need_wheel" = some (some (.ref fNeed)))
    (lNeed : K.lookup fNeed = some ⟨ocNeed, odNeed, .func (PySem.W.fnOf "need_wheel" "need_wheel" (defArgs sNeed) (defBody sNeed) (defScope sNeed) .none kVNeed dcNeed pmNeed anNeed cdNeed ctNeed), slNeed⟩)
    (cNeed : PySem.W.codeIn K cdNeed "need_wheel" = true)
    (kNeed : PySem.W.keepIn K (.ref fNeed) = true)
    (aBest : PySem.W.nsIn K mainGlobals "best_of" = some (some (.ref fBest)))
    (lBest : K.lookup fBest = some ⟨ocBest, odBest, .func (PySem.W.fnOf "best_of" "best_of" (defArgs sBest) (defBody sBest) (defScope sBest) .none kVBest dcBest pmBest anBest cdBest ctBest), slBest⟩)
    (cBest : PySem.W.codeIn K cdBest "best_of" = true)
    (kBest : PySem.W.keepIn K (.ref fBest) = true)
    (aSStr : PySem.W.nsIn K mainGlobals "signs_struck" = some (some (.ref fSStr)))
    (lSStr : K.lookup fSStr = some ⟨ocSStr, odSStr, .func (PySem.W.fnOf "signs_struck" "signs_struck" (defArgs sSStr) (defBody sSStr) (defScope sSStr) .none kVSStr dcSStr pmSStr anSStr cdSStr ctSStr), slSStr⟩)
    (cSStr : PySem.W.codeIn K cdSStr "signs_struck" = true)
    (kSStr : PySem.W.keepIn K (.ref fSStr) = true)
    (aSlT : PySem.W.nsIn K mainGlobals "slipped_turns" = some (some (.ref fSlT)))
    (lSlT : K.lookup fSlT = some ⟨ocSlT, odSlT, .func (PySem.W.fnOf "slipped_turns" "slipped_turns" (defArgs sSlT) (defBody sSlT) (defScope sSlT) .none kVSlT dcSlT pmSlT anSlT cdSlT ctSlT), slSlT⟩)
    (cSlT : PySem.W.codeIn K cdSlT "slipped_turns" = true)
    (kSlT : PySem.W.keepIn K (.ref fSlT) = true)
    (aSeen : PySem.W.nsIn K mainGlobals "seen" = some (some (.ref fSeen)))
    (lSeen : K.lookup fSeen = some ⟨ocSeen, odSeen, .func (PySem.W.fnOf "seen" "seen" (defArgs sSeen) (defBody sSeen) (defScope sSeen) .none kVSeen dcSeen pmSeen anSeen cdSeen ctSeen), slSeen⟩)
    (cSeen : PySem.W.codeIn K cdSeen "seen" = true)
    (kSeen : PySem.W.keepIn K (.ref fSeen) = true)
    (aNAm : PySem.W.nsIn K mainGlobals "need_as_many" = some (some (.ref fNAm)))
    (lNAm : K.lookup fNAm = some ⟨ocNAm, odNAm, .func (PySem.W.fnOf "need_as_many" "need_as_many" (defArgs sNAm) (defBody sNAm) (defScope sNAm) .none kVNAm dcNAm pmNAm anNAm cdNAm ctNAm), slNAm⟩)
    (cNAm : PySem.W.codeIn K cdNAm "need_as_many" = true)
    (kNAm : PySem.W.keepIn K (.ref fNAm) = true)
    (aNRp : PySem.W.nsIn K mainGlobals "need_report" = some (some (.ref fNRp)))
    (lNRp : K.lookup fNRp = some ⟨ocNRp, odNRp, .func (PySem.W.fnOf "need_report" "need_report" (defArgs sNRp) (defBody sNRp) (defScope sNRp) .none kVNRp dcNRp pmNRp anNRp cdNRp ctNRp), slNRp⟩)
    (cNRp : PySem.W.codeIn K cdNRp "need_report" = true)
    (kNRp : PySem.W.keepIn K (.ref fNRp) = true)
    (aPTd : PySem.W.nsIn K mainGlobals "places_told" = some (some (.ref fPTd)))
    (lPTd : K.lookup fPTd = some ⟨ocPTd, odPTd, .func (PySem.W.fnOf "places_told" "places_told" (defArgs sPTd) (defBody sPTd) (defScope sPTd) .none kVPTd dcPTd pmPTd anPTd cdPTd ctPTd), slPTd⟩)
    (cPTd : PySem.W.codeIn K cdPTd "places_told" = true)
    (kPTd : PySem.W.keepIn K (.ref fPTd) = true)
    (aWOn : PySem.W.nsIn K mainGlobals "ways_on" = some (some (.ref fWOn)))
    (lWOn : K.lookup fWOn = some ⟨ocWOn, odWOn, .func (PySem.W.fnOf "ways_on" "ways_on" (defArgs sWOn) (defBody sWOn) (defScope sWOn) .none kVWOn dcWOn pmWOn anWOn cdWOn ctWOn), slWOn⟩)
    (cWOn : PySem.W.codeIn K cdWOn "ways_on" = true)
    (kWOn : PySem.W.keepIn K (.ref fWOn) = true)
    (aSFo : PySem.W.nsIn K mainGlobals "slips_for" = some (some (.ref fSFo)))
    (lSFo : K.lookup fSFo = some ⟨ocSFo, odSFo, .func (PySem.W.fnOf "slips_for" "slips_for" (defArgs sSFo) (defBody sSFo) (defScope sSFo) .none kVSFo dcSFo pmSFo anSFo cdSFo ctSFo), slSFo⟩)
    (cSFo : PySem.W.codeIn K cdSFo "slips_for" = true)
    (kSFo : PySem.W.keepIn K (.ref fSFo) = true)
    (aSNe : PySem.W.nsIn K mainGlobals "slip_need" = some (some (.ref fSNe)))
    (lSNe : K.lookup fSNe = some ⟨ocSNe, odSNe, .func (PySem.W.fnOf "slip_need" "slip_need" (defArgs sSNe) (defBody sSNe) (defScope sSNe) .none kVSNe dcSNe pmSNe anSNe cdSNe ctSNe), slSNe⟩)
    (cSNe : PySem.W.codeIn K cdSNe "slip_need" = true)
    (kSNe : PySem.W.keepIn K (.ref fSNe) = true)
    (aFWy : PySem.W.nsIn K mainGlobals "first_way" = some (some (.ref fFWy)))
    (lFWy : K.lookup fFWy = some ⟨ocFWy, odFWy, .func (PySem.W.fnOf "first_way" "first_way" (defArgs sFWy) (defBody sFWy) (defScope sFWy) .none kVFWy dcFWy pmFWy anFWy cdFWy ctFWy), slFWy⟩)
    (cFWy : PySem.W.codeIn K cdFWy "first_way" = true)
    (kFWy : PySem.W.keepIn K (.ref fFWy) = true)
    (aSNs : PySem.W.nsIn K mainGlobals "slip_needs" = some (some (.ref fSNs)))
    (lSNs : K.lookup fSNs = some ⟨ocSNs, odSNs, .func (PySem.W.fnOf "slip_needs" "slip_needs" (defArgs sSNs) (defBody sSNs) (defScope sSNs) .none kVSNs dcSNs pmSNs anSNs cdSNs ctSNs), slSNs⟩)
    (cSNs : PySem.W.codeIn K cdSNs "slip_needs" = true)
    (kSNs : PySem.W.keepIn K (.ref fSNs) = true)
    (aMSl : PySem.W.nsIn K mainGlobals "many_slips" = some (some (.ref fMSl)))
    (lMSl : K.lookup fMSl = some ⟨ocMSl, odMSl, .func (PySem.W.fnOf "many_slips" "many_slips" (defArgs sMSl) (defBody sMSl) (defScope sMSl) .none kVMSl dcMSl pmMSl anMSl cdMSl ctMSl), slMSl⟩)
    (cMSl : PySem.W.codeIn K cdMSl "many_slips" = true)
    (kMSl : PySem.W.keepIn K (.ref fMSl) = true)
    (aLSl : PySem.W.nsIn K mainGlobals "least_slips" = some (some (.ref fLSl)))
    (lLSl : K.lookup fLSl = some ⟨ocLSl, odLSl, .func (PySem.W.fnOf "least_slips" "least_slips" (defArgs sLSl) (defBody sLSl) (defScope sLSl) .none kVLSl dcLSl pmLSl anLSl cdLSl ctLSl), slLSl⟩)
    (cLSl : PySem.W.codeIn K cdLSl "least_slips" = true)
    (kLSl : PySem.W.keepIn K (.ref fLSl) = true)
    (aKind : PySem.W.nsIn K mainGlobals "_law_kind" = some (some (.ref fKind)))
    (lKind : K.lookup fKind = some ⟨ocKind, odKind, .func (PySem.W.fnOf "_law_kind" "_law_kind" (defArgs sKind) (defBody sKind) (defScope sKind) .none kVKind dcKind pmKind anKind cdKind ctKind), slKind⟩)
    (cKind : PySem.W.codeIn K cdKind "_law_kind" = true)
    (kKind : PySem.W.keepIn K (.ref fKind) = true)
    (aLIsWord : PySem.W.nsIn K mainGlobals "_law_is_word" = some (some (.ref fLIsWord)))
    (lLIsWord : K.lookup fLIsWord = some ⟨ocLIsWord, odLIsWord, .func (PySem.W.fnOf "_law_is_word" "_law_is_word" (defArgs sLIsWord) (defBody sLIsWord) (defScope sLIsWord) .none kVLIsWord dcLIsWord pmLIsWord anLIsWord cdLIsWord ctLIsWord), slLIsWord⟩)
    (cLIsWord : PySem.W.codeIn K cdLIsWord "_law_is_word" = true)
    (kLIsWord : PySem.W.keepIn K (.ref fLIsWord) = true)
    (aDraws : PySem.W.nsIn K mainGlobals "_law_draws" = some (some (.ref fDraws)))
    (lDraws : K.lookup fDraws = some ⟨ocDraws, odDraws, .func (PySem.W.fnOf "_law_draws" "_law_draws" (defArgs sDraws) (defBody sDraws) (defScope sDraws) .none kVDraws dcDraws pmDraws anDraws cdDraws ctDraws), slDraws⟩)
    (cDraws : PySem.W.codeIn K cdDraws "_law_draws" = true)
    (kDraws : PySem.W.keepIn K (.ref fDraws) = true)
    (aDraw : PySem.W.nsIn K mainGlobals "_law_draw" = some (some (.ref fDraw)))
    (lDraw : K.lookup fDraw = some ⟨ocDraw, odDraw, .func (PySem.W.fnOf "_law_draw" "_law_draw" (defArgs sDraw) (defBody sDraw) (defScope sDraw) .none kVDraw dcDraw pmDraw anDraw cdDraw ctDraw), slDraw⟩)
    (cDraw : PySem.W.codeIn K cdDraw "_law_draw" = true)
    (kDraw : PySem.W.keepIn K (.ref fDraw) = true)
    (aLetters : PySem.W.nsIn K mainGlobals "_law_letters" = some (some (.ref fLetters)))
    (lLetters : K.lookup fLetters = some ⟨ocLetters, odLetters, .func (PySem.W.fnOf "_law_letters" "_law_letters" (defArgs sLetters) (defBody sLetters) (defScope sLetters) .none kVLetters dcLetters pmLetters anLetters cdLetters ctLetters), slLetters⟩)
    (cLetters : PySem.W.codeIn K cdLetters "_law_letters" = true)
    (kLetters : PySem.W.keepIn K (.ref fLetters) = true)
    (aLWheel : PySem.W.nsIn K mainGlobals "_law_wheel" = some (some (.ref fLWheel)))
    (lLWheel : K.lookup fLWheel = some ⟨ocLWheel, odLWheel, .func (PySem.W.fnOf "_law_wheel" "_law_wheel" (defArgs sLWheel) (defBody sLWheel) (defScope sLWheel) .none kVLWheel dcLWheel pmLWheel anLWheel cdLWheel ctLWheel), slLWheel⟩)
    (cLWheel : PySem.W.codeIn K cdLWheel "_law_wheel" = true)
    (kLWheel : PySem.W.keepIn K (.ref fLWheel) = true)
    (aLWord : PySem.W.nsIn K mainGlobals "_law_word" = some (some (.ref fLWord)))
    (lLWord : K.lookup fLWord = some ⟨ocLWord, odLWord, .func (PySem.W.fnOf "_law_word" "_law_word" (defArgs sLWord) (defBody sLWord) (defScope sLWord) .none kVLWord dcLWord pmLWord anLWord cdLWord ctLWord), slLWord⟩)
    (cLWord : PySem.W.codeIn K cdLWord "_law_word" = true)
    (kLWord : PySem.W.keepIn K (.ref fLWord) = true)
    (aBent : PySem.W.nsIn K mainGlobals "_law_bent" = some (some (.ref fBent)))
    (lBent : K.lookup fBent = some ⟨ocBent, odBent, .func (PySem.W.fnOf "_law_bent" "_law_bent" (defArgs sBent) (defBody sBent) (defScope sBent) .none kVBent dcBent pmBent anBent cdBent ctBent), slBent⟩)
    (cBent : PySem.W.codeIn K cdBent "_law_bent" = true)
    (kBent : PySem.W.keepIn K (.ref fBent) = true)
    (aAsk : PySem.W.nsIn K mainGlobals "_law_asked" = some (some (.ref fAsk)))
    (lAsk : K.lookup fAsk = some ⟨ocAsk, odAsk, .func (PySem.W.fnOf "_law_asked" "_law_asked" (defArgs sAsk) (defBody sAsk) (defScope sAsk) .none kVAsk dcAsk pmAsk anAsk cdAsk ctAsk), slAsk⟩)
    (cAsk : PySem.W.codeIn K cdAsk "_law_asked" = true)
    (kAsk : PySem.W.keepIn K (.ref fAsk) = true)
    (aLaw : PySem.W.nsIn K mainGlobals "law" = some (some (.ref fLaw)))
    (lLaw : K.lookup fLaw = some ⟨ocLaw, odLaw, .func (PySem.W.fnOf "law" "law" (defArgs sLaw) (defBody sLaw) (defScope sLaw) .none kVLaw dcLaw pmLaw anLaw cdLaw ctLaw), slLaw⟩)
    (cLaw : PySem.W.codeIn K cdLaw "law" = true)
    (kLaw : PySem.W.keepIn K (.ref fLaw) = true)
    (gMOST_SIGNS : PySem.W.nsIn K mainGlobals "MOST_SIGNS" = some (some (.int 80 tMOST_SIGNS)))
    (gMOST_PLACES : PySem.W.nsIn K mainGlobals "MOST_PLACES" = some (some (.int 30 tMOST_PLACES)))
    (zlen : PySem.W.nsIn K mainGlobals "len" = some none)
    (zstr : PySem.W.nsIn K mainGlobals "str" = some none)
    (zint : PySem.W.nsIn K mainGlobals "int" = some none)
    (zbool : PySem.W.nsIn K mainGlobals "bool" = some none)
    (ztuple : PySem.W.nsIn K mainGlobals "tuple" = some none)
    (zlist : PySem.W.nsIn K mainGlobals "list" = some none)
    (zdict : PySem.W.nsIn K mainGlobals "dict" = some none)
    (zset : PySem.W.nsIn K mainGlobals "set" = some none)
    (zenumerate : PySem.W.nsIn K mainGlobals "enumerate" = some none)
    (zisinstance : PySem.W.nsIn K mainGlobals "isinstance" = some none)
    (zall : PySem.W.nsIn K mainGlobals "all" = some none)
    (zany : PySem.W.nsIn K mainGlobals "any" = some none)
    (zrange : PySem.W.nsIn K mainGlobals "range" = some none)
    (zmin : PySem.W.nsIn K mainGlobals "min" = some none)
    (zmax : PySem.W.nsIn K mainGlobals "max" = some none)
    (zsum : PySem.W.nsIn K mainGlobals "sum" = some none)
    (zabs : PySem.W.nsIn K mainGlobals "abs" = some none)
    (zsorted : PySem.W.nsIn K mainGlobals "sorted" = some none)
    (zzip : PySem.W.nsIn K mainGlobals "zip" = some none)
    (zreversed : PySem.W.nsIn K mainGlobals "reversed" = some none)
    (zValueError : PySem.W.nsIn K mainGlobals "ValueError" = some none)
    (nC0 : PySem.W.nsIn K mainGlobals "Lacks" = some (some (.ref C0)))
    (nC1 : PySem.W.nsIn K mainGlobals "NoBank" = some (some (.ref C1)))
    (nC2 : PySem.W.nsIn K mainGlobals "NoBook" = some (some (.ref C2)))
    (nC3 : PySem.W.nsIn K mainGlobals "NoDeed" = some (some (.ref C3)))
    (nC4 : PySem.W.nsIn K mainGlobals "NoName" = some (some (.ref C4)))
    (nC5 : PySem.W.nsIn K mainGlobals "NoOrder" = some (some (.ref C5)))
    (nC6 : PySem.W.nsIn K mainGlobals "NoPlace" = some (some (.ref C6)))
    (nC7 : PySem.W.nsIn K mainGlobals "NoRow" = some (some (.ref C7)))
    (nC8 : PySem.W.nsIn K mainGlobals "NoSlack" = some (some (.ref C8)))
    (nC9 : PySem.W.nsIn K mainGlobals "NoText" = some (some (.ref C9)))
    (nC10 : PySem.W.nsIn K mainGlobals "NoTurns" = some (some (.ref C10)))
    (nC11 : PySem.W.nsIn K mainGlobals "NoWheel" = some (some (.ref C11)))
    (nC12 : PySem.W.nsIn K mainGlobals "NoWord" = some (some (.ref C12)))
    (nC13 : PySem.W.nsIn K mainGlobals "TooMany" = some (some (.ref C13)))
    (nCw : PySem.W.nsIn K mainGlobals "WheelError" = some (some (.ref Cw)))
    (wc : PySem.W.isClsIn K Cw = true)
    (wt : PySem.W.typeIn K (.ref Cw) = some (.type "type"))
    (wb : PySem.W.mroIn K Cw (.type "BaseException") = some true)
    (ed : PySem.W.specialIn K (.builtin "object.__class__") "__get__" = some (some (.builtin "getset_descriptor.__get__")))
    (ee : PySem.W.takesIn K (.builtin "object.__class__") = some true)
    (qa0 : PySem.W.isClsIn K C0 = true)
    (qb0 : PySem.W.typeIn K (.ref C0) = some (.type "type"))
    (qa1 : PySem.W.isClsIn K C1 = true)
    (qb1 : PySem.W.typeIn K (.ref C1) = some (.type "type"))
    (qa2 : PySem.W.isClsIn K C2 = true)
    (qb2 : PySem.W.typeIn K (.ref C2) = some (.type "type"))
    (qa3 : PySem.W.isClsIn K C3 = true)
    (qb3 : PySem.W.typeIn K (.ref C3) = some (.type "type"))
    (qa4 : PySem.W.isClsIn K C4 = true)
    (qb4 : PySem.W.typeIn K (.ref C4) = some (.type "type"))
    (qa5 : PySem.W.isClsIn K C5 = true)
    (qb5 : PySem.W.typeIn K (.ref C5) = some (.type "type"))
    (qa6 : PySem.W.isClsIn K C6 = true)
    (qb6 : PySem.W.typeIn K (.ref C6) = some (.type "type"))
    (qa7 : PySem.W.isClsIn K C7 = true)
    (qb7 : PySem.W.typeIn K (.ref C7) = some (.type "type"))
    (qa8 : PySem.W.isClsIn K C8 = true)
    (qb8 : PySem.W.typeIn K (.ref C8) = some (.type "type"))
    (qa9 : PySem.W.isClsIn K C9 = true)
    (qb9 : PySem.W.typeIn K (.ref C9) = some (.type "type"))
    (qa10 : PySem.W.isClsIn K C10 = true)
    (qb10 : PySem.W.typeIn K (.ref C10) = some (.type "type"))
    (qa11 : PySem.W.isClsIn K C11 = true)
    (qb11 : PySem.W.typeIn K (.ref C11) = some (.type "type"))
    (qa12 : PySem.W.isClsIn K C12 = true)
    (qb12 : PySem.W.typeIn K (.ref C12) = some (.type "type"))
    (qa13 : PySem.W.isClsIn K C13 = true)
    (qb13 : PySem.W.typeIn K (.ref C13) = some (.type "type"))
    (xi0 : PySem.W.excIn K C0 bmVE "ValueError.__new__" = true)
    (ws0 : PySem.W.mroIn K C0 (.ref Cw) = some true)
    (ea0 : PySem.W.findIn K (.ref C0) "__getattribute__" = some (some (.builtin "BaseException.__getattribute__")))
    (eb0 : PySem.W.findIn K (.ref C0) "__getattr__" = some none)
    (ec0 : PySem.W.findIn K (.ref C0) "__class__" = some (some (.builtin "object.__class__")))
    (ef0 : PySem.W.mroIn K C0 (.type "object") = some true)
    (eg0 : PySem.W.mroIn K C0 (.type "BaseException") = some true)
    (qc0_1 : PySem.W.subIn K (.ref C0) (.ref C1) = some false)
    (qd0_1 : Nat.beq C0 C1 = false)
    (qc0_2 : PySem.W.subIn K (.ref C0) (.ref C2) = some false)
    (qd0_2 : Nat.beq C0 C2 = false)
    (qc0_3 : PySem.W.subIn K (.ref C0) (.ref C3) = some false)
    (qd0_3 : Nat.beq C0 C3 = false)
    (qc0_4 : PySem.W.subIn K (.ref C0) (.ref C4) = some false)
    (qd0_4 : Nat.beq C0 C4 = false)
    (qc0_5 : PySem.W.subIn K (.ref C0) (.ref C5) = some false)
    (qd0_5 : Nat.beq C0 C5 = false)
    (qc0_6 : PySem.W.subIn K (.ref C0) (.ref C6) = some false)
    (qd0_6 : Nat.beq C0 C6 = false)
    (qc0_7 : PySem.W.subIn K (.ref C0) (.ref C7) = some false)
    (qd0_7 : Nat.beq C0 C7 = false)
    (qc0_8 : PySem.W.subIn K (.ref C0) (.ref C8) = some false)
    (qd0_8 : Nat.beq C0 C8 = false)
    (qc0_9 : PySem.W.subIn K (.ref C0) (.ref C9) = some false)
    (qd0_9 : Nat.beq C0 C9 = false)
    (qc0_10 : PySem.W.subIn K (.ref C0) (.ref C10) = some false)
    (qd0_10 : Nat.beq C0 C10 = false)
    (qc0_11 : PySem.W.subIn K (.ref C0) (.ref C11) = some false)
    (qd0_11 : Nat.beq C0 C11 = false)
    (qc0_12 : PySem.W.subIn K (.ref C0) (.ref C12) = some false)
    (qd0_12 : Nat.beq C0 C12 = false)
    (qc0_13 : PySem.W.subIn K (.ref C0) (.ref C13) = some false)
    (qd0_13 : Nat.beq C0 C13 = false)
    (qe0 : PySem.W.subIn K (.ref C0) (.type "ValueError") = some true)
    (xi10 : PySem.W.excIn K C10 bmVE "ValueError.__new__" = true)
    (ws10 : PySem.W.mroIn K C10 (.ref Cw) = some true)
    (ea10 : PySem.W.findIn K (.ref C10) "__getattribute__" = some (some (.builtin "BaseException.__getattribute__")))
    (eb10 : PySem.W.findIn K (.ref C10) "__getattr__" = some none)
    (ec10 : PySem.W.findIn K (.ref C10) "__class__" = some (some (.builtin "object.__class__")))
    (ef10 : PySem.W.mroIn K C10 (.type "object") = some true)
    (eg10 : PySem.W.mroIn K C10 (.type "BaseException") = some true)
    (qc10_0 : PySem.W.subIn K (.ref C10) (.ref C0) = some false)
    (qd10_0 : Nat.beq C10 C0 = false)
    (qc10_1 : PySem.W.subIn K (.ref C10) (.ref C1) = some false)
    (qd10_1 : Nat.beq C10 C1 = false)
    (qc10_2 : PySem.W.subIn K (.ref C10) (.ref C2) = some false)
    (qd10_2 : Nat.beq C10 C2 = false)
    (qc10_3 : PySem.W.subIn K (.ref C10) (.ref C3) = some false)
    (qd10_3 : Nat.beq C10 C3 = false)
    (qc10_4 : PySem.W.subIn K (.ref C10) (.ref C4) = some false)
    (qd10_4 : Nat.beq C10 C4 = false)
    (qc10_5 : PySem.W.subIn K (.ref C10) (.ref C5) = some false)
    (qd10_5 : Nat.beq C10 C5 = false)
    (qc10_6 : PySem.W.subIn K (.ref C10) (.ref C6) = some false)
    (qd10_6 : Nat.beq C10 C6 = false)
    (qc10_7 : PySem.W.subIn K (.ref C10) (.ref C7) = some false)
    (qd10_7 : Nat.beq C10 C7 = false)
    (qc10_8 : PySem.W.subIn K (.ref C10) (.ref C8) = some false)
    (qd10_8 : Nat.beq C10 C8 = false)
    (qc10_9 : PySem.W.subIn K (.ref C10) (.ref C9) = some false)
    (qd10_9 : Nat.beq C10 C9 = false)
    (qc10_11 : PySem.W.subIn K (.ref C10) (.ref C11) = some false)
    (qd10_11 : Nat.beq C10 C11 = false)
    (qc10_12 : PySem.W.subIn K (.ref C10) (.ref C12) = some false)
    (qd10_12 : Nat.beq C10 C12 = false)
    (qc10_13 : PySem.W.subIn K (.ref C10) (.ref C13) = some false)
    (qd10_13 : Nat.beq C10 C13 = false)
    (qe10 : PySem.W.subIn K (.ref C10) (.type "ValueError") = some true)
    (xi11 : PySem.W.excIn K C11 bmVE "ValueError.__new__" = true)
    (ws11 : PySem.W.mroIn K C11 (.ref Cw) = some true)
    (ea11 : PySem.W.findIn K (.ref C11) "__getattribute__" = some (some (.builtin "BaseException.__getattribute__")))
    (eb11 : PySem.W.findIn K (.ref C11) "__getattr__" = some none)
    (ec11 : PySem.W.findIn K (.ref C11) "__class__" = some (some (.builtin "object.__class__")))
    (ef11 : PySem.W.mroIn K C11 (.type "object") = some true)
    (eg11 : PySem.W.mroIn K C11 (.type "BaseException") = some true)
    (qc11_0 : PySem.W.subIn K (.ref C11) (.ref C0) = some false)
    (qd11_0 : Nat.beq C11 C0 = false)
    (qc11_1 : PySem.W.subIn K (.ref C11) (.ref C1) = some false)
    (qd11_1 : Nat.beq C11 C1 = false)
    (qc11_2 : PySem.W.subIn K (.ref C11) (.ref C2) = some false)
    (qd11_2 : Nat.beq C11 C2 = false)
    (qc11_3 : PySem.W.subIn K (.ref C11) (.ref C3) = some false)
    (qd11_3 : Nat.beq C11 C3 = false)
    (qc11_4 : PySem.W.subIn K (.ref C11) (.ref C4) = some false)
    (qd11_4 : Nat.beq C11 C4 = false)
    (qc11_5 : PySem.W.subIn K (.ref C11) (.ref C5) = some false)
    (qd11_5 : Nat.beq C11 C5 = false)
    (qc11_6 : PySem.W.subIn K (.ref C11) (.ref C6) = some false)
    (qd11_6 : Nat.beq C11 C6 = false)
    (qc11_7 : PySem.W.subIn K (.ref C11) (.ref C7) = some false)
    (qd11_7 : Nat.beq C11 C7 = false)
    (qc11_8 : PySem.W.subIn K (.ref C11) (.ref C8) = some false)
    (qd11_8 : Nat.beq C11 C8 = false)
    (qc11_9 : PySem.W.subIn K (.ref C11) (.ref C9) = some false)
    (qd11_9 : Nat.beq C11 C9 = false)
    (qc11_10 : PySem.W.subIn K (.ref C11) (.ref C10) = some false)
    (qd11_10 : Nat.beq C11 C10 = false)
    (qc11_12 : PySem.W.subIn K (.ref C11) (.ref C12) = some false)
    (qd11_12 : Nat.beq C11 C12 = false)
    (qc11_13 : PySem.W.subIn K (.ref C11) (.ref C13) = some false)
    (qd11_13 : Nat.beq C11 C13 = false)
    (qe11 : PySem.W.subIn K (.ref C11) (.type "ValueError") = some true)
    (xi12 : PySem.W.excIn K C12 bmVE "ValueError.__new__" = true)
    (ws12 : PySem.W.mroIn K C12 (.ref Cw) = some true)
    (ea12 : PySem.W.findIn K (.ref C12) "__getattribute__" = some (some (.builtin "BaseException.__getattribute__")))
    (eb12 : PySem.W.findIn K (.ref C12) "__getattr__" = some none)
    (ec12 : PySem.W.findIn K (.ref C12) "__class__" = some (some (.builtin "object.__class__")))
    (ef12 : PySem.W.mroIn K C12 (.type "object") = some true)
    (eg12 : PySem.W.mroIn K C12 (.type "BaseException") = some true)
    (qc12_0 : PySem.W.subIn K (.ref C12) (.ref C0) = some false)
    (qd12_0 : Nat.beq C12 C0 = false)
    (qc12_1 : PySem.W.subIn K (.ref C12) (.ref C1) = some false)
    (qd12_1 : Nat.beq C12 C1 = false)
    (qc12_2 : PySem.W.subIn K (.ref C12) (.ref C2) = some false)
    (qd12_2 : Nat.beq C12 C2 = false)
    (qc12_3 : PySem.W.subIn K (.ref C12) (.ref C3) = some false)
    (qd12_3 : Nat.beq C12 C3 = false)
    (qc12_4 : PySem.W.subIn K (.ref C12) (.ref C4) = some false)
    (qd12_4 : Nat.beq C12 C4 = false)
    (qc12_5 : PySem.W.subIn K (.ref C12) (.ref C5) = some false)
    (qd12_5 : Nat.beq C12 C5 = false)
    (qc12_6 : PySem.W.subIn K (.ref C12) (.ref C6) = some false)
    (qd12_6 : Nat.beq C12 C6 = false)
    (qc12_7 : PySem.W.subIn K (.ref C12) (.ref C7) = some false)
    (qd12_7 : Nat.beq C12 C7 = false)
    (qc12_8 : PySem.W.subIn K (.ref C12) (.ref C8) = some false)
    (qd12_8 : Nat.beq C12 C8 = false)
    (qc12_9 : PySem.W.subIn K (.ref C12) (.ref C9) = some false)
    (qd12_9 : Nat.beq C12 C9 = false)
    (qc12_10 : PySem.W.subIn K (.ref C12) (.ref C10) = some false)
    (qd12_10 : Nat.beq C12 C10 = false)
    (qc12_11 : PySem.W.subIn K (.ref C12) (.ref C11) = some false)
    (qd12_11 : Nat.beq C12 C11 = false)
    (qc12_13 : PySem.W.subIn K (.ref C12) (.ref C13) = some false)
    (qd12_13 : Nat.beq C12 C13 = false)
    (qe12 : PySem.W.subIn K (.ref C12) (.type "ValueError") = some true) :
    ∃ fd : FuncData, (∀ (s : Shared) (v : Value), BindsTo s fd ⟨[v], []⟩ [("script", v)]) ∧ ∀ base : Heap, K.In base → base.Ns mainGlobals mg → FnOk l.prog w K mg base CX0 8 fa fd ["script"] (spLaw K) := by
  have e := hfa.symm.trans (PySem.W.mg_of X G aLaw)
  cases e
  have T : Txt mg := ⟨PySem.W.mg_none_of X G zlen, PySem.W.mg_none_of X G zstr, PySem.W.mg_none_of X G zint, PySem.W.mg_none_of X G zbool, PySem.W.mg_none_of X G ztuple, PySem.W.mg_none_of X G zlist, PySem.W.mg_none_of X G zdict, PySem.W.mg_none_of X G zset, PySem.W.mg_none_of X G zenumerate, PySem.W.mg_none_of X G zisinstance, PySem.W.mg_none_of X G zall, PySem.W.mg_none_of X G zany, PySem.W.mg_none_of X G zrange, PySem.W.mg_none_of X G zmin, PySem.W.mg_none_of X G zmax, PySem.W.mg_none_of X G zsum, PySem.W.mg_none_of X G zabs, PySem.W.mg_none_of X G zsorted, PySem.W.mg_none_of X G zzip, PySem.W.mg_none_of X G zreversed, PySem.W.mg_none_of X G zValueError⟩
  have g_MOST_SIGNS : GInt mg "MOST_SIGNS" 80 := ⟨_, PySem.W.mg_of X G gMOST_SIGNS⟩
  have g_MOST_PLACES : GInt mg "MOST_PLACES" 30 := ⟨_, PySem.W.mg_of X G gMOST_PLACES⟩
  have FSign := fun_mk (st := sSign) lSign cSign kSign
  have D_Sign : Def K mg "is_sign" sSign ["mark"] := ⟨_, _, FSign, PySem.W.mg_of X G aSign, FSign.binds (ps := ["mark"]) fun _ _ _ _ _ _ us hl => match us, hl with | [_], _ => rfl⟩
  have FWord := fun_mk (st := sWord) lWord cWord kWord
  have D_Word : Def K mg "is_word" sWord ["thing"] := ⟨_, _, FWord, PySem.W.mg_of X G aWord, FWord.binds (ps := ["thing"]) fun _ _ _ _ _ _ us hl => match us, hl with | [_], _ => rfl⟩
  have FNWord := fun_mk (st := sNWord) lNWord cNWord kNWord
  have D_NWord : Def K mg "need_word" sNWord ["word"] := ⟨_, _, FNWord, PySem.W.mg_of X G aNWord, FNWord.binds (ps := ["word"]) fun _ _ _ _ _ _ us hl => match us, hl with | [_], _ => rfl⟩
  have FWheel := fun_mk (st := sWheel) lWheel cWheel kWheel
  have D_Wheel : Def K mg "is_wheel" sWheel ["thing"] := ⟨_, _, FWheel, PySem.W.mg_of X G aWheel, FWheel.binds (ps := ["thing"]) fun _ _ _ _ _ _ us hl => match us, hl with | [_], _ => rfl⟩
  have FNeed := fun_mk (st := sNeed) lNeed cNeed kNeed
  have D_Need : Def K mg "need_wheel" sNeed ["wheel"] := ⟨_, _, FNeed, PySem.W.mg_of X G aNeed, FNeed.binds (ps := ["wheel"]) fun _ _ _ _ _ _ us hl => match us, hl with | [_], _ => rfl⟩
  have FBest := fun_mk (st := sBest) lBest cBest kBest
  have D_Best : Def K mg "best_of" sBest ["found"] := ⟨_, _, FBest, PySem.W.mg_of X G aBest, FBest.binds (ps := ["found"]) fun _ _ _ _ _ _ us hl => match us, hl with | [_], _ => rfl⟩
  have FSStr := fun_mk (st := sSStr) lSStr cSStr kSStr
  have D_SStr : Def K mg "signs_struck" sSStr ["wheel", "turns"] := ⟨_, _, FSStr, PySem.W.mg_of X G aSStr, FSStr.binds (ps := ["wheel", "turns"]) fun _ _ _ _ _ _ us hl => match us, hl with | [_, _], _ => rfl⟩
  have FSlT := fun_mk (st := sSlT) lSlT cSlT kSlT
  have D_SlT : Def K mg "slipped_turns" sSlT ["turns", "slips"] := ⟨_, _, FSlT, PySem.W.mg_of X G aSlT, FSlT.binds (ps := ["turns", "slips"]) fun _ _ _ _ _ _ us hl => match us, hl with | [_, _], _ => rfl⟩
  have FSeen := fun_mk (st := sSeen) lSeen cSeen kSeen
  have D_Seen : Def K mg "seen" sSeen ["wheel", "turns", "slips"] := ⟨_, _, FSeen, PySem.W.mg_of X G aSeen, FSeen.binds (ps := ["wheel", "turns", "slips"]) fun _ _ _ _ _ _ us hl => match us, hl with | [_, _, _], _ => rfl⟩
  have FNAm := fun_mk (st := sNAm) lNAm cNAm kNAm
  have D_NAm : Def K mg "need_as_many" sNAm ["turns", "word"] := ⟨_, _, FNAm, PySem.W.mg_of X G aNAm, FNAm.binds (ps := ["turns", "word"]) fun _ _ _ _ _ _ us hl => match us, hl with | [_, _], _ => rfl⟩
  have FNRp := fun_mk (st := sNRp) lNRp cNRp kNRp
  have D_NRp : Def K mg "need_report" sNRp ["wheel", "turns", "word"] := ⟨_, _, FNRp, PySem.W.mg_of X G aNRp, FNRp.binds (ps := ["wheel", "turns", "word"]) fun _ _ _ _ _ _ us hl => match us, hl with | [_, _, _], _ => rfl⟩
  have FPTd := fun_mk (st := sPTd) lPTd cPTd kPTd
  have D_PTd : Def K mg "places_told" sPTd ["wheel", "turns"] := ⟨_, _, FPTd, PySem.W.mg_of X G aPTd, FPTd.binds (ps := ["wheel", "turns"]) fun _ _ _ _ _ _ us hl => match us, hl with | [_, _], _ => rfl⟩
  have FWOn := fun_mk (st := sWOn) lWOn cWOn kWOn
  have D_WOn : Def K mg "ways_on" sWOn ["wheel", "place", "off", "sign"] := ⟨_, _, FWOn, PySem.W.mg_of X G aWOn, FWOn.binds (ps := ["wheel", "place", "off", "sign"]) fun _ _ _ _ _ _ us hl => match us, hl with | [_, _, _, _], _ => rfl⟩
  have FSFo := fun_mk (st := sSFo) lSFo cSFo kSFo
  have D_SFo : Def K mg "slips_for" sSFo ["by"] := ⟨_, _, FSFo, PySem.W.mg_of X G aSFo, FSFo.binds (ps := ["by"]) fun _ _ _ _ _ _ us hl => match us, hl with | [_], _ => rfl⟩
  have FSNe := fun_mk (st := sSNe) lSNe cSNe kSNe
  have D_SNe : Def K mg "slip_need" sSNe ["ways", "behind"] := ⟨_, _, FSNe, PySem.W.mg_of X G aSNe, FSNe.binds (ps := ["ways", "behind"]) fun _ _ _ _ _ _ us hl => match us, hl with | [_, _], _ => rfl⟩
  have FFWy := fun_mk (st := sFWy) lFWy cFWy kFWy
  have D_FWy : Def K mg "first_way" sFWy ["ways", "fewest", "behind"] := ⟨_, _, FFWy, PySem.W.mg_of X G aFWy, FFWy.binds (ps := ["ways", "fewest", "behind"]) fun _ _ _ _ _ _ us hl => match us, hl with | [_, _, _], _ => rfl⟩
  have FSNs := fun_mk (st := sSNs) lSNs cSNs kSNs
  have D_SNs : Def K mg "slip_needs" sSNs ["wheel", "places", "word"] := ⟨_, _, FSNs, PySem.W.mg_of X G aSNs, FSNs.binds (ps := ["wheel", "places", "word"]) fun _ _ _ _ _ _ us hl => match us, hl with | [_, _, _], _ => rfl⟩
  have FMSl := fun_mk (st := sMSl) lMSl cMSl kMSl
  have D_MSl : Def K mg "many_slips" sMSl ["wheel", "turns", "word"] := ⟨_, _, FMSl, PySem.W.mg_of X G aMSl, FMSl.binds (ps := ["wheel", "turns", "word"]) fun _ _ _ _ _ _ us hl => match us, hl with | [_, _, _], _ => rfl⟩
  have FLSl := fun_mk (st := sLSl) lLSl cLSl kLSl
  have D_LSl : Def K mg "least_slips" sLSl ["wheel", "turns", "word"] := ⟨_, _, FLSl, PySem.W.mg_of X G aLSl, FLSl.binds (ps := ["wheel", "turns", "word"]) fun _ _ _ _ _ _ us hl => match us, hl with | [_, _, _], _ => rfl⟩
  have FKind := fun_mk (st := sKind) lKind cKind kKind
  have D_Kind : Def K mg "_law_kind" sKind ["e"] := ⟨_, _, FKind, PySem.W.mg_of X G aKind, FKind.binds (ps := ["e"]) fun _ _ _ _ _ _ us hl => match us, hl with | [_], _ => rfl⟩
  have FLIsWord := fun_mk (st := sLIsWord) lLIsWord cLIsWord kLIsWord
  have D_LIsWord : Def K mg "_law_is_word" sLIsWord ["text"] := ⟨_, _, FLIsWord, PySem.W.mg_of X G aLIsWord, FLIsWord.binds (ps := ["text"]) fun _ _ _ _ _ _ us hl => match us, hl with | [_], _ => rfl⟩
  have FDraws := fun_mk (st := sDraws) lDraws cDraws kDraws
  have D_Draws : Def K mg "_law_draws" sDraws ["script", "k"] := ⟨_, _, FDraws, PySem.W.mg_of X G aDraws, FDraws.binds (ps := ["script", "k"]) fun _ _ _ _ _ _ us hl => match us, hl with | [_, _], _ => rfl⟩
  have FDraw := fun_mk (st := sDraw) lDraw cDraw kDraw
  have D_Draw : Def K mg "_law_draw" sDraw ["draws", "many"] := ⟨_, _, FDraw, PySem.W.mg_of X G aDraw, FDraw.binds (ps := ["draws", "many"]) fun _ _ _ _ _ _ us hl => match us, hl with | [_, _], _ => rfl⟩
  have FLetters := fun_mk (st := sLetters) lLetters cLetters kLetters
  have D_Letters : Def K mg "_law_letters" sLetters ["draws", "many", "kinds"] := ⟨_, _, FLetters, PySem.W.mg_of X G aLetters, FLetters.binds (ps := ["draws", "many", "kinds"]) fun _ _ _ _ _ _ us hl => match us, hl with | [_, _, _], _ => rfl⟩
  have FLWheel := fun_mk (st := sLWheel) lLWheel cLWheel kLWheel
  have D_LWheel : Def K mg "_law_wheel" sLWheel ["draws", "most"] := ⟨_, _, FLWheel, PySem.W.mg_of X G aLWheel, FLWheel.binds (ps := ["draws", "most"]) fun _ _ _ _ _ _ us hl => match us, hl with | [_, _], _ => rfl⟩
  have FLWord := fun_mk (st := sLWord) lLWord cLWord kLWord
  have D_LWord : Def K mg "_law_word" sLWord ["draws", "wheel", "most"] := ⟨_, _, FLWord, PySem.W.mg_of X G aLWord, FLWord.binds (ps := ["draws", "wheel", "most"]) fun _ _ _ _ _ _ us hl => match us, hl with | [_, _, _], _ => rfl⟩
  have FBent := fun_mk (st := sBent) lBent cBent kBent
  have D_Bent : Def K mg "_law_bent" sBent ["text", "draws"] := ⟨_, _, FBent, PySem.W.mg_of X G aBent, FBent.binds (ps := ["text", "draws"]) fun _ _ _ _ _ _ us hl => match us, hl with | [_, _], _ => rfl⟩
  have FAsk := fun_mk (st := sAsk) lAsk cAsk kAsk
  have D_Ask : Def K mg "_law_asked" sAsk ["door", "wheel", "turns", "word"] := ⟨_, _, FAsk, PySem.W.mg_of X G aAsk, FAsk.binds (ps := ["door", "wheel", "turns", "word"]) fun _ _ _ _ _ _ us hl => match us, hl with | [_, _, _, _], _ => rfl⟩
  have FLaw := fun_mk (st := sLaw) lLaw cLaw kLaw
  have R : Ref K mg ⟨C0, C1, C2, C3, C4, C5, C6, C7, C8, C9, C10, C11, C12, C13⟩ := ⟨PySem.W.mg_of X G nC0, PySem.W.mg_of X G nC1, PySem.W.mg_of X G nC2, PySem.W.mg_of X G nC3, PySem.W.mg_of X G nC4, PySem.W.mg_of X G nC5, PySem.W.mg_of X G nC6, PySem.W.mg_of X G nC7, PySem.W.mg_of X G nC8, PySem.W.mg_of X G nC9, PySem.W.mg_of X G nC10, PySem.W.mg_of X G nC11, PySem.W.mg_of X G nC12, PySem.W.mg_of X G nC13⟩
  have mW := PySem.W.mg_of X G nCw
  have ZW : CatchK K Cw := ⟨wc, wt, wb⟩
  have n0 := PySem.W.mg_of X G nC0
  have kit0 : Kit K ⟨C0, C1, C2, C3, C4, C5, C6, C7, C8, C9, C10, C11, C12, C13⟩ C0 (bsAt 0) := ⟨⟨_, _, _, _, _, _, _, _, _, _, _, _, _, _, _, rfl, kit_self, kit_ref qd0_1 qa1 qb1 qc0_1, kit_ref qd0_2 qa2 qb2 qc0_2, kit_ref qd0_3 qa3 qb3 qc0_3, kit_ref qd0_4 qa4 qb4 qc0_4, kit_ref qd0_5 qa5 qb5 qc0_5, kit_ref qd0_6 qa6 qb6 qc0_6, kit_ref qd0_7 qa7 qb7 qc0_7, kit_ref qd0_8 qa8 qb8 qc0_8, kit_ref qd0_9 qa9 qb9 qc0_9, kit_ref qd0_10 qa10 qb10 qc0_10, kit_ref qd0_11 qa11 qb11 qc0_11, kit_ref qd0_12 qa12 qb12 qc0_12, kit_ref qd0_13 qa13 qb13 qc0_13, kit_ty (by decide +kernel) (by rfl) qe0⟩, ⟨ea0, eb0, ec0, ed, ee, ef0, eg0, qa0⟩⟩
  have n10 := PySem.W.mg_of X G nC10
  have kit10 : Kit K ⟨C0, C1, C2, C3, C4, C5, C6, C7, C8, C9, C10, C11, C12, C13⟩ C10 (bsAt 10) := ⟨⟨_, _, _, _, _, _, _, _, _, _, _, _, _, _, _, rfl, kit_ref qd10_0 qa0 qb0 qc10_0, kit_ref qd10_1 qa1 qb1 qc10_1, kit_ref qd10_2 qa2 qb2 qc10_2, kit_ref qd10_3 qa3 qb3 qc10_3, kit_ref qd10_4 qa4 qb4 qc10_4, kit_ref qd10_5 qa5 qb5 qc10_5, kit_ref qd10_6 qa6 qb6 qc10_6, kit_ref qd10_7 qa7 qb7 qc10_7, kit_ref qd10_8 qa8 qb8 qc10_8, kit_ref qd10_9 qa9 qb9 qc10_9, kit_self, kit_ref qd10_11 qa11 qb11 qc10_11, kit_ref qd10_12 qa12 qb12 qc10_12, kit_ref qd10_13 qa13 qb13 qc10_13, kit_ty (by decide +kernel) (by rfl) qe10⟩, ⟨ea10, eb10, ec10, ed, ee, ef10, eg10, qa10⟩⟩
  have n11 := PySem.W.mg_of X G nC11
  have kit11 : Kit K ⟨C0, C1, C2, C3, C4, C5, C6, C7, C8, C9, C10, C11, C12, C13⟩ C11 (bsAt 11) := ⟨⟨_, _, _, _, _, _, _, _, _, _, _, _, _, _, _, rfl, kit_ref qd11_0 qa0 qb0 qc11_0, kit_ref qd11_1 qa1 qb1 qc11_1, kit_ref qd11_2 qa2 qb2 qc11_2, kit_ref qd11_3 qa3 qb3 qc11_3, kit_ref qd11_4 qa4 qb4 qc11_4, kit_ref qd11_5 qa5 qb5 qc11_5, kit_ref qd11_6 qa6 qb6 qc11_6, kit_ref qd11_7 qa7 qb7 qc11_7, kit_ref qd11_8 qa8 qb8 qc11_8, kit_ref qd11_9 qa9 qb9 qc11_9, kit_ref qd11_10 qa10 qb10 qc11_10, kit_self, kit_ref qd11_12 qa12 qb12 qc11_12, kit_ref qd11_13 qa13 qb13 qc11_13, kit_ty (by decide +kernel) (by rfl) qe11⟩, ⟨ea11, eb11, ec11, ed, ee, ef11, eg11, qa11⟩⟩
  have n12 := PySem.W.mg_of X G nC12
  have kit12 : Kit K ⟨C0, C1, C2, C3, C4, C5, C6, C7, C8, C9, C10, C11, C12, C13⟩ C12 (bsAt 12) := ⟨⟨_, _, _, _, _, _, _, _, _, _, _, _, _, _, _, rfl, kit_ref qd12_0 qa0 qb0 qc12_0, kit_ref qd12_1 qa1 qb1 qc12_1, kit_ref qd12_2 qa2 qb2 qc12_2, kit_ref qd12_3 qa3 qb3 qc12_3, kit_ref qd12_4 qa4 qb4 qc12_4, kit_ref qd12_5 qa5 qb5 qc12_5, kit_ref qd12_6 qa6 qb6 qc12_6, kit_ref qd12_7 qa7 qb7 qc12_7, kit_ref qd12_8 qa8 qb8 qc12_8, kit_ref qd12_9 qa9 qb9 qc12_9, kit_ref qd12_10 qa10 qb10 qc12_10, kit_ref qd12_11 qa11 qb11 qc12_11, kit_self, kit_ref qd12_13 qa13 qb13 qc12_13, kit_ty (by decide +kernel) (by rfl) qe12⟩, ⟨ea12, eb12, ec12, ed, ee, ef12, eg12, qa12⟩⟩
  refine ⟨PySem.W.fnOf "law" "law" (defArgs sLaw) (defBody sLaw) (defScope sLaw) .none kVLaw dcLaw pmLaw anLaw cdLaw ctLaw, fun s v => .of_eq rfl, fun base _ _ => ?_⟩
  have CWd := cal_word (P := l.prog) (w := w) (base := base) D_Word T g_MOST_SIGNS D_Sign
  have CWl := cal_wheel D_Wheel T g_MOST_PLACES CWd
  have CNd := cal_need D_Need T CWl n11 xi11
  have CNw := cal_nword D_NWord T CWd n12 xi12
  have CNr := cal_nrp (P := l.prog) (w := w) (base := base) D_NRp T CNd CNw (cal_nam D_NAm T n10 xi10) n0 xi0
  have CPt := cal_ptd (P := l.prog) (w := w) (base := base) D_PTd T
  have CWo := cal_won (P := l.prog) (w := w) (base := base) D_WOn T
  have CSf := cal_sfo (P := l.prog) (w := w) (base := base) D_SFo T
  have CSn := cal_sne (P := l.prog) (w := w) (base := base) D_SNe T CSf (cal_best (P := l.prog) (w := w) (base := base) D_Best T)
  have CFw := cal_fwy (P := l.prog) (w := w) (base := base) D_FWy T CSf
  have CSs := cal_sns D_SNs T CWo CSn
  have CMs := cal_msl D_MSl T CNr CPt CSs
  have CLs := cal_lsl D_LSl T CNr CPt CWo CSs CFw
  have CSe := cal_seen D_Seen T CNd (cal_sstr (P := l.prog) (w := w) (base := base) D_SStr T) (cal_slt D_SlT T)
  have CAs := cal_ask (fun l ts o H Q k => fun D qs H' s _ _ => k _ _ s) (fun l ts o H Q k => fun H' s => k _ _ s) D_Ask T CLs CMs CSe (cal_kind D_Kind T R) mW ZW ws11 kit11 ws12 kit12 ws10 kit10 ws0 kit0
  have CDw := cal_draw (P := l.prog) (w := w) (base := base) D_Draw
  exact ok_law FLaw T (cal_draws D_Draws T) CDw (cal_letters D_Letters T D_Draw) (cal_lwheel (P := l.prog) (w := w) (base := base) D_LWheel T D_Draw D_Letters) (cal_lword D_LWord T CDw) (cal_bent (P := l.prog) (w := w) (base := base) D_Bent T D_Draw) (cal_liw D_LIsWord T) CAs
theorem walk {l : PySem.W.OpenLaw} {q : Program} {loose : List Str} {XP : (Str → Option Value) → Heap → Prop} {YP : World → Heap → Prop} {d : DefRec} {K : Params → PySem.W.Frag} (hn : l.most = some 63) (hdf : d.params.defaults = [])
    (hY : ∀ (w : World) (h : Heap), YP w h → (K w.params).In h)
    (F : ∀ (w : World) (mg : Str → Option Value) (fa : Addr) (h : Heap), (K w.params).In h → h.Ns mainGlobals mg → mg d.name = some (.ref fa) →
      ∃ fd : FuncData, (∀ (s : Shared) (u : Value), BindsTo s fd ⟨[u], []⟩ [("script", u)]) ∧ ∀ base : Heap, (K w.params).In base → base.Ns mainGlobals mg → FnOk l.prog w (K w.params) mg base CX0 8 fa fd ["script"] (spLaw (K w.params))) :
    PySem.W.WalkO q loose XP YP l.row.toRowW d [] (fun f vs => PySem.call f vs) :=
  L2.walk_of (n := 63) (k := 8) (x := "script") (CX := fun _ => CX0) (sp := fun w => spLaw (K w.params)) hn (by decide) hdf ⟨rfl, by decide, by decide⟩ hY F (fun _ _ a ns hl _ hS => ⟨a, ns, rfl, hS, hl, fun _ => rfl⟩) fun _ _ _ _ _ z => z
end W
open PySem PySem.W PyProof.Rows
set_option maxRecDepth 100000 in
set_option maxHeartbeats 0 in
theorem PySem.Challenge.cw_strikewheel_k53_slips_refused_holds : PySem.Challenge.rw_strikewheel_k53_slips_refused.Holds := by
  w_on; o_law; k_head; (case hw => w_witness2)
  k_fill
  refine W.walk (l := PySem.Challenge.rw_strikewheel_k53_slips_refused) rfl rfl (fun w h Y => PySem.W.kIn_of Y) ?F
  case F =>
    intro w mg fa h KX G hmg
    refine' W.all_mk KX G hmg ?aSign ?lSign ?cSign ?kSign ?aWord ?lWord ?cWord ?kWord ?aNWord ?lNWord ?cNWord ?kNWord ?aWheel ?lWheel ?cWheel ?kWheel ?aNeed ?lNeed ?cNeed ?kNeed ?aBest ?lBest ?cBest ?kBest ?aSStr ?lSStr ?cSStr ?kSStr ?aSlT ?lSlT ?cSlT ?kSlT ?aSeen ?lSeen ?cSeen ?kSeen ?aNAm ?lNAm ?cNAm ?kNAm ?aNRp ?lNRp ?cNRp ?kNRp ?aPTd ?lPTd ?cPTd ?kPTd ?aWOn ?lWOn ?cWOn ?kWOn ?aSFo ?lSFo ?cSFo ?kSFo ?aSNe ?lSNe ?cSNe ?kSNe ?aFWy ?lFWy ?cFWy ?kFWy ?aSNs ?lSNs ?cSNs ?kSNs ?aMSl ?lMSl ?cMSl ?kMSl ?aLSl ?lLSl ?cLSl ?kLSl ?aKind ?lKind ?cKind ?kKind ?aLIsWord ?lLIsWord ?cLIsWord ?kLIsWord ?aDraws ?lDraws ?cDraws ?kDraws ?aDraw ?lDraw ?cDraw ?kDraw ?aLetters ?lLetters ?cLetters ?kLetters ?aLWheel ?lLWheel ?cLWheel ?kLWheel ?aLWord ?lLWord ?cLWord ?kLWord ?aBent ?lBent ?cBent ?kBent ?aAsk ?lAsk ?cAsk ?kAsk ?aLaw ?lLaw ?cLaw ?kLaw ?gMOST_SIGNS ?gMOST_PLACES ?zlen ?zstr ?zint ?zbool ?ztuple ?zlist ?zdict ?zset ?zenumerate ?zisinstance ?zall ?zany ?zrange ?zmin ?zmax ?zsum ?zabs ?zsorted ?zzip ?zreversed ?zValueError ?nC0 ?nC1 ?nC2 ?nC3 ?nC4 ?nC5 ?nC6 ?nC7 ?nC8 ?nC9 ?nC10 ?nC11 ?nC12 ?nC13 ?nCw ?wc ?wt ?wb ?ed ?ee ?qa0 ?qb0 ?qa1 ?qb1 ?qa2 ?qb2 ?qa3 ?qb3 ?qa4 ?qb4 ?qa5 ?qb5 ?qa6 ?qb6 ?qa7 ?qb7 ?qa8 ?qb8 ?qa9 ?qb9 ?qa10 ?qb10 ?qa11 ?qb11 ?qa12 ?qb12 ?qa13 ?qb13 ?xi0 ?ws0 ?ea0 ?eb0 ?ec0 ?ef0 ?eg0 ?qc0_1 ?qd0_1 ?qc0_2 ?qd0_2 ?qc0_3 ?qd0_3 ?qc0_4 ?qd0_4 ?qc0_5 ?qd0_5 ?qc0_6 ?qd0_6 ?qc0_7 ?qd0_7 ?qc0_8 ?qd0_8 ?qc0_9 ?qd0_9 ?qc0_10 ?qd0_10 ?qc0_11 ?qd0_11 ?qc0_12 ?qd0_12 ?qc0_13 ?qd0_13 ?qe0 ?xi10 ?ws10 ?ea10 ?eb10 ?ec10 ?ef10 ?eg10 ?qc10_0 ?qd10_0 ?qc10_1 ?qd10_1 ?qc10_2 ?qd10_2 ?qc10_3 ?qd10_3 ?qc10_4 ?qd10_4 ?qc10_5 ?qd10_5 ?qc10_6 ?qd10_6 ?qc10_7 ?qd10_7 ?qc10_8 ?qd10_8 ?qc10_9 ?qd10_9 ?qc10_11 ?qd10_11 ?qc10_12 ?qd10_12 ?qc10_13 ?qd10_13 ?qe10 ?xi11 ?ws11 ?ea11 ?eb11 ?ec11 ?ef11 ?eg11 ?qc11_0 ?qd11_0 ?qc11_1 ?qd11_1 ?qc11_2 ?qd11_2 ?qc11_3 ?qd11_3 ?qc11_4 ?qd11_4 ?qc11_5 ?qd11_5 ?qc11_6 ?qd11_6 ?qc11_7 ?qd11_7 ?qc11_8 ?qd11_8 ?qc11_9 ?qd11_9 ?qc11_10 ?qd11_10 ?qc11_12 ?qd11_12 ?qc11_13 ?qd11_13 ?qe11 ?xi12 ?ws12 ?ea12 ?eb12 ?ec12 ?ef12 ?eg12 ?qc12_0 ?qd12_0 ?qc12_1 ?qd12_1 ?qc12_2 ?qd12_2 ?qc12_3 ?qd12_3 ?qc12_4 ?qd12_4 ?qc12_5 ?qd12_5 ?qc12_6 ?qd12_6 ?qc12_7 ?qd12_7 ?qc12_8 ?qd12_8 ?qc12_9 ?qd12_9 ?qc12_10 ?qd12_10 ?qc12_11 ?qd12_11 ?qc12_13 ?qd12_13 ?qe12
    (case aSign => k_is)
    (case lSign => k_is)
    (case cSign => k_is)
    (case kSign => k_is)
    (case aWord => k_is)
    (case lWord => k_is)
    (case cWord => k_is)
    (case kWord => k_is)
    (case aNWord => k_is)
    (case lNWord => k_is)
    (case cNWord => k_is)
    (case kNWord => k_is)
    (case aWheel => k_is)
    (case lWheel => k_is)
    (case cWheel => k_is)
    (case kWheel => k_is)
    (case aNeed => k_is)
    (case lNeed => k_is)
    (case cNeed => k_is)
    (case kNeed => k_is)
    (case aBest => k_is)
    (case lBest => k_is)
    (case cBest => k_is)
    (case kBest => k_is)
    (case aSStr => k_is)
    (case lSStr => k_is)
    (case cSStr => k_is)
    (case kSStr => k_is)
    (case aSlT => k_is)
    (case lSlT => k_is)
    (case cSlT => k_is)
    (case kSlT => k_is)
    (case aSeen => k_is)
    (case lSeen => k_is)
    (case cSeen => k_is)
    (case kSeen => k_is)
    (case aNAm => k_is)
    (case lNAm => k_is)
    (case cNAm => k_is)
    (case kNAm => k_is)
    (case aNRp => k_is)
    (case lNRp => k_is)
    (case cNRp => k_is)
    (case kNRp => k_is)
    (case aPTd => k_is)
    (case lPTd => k_is)
    (case cPTd => k_is)
    (case kPTd => k_is)
    (case aWOn => k_is)
    (case lWOn => k_is)
    (case cWOn => k_is)
    (case kWOn => k_is)
    (case aSFo => k_is)
    (case lSFo => k_is)
    (case cSFo => k_is)
    (case kSFo => k_is)
    (case aSNe => k_is)
    (case lSNe => k_is)
    (case cSNe => k_is)
    (case kSNe => k_is)
    (case aFWy => k_is)
    (case lFWy => k_is)
    (case cFWy => k_is)
    (case kFWy => k_is)
    (case aSNs => k_is)
    (case lSNs => k_is)
    (case cSNs => k_is)
    (case kSNs => k_is)
    (case aMSl => k_is)
    (case lMSl => k_is)
    (case cMSl => k_is)
    (case kMSl => k_is)
    (case aLSl => k_is)
    (case lLSl => k_is)
    (case cLSl => k_is)
    (case kLSl => k_is)
    (case aKind => k_is)
    (case lKind => k_is)
    (case cKind => k_is)
    (case kKind => k_is)
    (case aLIsWord => k_is)
    (case lLIsWord => k_is)
    (case cLIsWord => k_is)
    (case kLIsWord => k_is)
    (case aDraws => k_is)
    (case lDraws => k_is)
    (case cDraws => k_is)
    (case kDraws => k_is)
    (case aDraw => k_is)
    (case lDraw => k_is)
    (case cDraw => k_is)
    (case kDraw => k_is)
    (case aLetters => k_is)
    (case lLetters => k_is)
    (case cLetters => k_is)
    (case kLetters => k_is)
    (case aLWheel => k_is)
    (case lLWheel => k_is)
    (case cLWheel => k_is)
    (case kLWheel => k_is)
    (case aLWord => k_is)
    (case lLWord => k_is)
    (case cLWord => k_is)
    (case kLWord => k_is)
    (case aBent => k_is)
    (case lBent => k_is)
    (case cBent => k_is)
    (case kBent => k_is)
    (case aAsk => k_is)
    (case lAsk => k_is)
    (case cAsk => k_is)
    (case kAsk => k_is)
    (case aLaw => k_is)
    (case lLaw => k_is)
    (case cLaw => k_is)
    (case kLaw => k_is)
    (case gMOST_SIGNS => k_is)
    (case gMOST_PLACES => k_is)
    (case zlen => k_is)
    (case zstr => k_is)
    (case zint => k_is)
    (case zbool => k_is)
    (case ztuple => k_is)
    (case zlist => k_is)
    (case zdict => k_is)
    (case zset => k_is)
    (case zenumerate => k_is)
    (case zisinstance => k_is)
    (case zall => k_is)
    (case zany => k_is)
    (case zrange => k_is)
    (case zmin => k_is)
    (case zmax => k_is)
    (case zsum => k_is)
    (case zabs => k_is)
    (case zsorted => k_is)
    (case zzip => k_is)
    (case zreversed => k_is)
    (case zValueError => k_is)
    (case nC0 => k_is)
    (case nC1 => k_is)
    (case nC2 => k_is)
    (case nC3 => k_is)
    (case nC4 => k_is)
    (case nC5 => k_is)
    (case nC6 => k_is)
    (case nC7 => k_is)
    (case nC8 => k_is)
    (case nC9 => k_is)
    (case nC10 => k_is)
    (case nC11 => k_is)
    (case nC12 => k_is)
    (case nC13 => k_is)
    (case nCw => k_is)
    (case wc => k_is)
    (case wt => k_is)
    (case wb => k_is)
    (case ed => k_is)
    (case ee => k_is)
    (case qa0 => k_is)
    (case qb0 => k_is)
    (case qa1 => k_is)
    (case qb1 => k_is)
    (case qa2 => k_is)
    (case qb2 => k_is)
    (case qa3 => k_is)
    (case qb3 => k_is)
    (case qa4 => k_is)
    (case qb4 => k_is)
    (case qa5 => k_is)
    (case qb5 => k_is)
    (case qa6 => k_is)
    (case qb6 => k_is)
    (case qa7 => k_is)
    (case qb7 => k_is)
    (case qa8 => k_is)
    (case qb8 => k_is)
    (case qa9 => k_is)
    (case qb9 => k_is)
    (case qa10 => k_is)
    (case qb10 => k_is)
    (case qa11 => k_is)
    (case qb11 => k_is)
    (case qa12 => k_is)
    (case qb12 => k_is)
    (case qa13 => k_is)
    (case qb13 => k_is)
    (case xi0 => k_exc)
    (case ws0 => k_is)
    (case ea0 => k_is)
    (case eb0 => k_is)
    (case ec0 => k_is)
    (case ef0 => k_is)
    (case eg0 => k_is)
    (case qc0_1 => k_is)
    (case qd0_1 => decide +kernel)
    (case qc0_2 => k_is)
    (case qd0_2 => decide +kernel)
    (case qc0_3 => k_is)
    (case qd0_3 => decide +kernel)
    (case qc0_4 => k_is)
    (case qd0_4 => decide +kernel)
    (case qc0_5 => k_is)
    (case qd0_5 => decide +kernel)
    (case qc0_6 => k_is)
    (case qd0_6 => decide +kernel)
    (case qc0_7 => k_is)
    (case qd0_7 => decide +kernel)
    (case qc0_8 => k_is)
    (case qd0_8 => decide +kernel)
    (case qc0_9 => k_is)
    (case qd0_9 => decide +kernel)
    (case qc0_10 => k_is)
    (case qd0_10 => decide +kernel)
    (case qc0_11 => k_is)
    (case qd0_11 => decide +kernel)
    (case qc0_12 => k_is)
    (case qd0_12 => decide +kernel)
    (case qc0_13 => k_is)
    (case qd0_13 => decide +kernel)
    (case qe0 => k_is)
    (case xi10 => k_exc)
    (case ws10 => k_is)
    (case ea10 => k_is)
    (case eb10 => k_is)
    (case ec10 => k_is)
    (case ef10 => k_is)
    (case eg10 => k_is)
    (case qc10_0 => k_is)
    (case qd10_0 => decide +kernel)
    (case qc10_1 => k_is)
    (case qd10_1 => decide +kernel)
    (case qc10_2 => k_is)
    (case qd10_2 => decide +kernel)
    (case qc10_3 => k_is)
    (case qd10_3 => decide +kernel)
    (case qc10_4 => k_is)
    (case qd10_4 => decide +kernel)
    (case qc10_5 => k_is)
    (case qd10_5 => decide +kernel)
    (case qc10_6 => k_is)
    (case qd10_6 => decide +kernel)
    (case qc10_7 => k_is)
    (case qd10_7 => decide +kernel)
    (case qc10_8 => k_is)
    (case qd10_8 => decide +kernel)
    (case qc10_9 => k_is)
    (case qd10_9 => decide +kernel)
    (case qc10_11 => k_is)
    (case qd10_11 => decide +kernel)
    (case qc10_12 => k_is)
    (case qd10_12 => decide +kernel)
    (case qc10_13 => k_is)
    (case qd10_13 => decide +kernel)
    (case qe10 => k_is)
    (case xi11 => k_exc)
    (case ws11 => k_is)
    (case ea11 => k_is)
    (case eb11 => k_is)
    (case ec11 => k_is)
    (case ef11 => k_is)
    (case eg11 => k_is)
    (case qc11_0 => k_is)
    (case qd11_0 => decide +kernel)
    (case qc11_1 => k_is)
    (case qd11_1 => decide +kernel)
    (case qc11_2 => k_is)
    (case qd11_2 => decide +kernel)
    (case qc11_3 => k_is)
    (case qd11_3 => decide +kernel)
    (case qc11_4 => k_is)
    (case qd11_4 => decide +kernel)
    (case qc11_5 => k_is)
    (case qd11_5 => decide +kernel)
    (case qc11_6 => k_is)
    (case qd11_6 => decide +kernel)
    (case qc11_7 => k_is)
    (case qd11_7 => decide +kernel)
    (case qc11_8 => k_is)
    (case qd11_8 => decide +kernel)
    (case qc11_9 => k_is)
    (case qd11_9 => decide +kernel)
    (case qc11_10 => k_is)
    (case qd11_10 => decide +kernel)
    (case qc11_12 => k_is)
    (case qd11_12 => decide +kernel)
    (case qc11_13 => k_is)
    (case qd11_13 => decide +kernel)
    (case qe11 => k_is)
    (case xi12 => k_exc)
    (case ws12 => k_is)
    (case ea12 => k_is)
    (case eb12 => k_is)
    (case ec12 => k_is)
    (case ef12 => k_is)
    (case eg12 => k_is)
    (case qc12_0 => k_is)
    (case qd12_0 => decide +kernel)
    (case qc12_1 => k_is)
    (case qd12_1 => decide +kernel)
    (case qc12_2 => k_is)
    (case qd12_2 => decide +kernel)
    (case qc12_3 => k_is)
    (case qd12_3 => decide +kernel)
    (case qc12_4 => k_is)
    (case qd12_4 => decide +kernel)
    (case qc12_5 => k_is)
    (case qd12_5 => decide +kernel)
    (case qc12_6 => k_is)
    (case qd12_6 => decide +kernel)
    (case qc12_7 => k_is)
    (case qd12_7 => decide +kernel)
    (case qc12_8 => k_is)
    (case qd12_8 => decide +kernel)
    (case qc12_9 => k_is)
    (case qd12_9 => decide +kernel)
    (case qc12_10 => k_is)
    (case qd12_10 => decide +kernel)
    (case qc12_11 => k_is)
    (case qd12_11 => decide +kernel)
    (case qc12_13 => k_is)
    (case qd12_13 => decide +kernel)
    (case qe12 => k_is)
#print axioms PySem.Challenge.cw_strikewheel_k53_slips_refused_holds

