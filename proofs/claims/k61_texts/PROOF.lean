import PyProof.Rows.All
import Wide.All
import OpenK.AllK
import Wide.FinOn
import PyProof.EqAt
import PyProof.EqKinds
import PyProof.TupleCall
import KE.BitLaws
import KE.KSortTupG
import KE.KDictSum
import PyProof.Rows.TupDisplay
import PyProof.Rows.SetFrom
import KE.KSortRegAny
import PyProof.ListMulRoad
import PyProof.FactsAll.tuple_2
import PyProof.StrLawsIn
import PyProof.ListNew
import PySem.Challenge.RW_strikewheel_k61_turns_written
set_option Elab.async false
set_option linter.all false
set_option maxRecDepth 100000
/-! THE HAND LAYER, for ints, bools, texts, own classes, lists, tuples, dicts, comprehensions, walks over dicts, enumerate, zip, reversed, texts, calls, loops. Paste it whole ahead of your own text; what your proof does not reach may be deleted. -/
namespace L2
open PySem PySem.Spec PyProof.Rows

/-- a key: an int or a str -/
abbrev Key := Sum Int Str
def keyIs : Key → Value → Bool
  | .inl k, v => Value.isInt k v
  | .inr x, v => Value.isStrOf x v
def keyH (w : World) : Key → Int
  | .inl k => hashInt k
  | .inr x => hashStr w x
theorem keyIs_shape : ∀ {k : Key} {v : Value}, keyIs k v = true → (∃ i t, k = Sum.inl i ∧ v = Value.int i t) ∨ (∃ x t, k = Sum.inr x ∧ v = Value.str x t)
  | .inl i, v, h => by
    obtain ⟨t, e⟩ := Value.isInt_shape (k := i) (v := v) h
    exact .inl ⟨i, t, rfl, e⟩
  | .inr x, v, h => by
    obtain ⟨t, e⟩ := Value.isStrOf_shape (x := x) (v := v) h
    exact .inr ⟨x, t, rfl, e⟩
theorem key_ll (a b : Int) : decide ((Sum.inl a : Key) = Sum.inl b) = (a == b) := by
  by_cases e : a = b
  · subst e; simp
  · have h : ¬ (Sum.inl a : Key) = Sum.inl b := fun q => e (Sum.inl.inj q)
    rw [decide_eq_false h]
    exact (beq_eq_false_iff_ne.mpr e).symm
theorem key_rr (a b : Str) : decide ((Sum.inr a : Key) = Sum.inr b) = decide (a = b) := by
  by_cases e : a = b
  · subst e; simp
  · have h : ¬ (Sum.inr a : Key) = Sum.inr b := fun q => e (Sum.inr.inj q)
    rw [decide_eq_false h, decide_eq_false e]
theorem key_lr (a : Int) (b : Str) : decide ((Sum.inl a : Key) = Sum.inr b) = false := decide_eq_false (fun q => nomatch q)
theorem key_rl (a : Str) (b : Int) : decide ((Sum.inr a : Key) = Sum.inl b) = false := decide_eq_false (fun q => nomatch q)

def mixKind (prog : Program) (w : World) : PySem.KeyKind prog w Key where
  is := keyIs
  hash := keyH w
  inj := fun v a b ha hb => by
    rcases keyIs_shape ha with ⟨i, t, rfl, rfl⟩ | ⟨x, t, rfl, rfl⟩
    · rcases keyIs_shape hb with ⟨j, u, rfl, e⟩ | ⟨y, u, rfl, e⟩
      · injection e with e1 _; rw [e1]
      · exact nomatch e
    · rcases keyIs_shape hb with ⟨j, u, rfl, e⟩ | ⟨y, u, rfl, e⟩
      · exact nomatch e
      · injection e with e1 _; rw [e1]
  byValue := fun k v h => by
    rcases keyIs_shape h with ⟨i, t, rfl, rfl⟩ | ⟨x, t, rfl, rfl⟩ <;> rfl
  pyHash := fun hv h => by
    rcases keyIs_shape hv with ⟨i, t, rfl, rfl⟩ | ⟨x, t, rfl, rfl⟩
    · exact wpAny_pyHash_int h
    · exact wpAny_pyHash_str h
  eqBool := fun hu hv h => by
    rcases keyIs_shape hu with ⟨i, t, rfl, rfl⟩ | ⟨x, t, rfl, rfl⟩
    · rcases keyIs_shape hv with ⟨j, u, rfl, rfl⟩ | ⟨y, u, rfl, rfl⟩
      · rw [key_ll] at h; exact wpAny_eqBool_int h
      · rw [key_lr] at h; exact SeqAt.EqAt.int_str i t y u _ _ _ _ h
    · rcases keyIs_shape hv with ⟨j, u, rfl, rfl⟩ | ⟨y, u, rfl, rfl⟩
      · rw [key_rl] at h; exact SeqAt.EqAt.str_int x t j u _ _ _ _ h
      · rw [key_rr] at h; exact wpAny_eqBool_str h
  «strs» := fun k x t v h => by
    rcases keyIs_shape h with ⟨i, u, rfl, e⟩ | ⟨y, u, rfl, e⟩
    · exact nomatch e
    · injection e with e1 _
      subst e1
      cases v <;> rfl

end L2

namespace L2
open PySem PySem.Spec PyProof.Rows

/-- a value, without the heap -/
inductive V where
  | non | bl (b : Bool) | int (i : Int) | str (x : Str) | byt (b : Array UInt8) | flt (b : UInt64) | ref (a : Addr) | ty (n : String)
  deriving DecidableEq

def RelV : V → Value → Prop
  | .non, u => u = Value.none
  | .bl b, u => u = Value.bool b
  | .int i, u => ∃ t, u = Value.int i t
  | .str x, u => ∃ t, u = Value.str x t
  | .byt b, u => ∃ t, u = Value.bytes b t
  | .flt b, u => ∃ t, u = Value.float b t
  | .ref a, u => u = Value.ref a
  | .ty n, u => u = Value.type n

abbrev Vals : List V → List Value → Prop := Paired RelV
theorem Vals.length {xs : List V} {us : List Value} (r : Vals xs us) : xs.length = us.length := Paired.length r
theorem Vals.get : ∀ {xs : List V} {us : List Value} {i : Nat} {x : V}, Vals xs us → xs[i]? = some x → ∃ u, us[i]? = some u ∧ RelV x u
  | _, _, _, _, .nil, e => by simp at e
  | _, _, 0, _, .cons r _, e => by simp at e; subst e; exact ⟨_, rfl, r⟩
  | _, _, i + 1, x, .cons _ t, e => by
    obtain ⟨u, h1, h2⟩ := Vals.get (i := i) (x := x) t (by simpa using e)
    exact ⟨u, by simpa using h1, h2⟩
theorem Vals.set {x : V} {u : Value} (r : RelV x u) : ∀ {xs : List V} {us : List Value} (i : Nat), Vals xs us → Vals (xs.set i x) (us.set i u)
  | _, _, _, .nil => .nil
  | _, _, 0, .cons _ t => .cons r t
  | _, _, i + 1, .cons q t => .cons q (Vals.set r i t)
theorem Vals.append : ∀ {xs ys : List V} {us ws : List Value}, Vals xs us → Vals ys ws → Vals (xs ++ ys) (us ++ ws)
  | _, _, _, _, .nil, s => s
  | _, _, _, _, .cons r t, s => .cons r (Vals.append t s)
theorem Vals.take : ∀ {xs : List V} {us : List Value} (n : Nat), Vals xs us → Vals (xs.take n) (us.take n)
  | _, _, 0, _ => .nil
  | _, _, _ + 1, .nil => .nil
  | _, _, n + 1, .cons r t => .cons r (Vals.take n t)
theorem Vals.drop : ∀ {xs : List V} {us : List Value} (n : Nat), Vals xs us → Vals (xs.drop n) (us.drop n)
  | _, _, 0, r => r
  | _, _, _ + 1, .nil => .nil
  | _, _, n + 1, .cons _ t => Vals.drop n t
def RelO : Option V → Option Value → Prop
  | some v, some u => RelV v u
  | none, none => True
  | _, _ => False
def KV {κ : Type} : List (κ × V) → List (κ × Value) → Prop := Paired fun (p : κ × V) (q : κ × Value) => p.1 = q.1 ∧ RelV p.2 q.2

/-- a key of a dict (00_mix): an int or a text -/
def kV : Key → V
  | .inl i => .int i
  | .inr x => .str x

/-- what stands at a tracked address -/
inductive HO where
  /-- a list -/
  | lst (xs : List V)
  /-- a tuple (never changes) -/
  | tup (xs : List V)
  /-- a dict whose keys are ints and texts; one whose keys are tuples of ints and texts (the empty one is both) -/
  | dK (kvs : List (Key × V)) | dT (kvs : List (List Key × V))
  /-- a set of ints: its members, its size -/
  | set (S : Int → Bool) (n : Nat)
  /-- an instance of the class at C, its dict at dx, its attributes -/
  | ins (C dx : Addr) (fs : List (Str × V))
  /-- the dict of the instance at x -/
  | own (x : Addr)
  /-- the dict of an exception -/
  | xd (fs : List (Str × V))
  /-- a bound method, f of x -/
  | met (f x : Addr)
  /-- a range object lo, lo + 1, .. below hi -/
  | rng (lo hi : Int)
  /-- a thing that is known to the object (the script; a dict while a loop walks it): read, never written while it is so -/
  | frz (o : Obj) (u : HO)
  /-- a code object's table -/
  | tbl (ps : Array Value)
  /-- any other thing, by what is true of its one object (a def of one's own: SetO a S n := HO.ext fun h => ..) -/
  | ext (φ : Heap → Prop)

abbrev Hp := Addr → Option HO
def upd (H : Hp) (a : Addr) (o : HO) : Hp := fun b => if b = a then some o else H b
theorem upd_same {H : Hp} {a : Addr} {o : HO} : upd H a o a = some o := by unfold upd; rw [if_pos rfl]
theorem upd_ne {H : Hp} {a b : Addr} {o : HO} (h : b ≠ a) : upd H a o b = H b := by unfold upd; rw [if_neg h]
theorem ne_of_none {H : Hp} {a b : Addr} {o : HO} (h : H a = some o) (h' : H b = none) : a ≠ b := by
  intro e; subst e; rw [h] at h'; cases h'

section
variable (P : Program) (w : World)
def ObjOk (H : Hp) (h : Heap) (a : Addr) : HO → Prop
  | .lst xs => xs.length ≤ sizeLine ∧ ∃ (its : List Value) (n : Nat), Vals xs its ∧ h.get? a = some { cls := .type "list", data := .seq its.toArray n }
  | .tup xs => xs.length ≤ sizeLine ∧ ∃ its : List Value, Vals xs its ∧ IsTup h a its.toArray
  | .dK kvs => kvs.length ≤ sizeLine ∧ (a == sysModules) = false ∧ ∃ vs, KV kvs vs ∧ h.DictOf (mixKind P w) a vs
  | .dT kvs => kvs.length ≤ sizeLine ∧ (a == sysModules) = false ∧ ∃ xs : List (List Key × Addr × Value),
      Paired (fun (p : List Key × V) (q : List Key × Addr × Value) => p.1 = q.1 ∧ H q.2.1 = some (.tup (p.1.map kV)) ∧ RelV p.2 q.2.2) kvs xs ∧
      ∃ o es ep, h.get? a = some o ∧ o.ExactDict ∧ o.data = .dict es ep ∧ es.toList = xs.map (entryOfKey (tupleKind (mixKind P w))) ∧ (xs.map (·.1)).Nodup
  | .set S n => h.SetOf (intKind P w) a S n
  | .ins C dx fs => H dx = some (.own a) ∧ fs.length ≤ 1000 ∧ dx ≠ a ∧ h.get? a = some (PySem.W.instObj C dx) ∧
      ∃ mA, h.Ns1 dx mA ∧ (∀ f, RelO (fs.lookup f) (mA f)) ∧ PySem.Within mA (fs.map (·.1))
  | .own _ => ∃ o, h.get? a = some o
  | .xd fs => ∃ mA, h.Ns1 a mA ∧ ∀ f, RelO (fs.lookup f) (mA f)
  | .rng lo hi => ∃ t u v, h.get? a = some { cls := .type "range", data := .fields #[.int lo t, .int hi u, .int 1 v] }
  | .frz o u => h.get? a = some o ∧ ObjOk H h a u
  | .tbl ps => h.get? a = some { cls := .none, data := .fields ps }
  | .met f x => h.get? a = some (PySem.W.methodObj (.ref f) (.ref x))
  | .ext φ => φ h ∧ (∃ o, h.get? a = some o) ∧ ∀ h1 h2 : Heap, φ h1 → (∀ o, h1.get? a = some o → h2.get? a = some o) → φ h2
/-- the abstract heap is held -/
def HOk (H : Hp) (h : Heap) : Prop := ∀ a o, H a = some o → ObjOk P w H h a o
end

section
variable {P : Program} {w : World} {H H' : Hp} {h h' : Heap} {a : Addr} {o : HO}
theorem ObjOk.lt (x : ObjOk P w H h a o) : a < h.objs.size := by
  cases o with
  | lst xs => obtain ⟨_, _, _, _, e⟩ := x; exact Heap.lt_size e
  | tup xs => obtain ⟨_, _, _, p⟩ := x; exact p.lt
  | dK kvs => obtain ⟨_, _, _, _, o, _, _, e, _⟩ := x; exact Heap.lt_size e
  | dT kvs => obtain ⟨_, _, _, _, o, _, _, e, _⟩ := x; exact Heap.lt_size e
  | set S n => obtain ⟨o, _, _, _, e, _⟩ := x; exact Heap.lt_size e
  | ins C dx fs => obtain ⟨_, _, _, e, _⟩ := x; exact Heap.lt_size e
  | own y => obtain ⟨_, e⟩ := x; exact Heap.lt_size e
  | xd fs => obtain ⟨_, ⟨_, _, _, e, _⟩, _⟩ := x; exact Heap.lt_size e
  | rng lo hi => obtain ⟨_, _, _, e⟩ := x; exact Heap.lt_size e
  | frz ob u => obtain ⟨e, _⟩ := x; exact Heap.lt_size e
  | tbl ps => exact Heap.lt_size (show h.get? a = some _ from x)
  | met f y => exact Heap.lt_size (show h.get? a = some _ from x)
  | ext φ => obtain ⟨_, ⟨_, e⟩, _⟩ := x; exact Heap.lt_size e
theorem Paired.mapP {α β : Type} {F G : α → β → Prop} : ∀ {l₁ : List α} {l₂ : List β}, Paired F l₁ l₂ → (∀ a b, F a b → G a b) → Paired G l₁ l₂
  | _, _, .nil, _ => .nil
  | _, _, .cons r t, f => .cons (f _ _ r) (Paired.mapP t f)
/-- what an object's description leans on: its own object, its own dict, the tuples -/
theorem ObjOk.stay (x : ObjOk P w H h a o) (k : ∀ b u, (b = a ∨ H b = some (.own a)) → h.get? b = some u → h'.get? b = some u)
    (ho : ∀ b, H b = some (.own a) → H' b = some (.own a)) (ht : ∀ b xs, H b = some (.tup xs) → H' b = some (.tup xs)) : ObjOk P w H' h' a o := by
  induction o with
  | lst xs => obtain ⟨z, its, n, r, e⟩ := x; exact ⟨z, its, n, r, k _ _ (.inl rfl) e⟩
  | tup xs => obtain ⟨z, its, r, ob, e, c⟩ := x; exact ⟨z, its, r, ob, k _ _ (.inl rfl) e, c⟩
  | dK kvs => obtain ⟨z, y, vs, r, ob, es, ep, e, c⟩ := x; exact ⟨z, y, vs, r, ob, es, ep, k _ _ (.inl rfl) e, c⟩
  | dT kvs =>
    obtain ⟨z, y, xs, r, ob, es, ep, e, c⟩ := x
    exact ⟨z, y, xs, Paired.mapP r fun p q z => ⟨z.1, ht _ _ z.2.1, z.2.2⟩, ob, es, ep, k _ _ (.inl rfl) e, c⟩
  | set S n => obtain ⟨ob, es, ep, t, e, c⟩ := x; exact ⟨ob, es, ep, t, k _ _ (.inl rfl) e, c⟩
  | ins C dx fs =>
    obtain ⟨d, z, ne, e, mA, ⟨od, es, ep, e2, c⟩, r⟩ := x
    exact ⟨ho _ d, z, ne, k _ _ (.inl rfl) e, mA, ⟨od, es, ep, k _ _ (.inr d) e2, c⟩, r⟩
  | own y => obtain ⟨ob, e⟩ := x; exact ⟨ob, k _ _ (.inl rfl) e⟩
  | xd fs => obtain ⟨mA, ⟨od, es, ep, e, c⟩, r⟩ := x; exact ⟨mA, ⟨od, es, ep, k _ _ (.inl rfl) e, c⟩, r⟩
  | rng lo hi => obtain ⟨t, u, v, e⟩ := x; exact ⟨t, u, v, k _ _ (.inl rfl) e⟩
  | frz ob u ih => obtain ⟨e, q⟩ := x; exact ⟨k _ _ (.inl rfl) e, ih q⟩
  | tbl ps =>
    have e : h.get? a = some { cls := .none, data := .fields ps } := x
    show h'.get? a = some { cls := .none, data := .fields ps }
    exact k a _ (.inl rfl) e
  | met f y =>
    have e : h.get? a = some (PySem.W.methodObj (.ref f) (.ref y)) := x
    show h'.get? a = some (PySem.W.methodObj (.ref f) (.ref y))
    exact k a _ (.inl rfl) e
  | ext φ => obtain ⟨p, ⟨o, e⟩, st⟩ := x; exact ⟨st _ _ p fun o q => k _ _ (.inl rfl) q, ⟨o, k _ _ (.inl rfl) e⟩, st⟩
theorem HOk.lt (x : HOk P w H h) (e : H a = some o) : a < h.objs.size := (x a o e).lt
theorem HOk.fresh (x : HOk P w H h) (e : h.objs.size ≤ a) : H a = none := by
  cases q : H a with
  | none => rfl
  | some u => exact absurd (Nat.lt_of_lt_of_le (x.lt q) e) (Nat.lt_irrefl _)
/-- every object of the heap is kept -/
theorem HOk.kept (x : HOk P w H h) (k : ∀ b u, h.get? b = some u → h'.get? b = some u) : HOk P w H h' := fun a o e =>
  (x a o e).stay (fun b u _ q => k b u q) (fun _ q => q) fun _ _ q => q
/-- a new object is laid and tracked -/
theorem HOk.laid (x : HOk P w H h) (k : ∀ b u, h.get? b = some u → h'.get? b = some u) (hp : h.objs.size ≤ a) (new : ObjOk P w (upd H a o) h' a o) : HOk P w (upd H a o) h' := fun b u e => by
  have hn := x.fresh hp
  by_cases hb : b = a
  · subst hb; rw [upd_same] at e; cases e; exact new
  · rw [upd_ne hb] at e
    exact (x b u e).stay (fun c v _ q => k c v q) (fun c q => by rw [upd_ne (ne_of_none q hn)]; exact q) fun c xs q => by rw [upd_ne (ne_of_none q hn)]; exact q
end

/-- what may be read as u: it is u, or a known u -/
def Rd (H : Hp) (a : Addr) (u : HO) : Prop := H a = some u ∨ ∃ o, H a = some (.frz o u)
theorem Rd.ok {P : Program} {w : World} {H : Hp} {h : Heap} {a : Addr} {u : HO} (r : Rd H a u) (x : HOk P w H h) : ObjOk P w H h a u := by
  rcases r with r | ⟨o, r⟩
  · exact x a u r
  · obtain ⟨_, q⟩ := x a _ r
    exact q
/-- what may be written -/
def Mut : Option HO → Prop
  | some (.lst _) => True
  | some (.dK _) => True
  | some (.dT _) => True
  | some (.set _ _) => True
  | some (.ins _ _ _) => True
  | some (.ext _) => True
  | _ => False
section
variable {P : Program} {w : World} {H : Hp} {h h' : Heap} {x e : Addr} {o' : HO}
/-- the object at e is changed: x itself, or the dict of the instance x -/
theorem HOk.write (ok : HOk P w H h) (mu : Mut (H x)) (he : e = x ∨ H e = some (.own x)) (k : ∀ b u, b ≠ e → h.get? b = some u → h'.get? b = some u) (heo : ∃ u, h'.get? e = some u)
    (new : ObjOk P w (upd H x o') h' x o') : HOk P w (upd H x o') h' := fun b u q => by
  have nown : ∀ c y, H c = some (.own y) → c ≠ x := fun c y r z => by subst z; rw [r] at mu; exact mu
  have ntup : ∀ c xs, H c = some (.tup xs) → c ≠ x := fun c xs r z => by subst z; rw [r] at mu; exact mu
  by_cases hb : b = x
  · subst hb; rw [upd_same] at q; cases q; exact new
  · rw [upd_ne hb] at q
    by_cases hbe : b = e
    · have q' : H b = some (.own x) := by
        rcases he with z | z
        · exact absurd (hbe.trans z) hb
        · rw [hbe]; exact z
      rw [q] at q'; cases q'
      obtain ⟨v, hv⟩ := heo
      exact ⟨v, by rw [hbe]; exact hv⟩
    · refine (ok b u q).stay (fun c v hc r => k c v ?_ r) (fun c r => by rw [upd_ne (nown c b r)]; exact r) fun c xs r => by rw [upd_ne (ntup c xs r)]; exact r
      rcases hc with rfl | hc
      · exact hbe
      · rintro rfl
        rcases he with z | z
        · exact nown c b hc z
        · rw [hc] at z; cases z; exact hb rfl
end

/-! ### kept unless tracked; of the frames at fs (the callers') the slots may change (an exception that passes writes there); of the records at ex (iterators) nothing is said -/
structure Un (fs ex : List Addr) (H H' : Hp) (h h' : Heap) : Prop where
  keep : ∀ b o, h.get? b = some o → H b = none → b ∉ fs → b ∉ ex → h'.get? b = some o
  slot : ∀ b o, h.get? b = some o → H b = none → b ∈ fs → b ∉ ex → ∃ sl, h'.get? b = some { o with slots := sl }
  free : ∀ b o, h.get? b = some o → H b = none → b ∉ ex → H' b = none
  there : ∀ b o, h.get? b = some o → b ∉ ex → ∃ o', h'.get? b = some o'
  tups : ∀ b xs, H b = some (.tup xs) → H' b = some (.tup xs)
  frzs : ∀ b o u, H b = some (.frz o u) → H' b = some (.frz o u)
  tbls : ∀ b ps, H b = some (.tbl ps) → ∃ more, H' b = some (.tbl (ps ++ more))
section
variable {fs fs' ex ex' : List Addr} {H H1 H2 : Hp} {h h1 h2 h' : Heap} {a x e : Addr} {o : HO}
theorem Un.any (u : Un fs ex H H1 h h1) {b : Addr} {ob : Obj} (q : h.get? b = some ob) (n : H b = none) (hx : b ∉ ex) : ∃ sl, h1.get? b = some { ob with slots := sl } := by
  by_cases hb : b ∈ fs
  · exact u.slot b ob q n hb hx
  · exact ⟨ob.slots, u.keep b ob q n hb hx⟩
theorem Un.kept (k : ∀ b u, h.get? b = some u → h'.get? b = some u) : Un fs ex H H h h' :=
  ⟨fun b ob q _ _ _ => k b ob q, fun b ob q _ _ _ => ⟨ob.slots, k b ob q⟩, fun _ _ _ n _ => n, fun b ob q _ => ⟨ob, k b ob q⟩, fun _ _ q => q, fun _ _ _ q => q, fun _ ps q => ⟨#[], by rw [q]; simp⟩⟩
theorem Un.refl : Un fs ex H H h h := Un.kept fun _ _ q => q
theorem Un.laid (k : ∀ b u, h.get? b = some u → h'.get? b = some u) (hp : h.objs.size ≤ a) (hn : H a = none) : Un fs ex H (upd H a o) h h' where
  keep := fun b u q _ _ _ => k b u q
  slot := fun b u q _ _ _ => ⟨u.slots, k b u q⟩
  free := fun b u q n _ => by rw [upd_ne (Nat.ne_of_lt (Nat.lt_of_lt_of_le (Heap.lt_size q) hp))]; exact n
  there := fun b u q _ => ⟨u, k b u q⟩
  tups := fun b xs q => by rw [upd_ne (ne_of_none q hn)]; exact q
  frzs := fun b u xs q => by rw [upd_ne (ne_of_none q hn)]; exact q
  tbls := fun b ps q => ⟨#[], by rw [upd_ne (ne_of_none q hn), q]; simp⟩
theorem Un.write (mu : Mut (H x)) (he : e = x ∨ H e = some (.own x)) (k : ∀ b u, b ≠ e → h.get? b = some u → h'.get? b = some u) (heo : ∃ u, h'.get? e = some u) : Un fs ex H (upd H x o) h h' := by
  have hx : ∀ b, H b = none → b ≠ x := fun b n z => by subst z; rw [n] at mu; exact mu
  have hb : ∀ b, H b = none → b ≠ e := fun b n z => by
    subst z
    rcases he with r | r
    · exact hx b n r
    · rw [n] at r; cases r
  have hm : ∀ b u, H b = some u → ¬ Mut (some u) → b ≠ x := fun b u q nm z => by subst z; rw [q] at mu; exact nm mu
  refine ⟨fun b u q n _ _ => k b u (hb b n) q, fun b u q n _ _ => ⟨u.slots, k b u (hb b n) q⟩, fun b u q n _ => by rw [upd_ne (hx b n)]; exact n, fun b u q _ => ?_,
    fun b xs q => by rw [upd_ne (hm b _ q fun z => z)]; exact q, fun b u xs q => by rw [upd_ne (hm b _ q fun z => z)]; exact q, fun b ps q => ⟨#[], by rw [upd_ne (hm b _ q fun z => z), q]; simp⟩⟩
  by_cases hbe : b = e
  · subst hbe; exact heo
  · exact ⟨u, k b u hbe q⟩
end

/-! ### the heap without what is tracked -/
def trk (h : Heap) (H : Hp) : List Addr := (List.range h.objs.size).filter fun a => (H a).isSome
def hidT (h : Heap) (H : Hp) : Heap := PySem.W.hideAll h (trk h H)
theorem hidT_size (h : Heap) (H : Hp) : (hidT h H).objs.size = h.objs.size := PySem.W.hideAll_size _ _
theorem hidT_get {h : Heap} {H : Hp} {b : Addr} {o : Obj} (e : h.get? b = some o) (n : H b = none) : (hidT h H).get? b = some o :=
  PySem.W.hideAll_get _ e fun hm => by
    have q : (H b).isSome = true := (List.mem_filter.mp hm).2
    rw [n] at q; simp at q
theorem of_hidT {h : Heap} {H : Hp} {b : Addr} {o : Obj} (e : (hidT h H).get? b = some o) : h.get? b = some o ∧ H b = none := by
  have e' : h.get? b = some o := PySem.W.of_hideAll (trk h H) e
  refine ⟨e', ?_⟩
  cases q : H b with
  | none => rfl
  | some x =>
    have hm : b ∈ trk h H := List.mem_filter.mpr ⟨List.mem_range.mpr (Heap.lt_size e'), by simp [q]⟩
    have z : (hidT h H).get? b = none := PySem.W.hideAll_none (trk h H) hm
    rw [z] at e; cases e

/-! ### OpenK's ledger, filled with every new object but one -/
def allNews (g h : Heap) (L : Addr) : List (Addr × Obj) := (List.range h.objs.size).filterMap fun a => if a = L ∨ (g.get? a).isSome = true then none else (h.get? a).map fun o => (a, o)
def rest (g h : Heap) (L d : Addr) : List (Addr × Obj) := (allNews g h L).filter fun p => decide (p.1 ≠ d)
end L2

namespace L2
open PySem PySem.Spec PyProof.Rows

/-- the module's facts, over the base: the heap at the law's entry without what is tracked there -/
structure Mod (K : PySem.W.Frag) (mg : Str → Option Value) (base : Heap) : Prop where
  kin : K.In base
  glob : base.Ns mainGlobals mg
  blt : ∃ mb, base.Ns builtinsNs mb ∧ ∀ x : Str, x ≠ "__name__" → mb x = bootBuiltins x
  nolimit : base.NoLimit

/-- the context: a def's body (or a comprehension's block) running. base: fixed through the whole law; s₀, H₀: the entry; outer: the frames whose slots others may change (a def's callers); stack: all frames that run;
   ex: iterators that were made ahead of the entry and are walked here (a comprehension's); fn: the names whose cells were made at the entry (a def: all; a comprehension's block: its own); calm: not within an except suite; pn: pins that every state bears; xe: what is wanted of an exception that leaves the code -/
structure Cx where
  prog : Program
  w : World
  K : PySem.W.Frag
  mg : Str → Option Value
  base : Heap
  A : Around
  N : List Str
  s_0 : Shared
  H_0 : Hp
  env : Env
  outer : List Env
  stack : List Env
  ex : List Addr
  fn : Str → Bool
  calm : Bool
  pn : List (Addr × Obj)
  xe : Value → Shared → Prop
/-- the callers' frames -/
def frs (l : List Env) : List Addr := l.filterMap (·.frame)
abbrev Cx.fs (X : Cx) : List Addr := frs X.outer

def Vis (sc : Scope) (x : Str) : Prop := sc.names.lookup x = some .local ∨ sc.names.lookup x = some .cell ∨ sc.names.lookup x = some .free
def Loc (sc : Scope) (x : Str) : Prop := sc.names.lookup x = some .local ∨ sc.names.lookup x = some .cell
def Look (env : Env) (h : Heap) (m : Str → Option Value) (x : Str) (u : Value) : Prop :=
  (env.kindOf x = some .local ∧ m x = some u) ∨ ((env.kindOf x = some .cell ∨ env.kindOf x = some .free) ∧ ∃ c, env.cells.lookup x = some c ∧ h.IsCell c (some u))

structure Cx.Ok (X : Cx) : Prop where
  mod : Mod X.K X.mg X.base
  kind : X.env.scope.kind = .function
  glob : X.env.globals = mainGlobals
  blt : X.env.builtins = builtinsNs
  above : X.s_0.heap.objs.size ≤ X.env.locals
  inj : ∀ x y c, X.env.cells.lookup x = some c → X.env.cells.lookup y = some c → x = y
  has : ∀ x, (X.env.kindOf x = some .cell ∨ X.env.kindOf x = some .free) → ∃ c, X.env.cells.lookup x = some c
  cab : ∀ x c, X.fn x = true → X.env.cells.lookup x = some c → X.s_0.heap.objs.size ≤ c
  hd : X.calm = true → X.A.handled = none
  frames : X.A.frames = some X.stack
  stk : X.stack = X.outer ∨ (X.stack = X.env :: X.outer ∧ X.env.frame = some X.env.locals)
  exf : ∀ b ∈ X.ex, b ≠ X.env.locals ∧ ∀ x c, X.env.cells.lookup x = some c → c ≠ b
  bs : ∀ b o, X.base.get? b = some o → X.s_0.heap.get? b = some o ∧ X.H_0 b = none
  bsz : X.base.objs.size ≤ X.s_0.heap.objs.size
  noex : ∀ b o, X.base.get? b = some o → b ∉ X.ex
  exfs : ∀ b ∈ X.ex, b ∉ X.fs
  funs : X.s_0.heap.FunFrames X.base X.outer
  frf : ∀ b ∈ X.fs, X.H_0 b = none

structure Inv (X : Cx) (pins : List (Addr × Obj)) (σ : List (Option V)) (H : Hp) (s : Shared) : Prop where
  ok : X.Ok
  os : s.os = X.s_0.os
  bare : AllBare s.gens
  base : Un X.fs X.ex X.H_0 H X.s_0.heap s.heap
  loc : ∃ m, s.heap.Ns X.env.locals m ∧ ∀ (i : Nat) (x : Str) (v : V), X.N[i]? = some x → σ[i]? = some (some v) → Vis X.env.scope x → ∃ u, RelV v u ∧ Look X.env s.heap m x u
  cell : ∀ x c, X.env.cells.lookup x = some c → ∃ v, s.heap.IsCell c v
  free : H X.env.locals = none
  freeC : ∀ x c, X.env.cells.lookup x = some c → H c = none
  pin : ∀ p ∈ X.pn ++ pins, s.heap.get? p.1 = some p.2 ∧ H p.1 = none ∧ p.1 ≠ X.env.locals ∧ p.1 ∉ X.fs ∧ ∀ v, p.2.data ≠ .cell v
  hok : HOk X.prog X.w H s.heap
  len : σ.length = X.N.length

section
variable {X : Cx} {pins : List (Addr × Obj)} {σ : List (Option V)} {H H' : Hp} {s : Shared} {h' : Heap}

theorem Cx.Ok.nofr (ok : X.Ok) {b : Addr} {o : Obj} (e : X.base.get? b = some o) : b ∉ X.fs := fun hb => by
  have := (ok.funs.mem hb).1
  rw [e] at this; cases this
theorem Inv.bs (I : Inv X pins σ H s) : ∀ b o, X.base.get? b = some o → s.heap.get? b = some o ∧ H b = none := fun b o e =>
  ⟨I.base.keep b o (I.ok.bs b o e).1 (I.ok.bs b o e).2 (I.ok.nofr e) (I.ok.noex b o e), I.base.free b o (I.ok.bs b o e).1 (I.ok.bs b o e).2 (I.ok.noex b o e)⟩
theorem Inv.bk (I : Inv X pins σ H s) : ∀ b o, X.base.get? b = some o → s.heap.get? b = some o := fun b o e => (I.bs b o e).1
theorem Inv.mod (I : Inv X pins σ H s) : Mod X.K X.mg X.base := I.ok.mod
theorem Inv.kIn (I : Inv X pins σ H s) : X.K.In s.heap := I.ok.mod.kin.keeps I.bk
/-- the frame over the base: for OpenK's rules (K.In X.base is I.mod.kin) -/
theorem Inv.fr (I : Inv X pins σ H s) : ∃ m, Fr X.base X.env.locals s.heap m :=
  let ⟨m, hn, _⟩ := I.loc
  ⟨m, hn, I.bk, Nat.le_trans I.ok.bsz I.ok.above⟩
theorem Inv.lt (I : Inv X pins σ H s) : X.env.locals < s.heap.objs.size := let ⟨_, hn, _⟩ := I.loc; hn.lt
theorem Inv.sz (I : Inv X pins σ H s) : X.s_0.heap.objs.size ≤ s.heap.objs.size := Nat.le_trans I.ok.above (Nat.le_of_lt I.lt)
theorem Inv.nofs (I : Inv X pins σ H s) {a : Addr} (h : s.heap.objs.size ≤ a) : a ∉ X.fs := fun hb => by
  obtain ⟨_, o, ho, _⟩ := I.ok.funs.mem hb
  exact absurd (Nat.lt_of_lt_of_le (Heap.lt_size ho) (Nat.le_trans I.sz h)) (Nat.lt_irrefl _)
theorem Inv.cne (I : Inv X pins σ H s) : ∀ x c, X.env.cells.lookup x = some c → c ≠ X.env.locals := fun x c e z => by
  obtain ⟨v, o, ho, hd⟩ := I.cell x c e
  obtain ⟨m, ⟨o', es, ep, ho', hd', _⟩, _⟩ := I.loc
  rw [z, ho'] at ho; cases ho; rw [hd'] at hd; cases hd
theorem Inv.funs (I : Inv X pins σ H s) : s.heap.FunFrames X.base X.outer := by
  have all : ∀ (l : List Env), (∀ b ∈ frs l, b ∈ X.fs) → X.s_0.heap.FunFrames X.base l → s.heap.FunFrames X.base l := by
    intro l
    induction l with
    | nil => intro _ _; trivial
    | cons env r ih =>
      intro hs hl
      obtain ⟨hk, ⟨L, o, hf, hn, ho, hd⟩, hr⟩ := hl
      have hL : L ∈ X.fs := hs L (by unfold frs; rw [List.filterMap_cons, hf]; exact List.mem_cons_self)
      obtain ⟨sl, e⟩ := I.base.slot L o ho (I.ok.frf L hL) hL fun z => I.ok.exfs L z hL
      exact ⟨hk, ⟨L, _, hf, hn, e, hd⟩, ih (fun b hb => hs b (by unfold frs; rw [List.filterMap_cons, hf]; exact List.mem_cons_of_mem _ hb)) hr⟩
  exact all X.outer (fun _ hb => hb) I.ok.funs

/-- the frames that run, for a call -/
theorem Inv.stack (I : Inv X pins σ H s) : s.heap.FunFrames X.base X.stack := by
  rcases I.ok.stk with e | ⟨e, hf⟩
  · rw [e]; exact I.funs
  · rw [e]
    obtain ⟨m, hn, _⟩ := I.loc
    refine .cons (by rw [I.ok.kind]; decide) hf hn ?_ I.funs
    exact Heap.get?_none_of_le (Nat.le_trans I.ok.bsz I.ok.above)
theorem Inv.stkSub (I : Inv X pins σ H s) : ∀ b ∈ frs X.stack, b ∈ X.env.locals :: X.fs := fun b hb => by
  rcases I.ok.stk with e | ⟨e, hf⟩
  · rw [e] at hb; exact List.mem_cons_of_mem _ hb
  · rw [e] at hb
    unfold frs at hb
    rw [List.filterMap_cons, hf] at hb
    exact hb
theorem Inv.stkFree (I : Inv X pins σ H s) : ∀ b ∈ frs X.stack, H b = none := fun b hb => by
  rcases List.mem_cons.mp (I.stkSub b hb) with e | hb
  · rw [e]; exact I.free
  · obtain ⟨_, o, ho, _⟩ := I.ok.funs.mem hb
    exact I.base.free b o ho (I.ok.frf b hb) fun z => I.ok.exfs b z hb

/-- THE STEP: the untracked objects but the frame and the records at ch are kept (the callers' frames up to slots), the frame's map is kept, the new abstract heap is held -/
theorem Inv.step {g' : Array GenState} {t' : Nat} {d' : Drawn} {ch : List Addr} (I : Inv X pins σ H s)
    (hch : ∀ b ∈ ch, (b ∈ X.ex ∨ X.s_0.heap.objs.size ≤ b) ∧ b ≠ X.env.locals ∧ (∀ x c, X.env.cells.lookup x = some c → c ≠ b) ∧ ∀ p ∈ X.pn ++ pins, p.1 ≠ b)
    (keep : ∀ b o, b ≠ X.env.locals → b ∉ X.fs → b ∉ ch → s.heap.get? b = some o → H b = none → h'.get? b = some o)
    (slot : ∀ b o, b ≠ X.env.locals → b ∈ X.fs → b ∉ ch → s.heap.get? b = some o → H b = none → ∃ sl, h'.get? b = some { o with slots := sl }) (free : ∀ b o, b ∉ ch → s.heap.get? b = some o → H b = none → H' b = none)
    (there : ∀ b o, b ∉ ch → s.heap.get? b = some o → ∃ o', h'.get? b = some o')
    (tups : ∀ b xs, H b = some (.tup xs) → H' b = some (.tup xs)) (frzs : ∀ b o u, H b = some (.frz o u) → H' b = some (.frz o u)) (tbls : ∀ b ps, H b = some (.tbl ps) → ∃ more, H' b = some (.tbl (ps ++ more)))
    (ns : ∀ m, s.heap.Ns X.env.locals m → h'.Ns X.env.locals m) (hok : HOk X.prog X.w H' h') (hg : AllBare g') :
    Inv X pins σ H' { s with heap := h', gens := g', drawn := d', toks := t' } := by
  have neL : ∀ b o, X.s_0.heap.get? b = some o → b ≠ X.env.locals := fun b o e => Nat.ne_of_lt (Nat.lt_of_lt_of_le (Heap.lt_size e) I.ok.above)
  have neC : ∀ b o, X.s_0.heap.get? b = some o → b ∉ X.ex → b ∉ ch := fun b o e hx hb => by
    rcases (hch b hb).1 with z | z
    · exact hx z
    · exact absurd (Nat.lt_of_lt_of_le (Heap.lt_size e) z) (Nat.lt_irrefl _)
  have cellK : ∀ x c, X.env.cells.lookup x = some c → ∀ v, s.heap.IsCell c v → h'.IsCell c v := fun x c e v ⟨o, ho, hd⟩ => by
    have nch : c ∉ ch := fun z => (hch c z).2.2.1 x c e rfl
    by_cases hc : c ∈ X.fs
    · obtain ⟨sl, q⟩ := slot c o (I.cne x c e) hc nch ho (I.freeC x c e)
      exact ⟨_, q, hd⟩
    · exact ⟨o, keep c o (I.cne x c e) hc nch ho (I.freeC x c e), hd⟩
  refine ⟨I.ok, I.os, hg, ⟨fun b o e n hb hx => ?_, fun b o e n hb hx => ?_, fun b o e n hx => ?_, fun b o e hx => ?_, fun b xs e => tups b xs (I.base.tups b xs e), fun b o xs e => frzs b o xs (I.base.frzs b o xs e), fun b ps e => ?_⟩, ?_, fun x c e => ?_, ?_, fun x c e => ?_, fun p hp => ?_, hok, I.len⟩
  · exact keep b o (neL b o e) hb (neC b o e hx) (I.base.keep b o e n hb hx) (I.base.free b o e n hx)
  · obtain ⟨sl, e1⟩ := I.base.slot b o e n hb hx
    obtain ⟨sl', e2⟩ := slot b _ (neL b o e) hb (neC b o e hx) e1 (I.base.free b o e n hx)
    exact ⟨sl', e2⟩
  · obtain ⟨o', e1⟩ := I.base.there b o e hx
    exact free b o' (neC b o e hx) e1 (I.base.free b o e n hx)
  · obtain ⟨o', e1⟩ := I.base.there b o e hx
    exact there b o' (neC b o e hx) e1
  · obtain ⟨m1, e1⟩ := I.base.tbls b ps e
    obtain ⟨m2, e2⟩ := tbls b _ e1
    exact ⟨m1 ++ m2, by rw [e2, Array.append_assoc]⟩
  · obtain ⟨m, hn, hl⟩ := I.loc
    refine ⟨m, ns m hn, fun i x v e1 e2 e3 => ?_⟩
    obtain ⟨u, r, l⟩ := hl i x v e1 e2 e3
    refine ⟨u, r, ?_⟩
    rcases l with l | ⟨k, c, e, z⟩
    · exact .inl l
    · exact .inr ⟨k, c, e, cellK x c e _ z⟩
  · obtain ⟨v, z⟩ := I.cell x c e
    exact ⟨v, cellK x c e v z⟩
  · obtain ⟨m, ⟨o, _, _, ho, _⟩, _⟩ := I.loc
    exact free _ o (fun z => (hch _ z).2.1 rfl) ho I.free
  · obtain ⟨v, o, ho, hd⟩ := I.cell x c e
    exact free c o (fun z => (hch c z).2.2.1 x c e rfl) ho (I.freeC x c e)
  · obtain ⟨e, n, ne, nf, d⟩ := I.pin p hp
    have nch : p.1 ∉ ch := fun z => (hch p.1 z).2.2.2 p hp rfl
    exact ⟨keep p.1 p.2 ne nf nch e n, free p.1 p.2 nch e n, ne, nf, d⟩
/-- .. where the frame's own object is kept too -/
theorem Inv.un {t' : Nat} (I : Inv X pins σ H s) (u : Un X.fs [] H H' s.heap h') (hok : HOk X.prog X.w H' h') : Inv X pins σ H' { s with heap := h', toks := t' } := by
  obtain ⟨m, ⟨o, es, ep, ho, r⟩, _⟩ := id I.loc
  obtain ⟨sl, hL⟩ := u.any ho I.free (by simp)
  exact I.step (g' := s.gens) (d' := s.drawn) (ch := []) (fun _ z => nomatch z) (fun b o _ hb _ e n => u.keep b o e n hb (by simp)) (fun b o _ hb _ e n => u.slot b o e n hb (by simp)) (fun b o _ e n => u.free b o e n (by simp)) (fun b o _ e => u.there b o e (by simp)) u.tups u.frzs u.tbls (fun m' hm => by
    obtain ⟨o', es', ep', ho', r'⟩ := hm
    rw [ho] at ho'; cases ho'
    exact ⟨_, es', ep', hL, r'⟩) hok I.bare
/-- behind a call (or a comprehension's block): the slots of this frame may have changed too, the records at ch may have turned -/
theorem Inv.call {g' : Array GenState} {t' : Nat} {d' : Drawn} {ch : List Addr} (I : Inv X pins σ H s) (u : Un (frs X.stack) ch H H' s.heap h') (hok : HOk X.prog X.w H' h') (hg : AllBare g')
    (hch : ∀ b ∈ ch, (b ∈ X.ex ∨ X.s_0.heap.objs.size ≤ b) ∧ b ≠ X.env.locals ∧ (∀ x c, X.env.cells.lookup x = some c → c ≠ b) ∧ ∀ p ∈ X.pn ++ pins, p.1 ≠ b) :
    Inv X pins σ H' { s with heap := h', gens := g', drawn := d', toks := t' } := by
  obtain ⟨m, ⟨o, es, ep, ho, r⟩, _⟩ := id I.loc
  obtain ⟨sl, hL⟩ := u.any ho I.free fun z => (hch _ z).2.1 rfl
  exact I.step (ch := ch) hch (fun b o hL hb hc e n => u.keep b o e n (fun z => (List.mem_cons.mp (I.stkSub b z)).elim hL hb) hc) (fun b o _ _ hc e n => u.any e n hc) (fun b o hc e n => u.free b o e n hc) (fun b o hc e => u.there b o e hc) u.tups u.frzs u.tbls (fun m' hm => by
    obtain ⟨o', es', ep', ho', r'⟩ := hm
    rw [ho] at ho'; cases ho'
    exact ⟨_, es', ep', hL, r'⟩) hok hg
/-- an untracked record of ours (an iterator) has turned -/
theorem Inv.turned {t' : Nat} {it : Addr} (I : Inv X pins σ H s) (k : ∀ b o, b ≠ it → s.heap.get? b = some o → h'.get? b = some o) (hn : H it = none) (hL : it ≠ X.env.locals)
    (h1 : it ∈ X.ex ∨ X.s_0.heap.objs.size ≤ it) (h2 : ∀ x c, X.env.cells.lookup x = some c → c ≠ it) (h3 : ∀ p ∈ X.pn ++ pins, p.1 ≠ it) : Inv X pins σ H { s with heap := h', toks := t' } := by
  have nit : ∀ b u, H b = some u → b ≠ it := fun b u e z => by rw [z, hn] at e; cases e
  refine I.step (g' := s.gens) (d' := s.drawn) (ch := [it]) (fun b hb => ?_) (fun b o _ _ hc e _ => k b o (fun z => hc (by simp [z])) e) (fun b o _ _ hc e _ => ⟨o.slots, k b o (fun z => hc (by simp [z])) e⟩) (fun _ _ _ _ n => n)
    (fun b o hc e => ⟨o, k b o (fun z => hc (by simp [z])) e⟩) (fun _ _ e => e) (fun _ _ _ e => e) (fun b ps e => ⟨#[], by rw [e]; simp⟩) (fun m hm => ?_) (fun b u e => ?_) I.bare
  · have e : b = it := by simpa using hb
    subst e
    exact ⟨h1, hL, h2, h3⟩
  · obtain ⟨o, es, ep, ho, r⟩ := hm
    exact ⟨o, es, ep, k _ o (Ne.symm hL) ho, r⟩
  · refine (I.hok b u e).stay (fun c v hc q => k c v ?_ q) (fun _ q => q) fun _ _ q => q
    rcases hc with z | z
    · rw [z]; exact nit b u e
    · exact nit c _ z
theorem Inv.tok (I : Inv X pins σ H s) (t : Nat) : Inv X pins σ H { s with toks := t } := I.un (h' := s.heap) (t' := t) Un.refl I.hok
/-- all objects kept -/
theorem Inv.kept {t' : Nat} (I : Inv X pins σ H s) (k : ∀ b u, s.heap.get? b = some u → h'.get? b = some u) : Inv X pins σ H { s with heap := h', toks := t' } := I.un (Un.kept k) (I.hok.kept k)
/-- a new object laid and tracked -/
theorem Inv.laid {a : Addr} {o : HO} {t' : Nat} (I : Inv X pins σ H s) (k : ∀ b u, s.heap.get? b = some u → h'.get? b = some u) (hp : s.heap.objs.size ≤ a) (new : ObjOk X.prog X.w (upd H a o) h' a o) :
    Inv X pins σ (upd H a o) { s with heap := h', toks := t' } := I.un (Un.laid k hp (I.hok.fresh hp)) (I.hok.laid k hp new)
/-- an object written -/
theorem Inv.write {x e : Addr} {o : HO} {t' : Nat} (I : Inv X pins σ H s) (mu : Mut (H x)) (he : e = x ∨ H e = some (.own x)) (k : ∀ b u, b ≠ e → s.heap.get? b = some u → h'.get? b = some u) (heo : ∃ u, h'.get? e = some u)
    (new : ObjOk X.prog X.w (upd H x o) h' x o) : Inv X pins σ (upd H x o) { s with heap := h', toks := t' } := I.un (Un.write mu he k heo) (I.hok.write mu he k heo new)
/-- forgetting slots, pins -/
theorem Inv.weak {σ' : List (Option V)} (I : Inv X pins σ H s) (hl : σ'.length = σ.length) (w : ∀ (i : Nat) v, σ'[i]? = some (some v) → σ[i]? = some (some v)) : Inv X pins σ' H s :=
  ⟨I.ok, I.os, I.bare, I.base, let ⟨m, hn, hl'⟩ := I.loc; ⟨m, hn, fun i x v e1 e2 e3 => hl' i x v e1 (w i v e2) e3⟩, I.cell, I.free, I.freeC, I.pin, I.hok, hl.trans I.len⟩
theorem Inv.pins_of {pins' : List (Addr × Obj)} (I : Inv X pins σ H s) (h : ∀ p ∈ pins', s.heap.get? p.1 = some p.2 ∧ H p.1 = none ∧ p.1 ≠ X.env.locals ∧ p.1 ∉ X.fs ∧ ∀ v, p.2.data ≠ .cell v) : Inv X pins' σ H s :=
  ⟨I.ok, I.os, I.bare, I.base, I.loc, I.cell, I.free, I.freeC, fun p hp => (List.mem_append.mp hp).elim (fun z => I.pin p (List.mem_append_left _ z)) (h p), I.hok, I.len⟩

theorem nodup_ix {N : List Str} (hN : N.Nodup) {i j : Nat} {x : Str} (a : N[i]? = some x) (b : N[j]? = some x) : i = j := by
  obtain ⟨h1, e1⟩ := List.getElem?_eq_some_iff.mp a
  obtain ⟨h2, e2⟩ := List.getElem?_eq_some_iff.mp b
  exact (List.getElem_inj hN).mp (e1.trans e2.symm)

/-- a name is stored; what changed -/
theorem store_ok2 {M : Model} {A : Around} {E : Value → Shared → Prop} {i : Nat} {x : Str} {v : V} {u : Value} {Q : Unit → Shared → Prop} (I : Inv X pins σ H s) (hN : X.N.Nodup) (hi : X.N[i]? = some x) (hx : Loc X.env.scope x) (r : RelV v u)
    (h : ∀ s', Inv X pins (σ.set i (some v)) H s' → (∃ a, Heap.SameBut a s.heap s'.heap ∧ (a = X.env.locals ∨ X.env.cells.lookup x = some a)) → Q () s') (hf : X.fn x = true ∨ X.env.scope.names.lookup x = some .local := by first | exact .inl rfl | exact .inr rfl | assumption) : wpAny M A (storeName X.env x u) Q E s := by
  obtain ⟨m, hn, hl⟩ := id I.loc
  have hcls : (X.env.scope.kind == .class || (X.env.scope.kind == .module && X.env.locals != X.env.globals)) = false := by rw [I.ok.kind]; rfl
  have hiσ : i < σ.length := by rw [I.len]; exact (List.getElem?_eq_some_iff.mp hi).1
  have cne := I.cne
  have tracked : ∀ {a : Addr} {h' : Heap}, (∃ o, s.heap.get? a = some o ∧ H a = none) → Heap.SameBut a s.heap h' → HOk X.prog X.w H h' := fun {a h'} ha hs b ob e => by
    obtain ⟨_, _, hfree⟩ := ha
    refine (I.hok b ob e).stay (fun c w' hc q => (hs.2 c ?_).trans q) (fun _ q => q) fun _ _ q => q
    rintro rfl
    rcases hc with rfl | hc
    · rw [hfree] at e; cases e
    · rw [hfree] at hc; cases hc
  rcases hx with hk | hk
  · refine wpAny_storeName_local hk hn (fun h' hn' hs => ?_) hcls
    obtain ⟨oL, _, _, hoL, _⟩ := id hn
    refine h _ ⟨I.ok, I.os, I.bare, ⟨fun b o e n hb hx => ?_, fun b o e n hb hx => ?_, I.base.free, fun b o e hx => ?_, I.base.tups, I.base.frzs, I.base.tbls⟩, ⟨_, hn', fun j y v' e1 e2 e3 => ?_⟩, fun y c e => ?_, I.free, I.freeC, fun p hp => ?_, tracked ⟨oL, hoL, I.free⟩ hs, by simpa using I.len⟩ ⟨_, hs, .inl rfl⟩
    · exact (hs.2 b (Nat.ne_of_lt (Nat.lt_of_lt_of_le (Heap.lt_size e) I.ok.above))).trans (I.base.keep b o e n hb hx)
    · obtain ⟨sl, e1⟩ := I.base.slot b o e n hb hx
      exact ⟨sl, (hs.2 b (Nat.ne_of_lt (Nat.lt_of_lt_of_le (Heap.lt_size e) I.ok.above))).trans e1⟩
    · obtain ⟨o', e1⟩ := I.base.there b o e hx
      exact ⟨o', (hs.2 b (Nat.ne_of_lt (Nat.lt_of_lt_of_le (Heap.lt_size e) I.ok.above))).trans e1⟩
    · by_cases hj : j = i
      · subst hj
        rw [hi] at e1; cases e1
        rw [List.getElem?_set_self hiσ] at e2
        cases e2
        exact ⟨u, r, .inl ⟨hk, by simp⟩⟩
      · rw [List.getElem?_set_ne (Ne.symm hj)] at e2
        obtain ⟨u', r', q⟩ := hl j y v' e1 e2 e3
        refine ⟨u', r', ?_⟩
        rcases q with ⟨k, e⟩ | ⟨k, c, e, z⟩
        · refine .inl ⟨k, ?_⟩
          have : y ≠ x := fun e => hj (nodup_ix hN e1 (e ▸ hi))
          simp [this, e]
        · exact .inr ⟨k, c, e, z.sameBut hs (cne y c e)⟩
    · obtain ⟨w', z⟩ := I.cell y c e
      exact ⟨w', z.sameBut hs (cne y c e)⟩
    · obtain ⟨e, n, ne, nf, d⟩ := I.pin p hp
      exact ⟨(hs.2 p.1 ne).trans e, n, ne, nf, d⟩
  · have hfn : X.fn x = true := by
      rcases hf with z | z
      · exact z
      · rw [z] at hk; cases hk
    obtain ⟨c, hc⟩ := I.ok.has x (.inl hk)
    obtain ⟨w', z⟩ := I.cell x c hc
    refine wpAny_storeName_cell I.ok.kind hk hc z (fun h' hc' hs => ?_)
    obtain ⟨oc, hoc, hocd⟩ := id z
    refine h { s with heap := h' } ⟨I.ok, I.os, I.bare, ⟨fun b o e n hb hx => ?_, fun b o e n hb hx => ?_, I.base.free, fun b o e hx => ?_, I.base.tups, I.base.frzs, I.base.tbls⟩, ⟨m, hn.sameBut hs (Ne.symm (cne x c hc)), fun j y v' e1 e2 e3 => ?_⟩, fun y c' e => ?_, I.free, I.freeC, fun p hp => ?_, tracked ⟨oc, hoc, I.freeC x c hc⟩ hs, by simpa using I.len⟩ ⟨c, hs, .inr hc⟩
    · exact (hs.2 b (Nat.ne_of_lt (Nat.lt_of_lt_of_le (Heap.lt_size e) (I.ok.cab x c hfn hc)))).trans (I.base.keep b o e n hb hx)
    · obtain ⟨sl, e1⟩ := I.base.slot b o e n hb hx
      exact ⟨sl, (hs.2 b (Nat.ne_of_lt (Nat.lt_of_lt_of_le (Heap.lt_size e) (I.ok.cab x c hfn hc)))).trans e1⟩
    · obtain ⟨o', e1⟩ := I.base.there b o e hx
      exact ⟨o', (hs.2 b (Nat.ne_of_lt (Nat.lt_of_lt_of_le (Heap.lt_size e) (I.ok.cab x c hfn hc)))).trans e1⟩
    · by_cases hj : j = i
      · subst hj
        rw [hi] at e1; cases e1
        rw [List.getElem?_set_self hiσ] at e2
        cases e2
        exact ⟨u, r, .inr ⟨.inl hk, c, hc, hc'⟩⟩
      · rw [List.getElem?_set_ne (Ne.symm hj)] at e2
        obtain ⟨u', r', q⟩ := hl j y v' e1 e2 e3
        refine ⟨u', r', ?_⟩
        rcases q with q | ⟨k, c', e, z'⟩
        · exact .inl q
        · refine .inr ⟨k, c', e, z'.sameBut hs ?_⟩
          rintro rfl
          exact hj (nodup_ix hN e1 (I.ok.inj _ _ _ e hc ▸ hi))
    · by_cases hcc : c' = c
      · subst hcc; exact ⟨_, hc'⟩
      · obtain ⟨w2, z2⟩ := I.cell y c' e
        exact ⟨w2, z2.sameBut hs hcc⟩
    · obtain ⟨e, n, ne, nf, d⟩ := I.pin p hp
      refine ⟨(hs.2 p.1 ?_).trans e, n, ne, nf, d⟩
      intro q
      rw [q, hoc] at e
      have q' : oc = p.2 := Option.some.inj e
      exact d w' (by rw [← q']; exact hocd)
theorem store_ok {M : Model} {A : Around} {E : Value → Shared → Prop} {i : Nat} {x : Str} {v : V} {u : Value} {Q : Unit → Shared → Prop} (I : Inv X pins σ H s) (hN : X.N.Nodup) (hi : X.N[i]? = some x) (hx : Loc X.env.scope x) (r : RelV v u)
    (h : ∀ s', Inv X pins (σ.set i (some v)) H s' → Q () s') (hf : X.fn x = true ∨ X.env.scope.names.lookup x = some .local := by first | exact .inl rfl | exact .inr rfl | assumption) : wpAny M A (storeName X.env x u) Q E s :=
  store_ok2 I hN hi hx r (fun s' I' _ => h s' I') hf
/-- behind a call or a block, the state as it is -/
theorem Inv.call' {s' : Shared} {ch : List Addr} (I : Inv X pins σ H s) (ho : s'.os = s.os) (u : Un (frs X.stack) ch H H' s.heap s'.heap) (hok : HOk X.prog X.w H' s'.heap) (hg : AllBare s'.gens)
    (hch : ∀ b ∈ ch, (b ∈ X.ex ∨ X.s_0.heap.objs.size ≤ b) ∧ b ≠ X.env.locals ∧ (∀ x c, X.env.cells.lookup x = some c → c ≠ b) ∧ ∀ p ∈ X.pn ++ pins, p.1 ≠ b) : Inv X pins σ H' s' := by
  obtain ⟨h', g', d', t', o'⟩ := s'
  have e : o' = s.os := ho
  subst e
  exact I.call (g' := g') (t' := t') (d' := d') u hok hg hch
end

/-! ### the judgements -/
/-- an exception: its class, its own dict's address (where it has one), the abstract heap behind it -/
abbrev XK := Value → Option Addr → Hp → Prop
abbrev St := List (Option V)
abbrev VK := V → Hp → Prop
/-- an expression's reading; a test's; an argument list's -/
abbrev TE := St → Hp → VK → Prop
abbrev TT := St → Hp → (Bool → Hp → Prop) → Prop
abbrev TA := St → Hp → (List V → Hp → Prop) → Prop
/-- what is wanted behind a statement -/
structure Ends where
  nx : St → Hp → Prop
  rt : VK
  bk : St → Hp → Prop := fun _ _ => False
  ct : St → Hp → Prop := fun _ _ => False
abbrev TS := Ends → St → Hp → Prop

def EP (X : Cx) (pins : List (Addr × Obj)) (σ : St) (Q : VK) (u : Value) (s' : Shared) : Prop := ∃ v H', Inv X pins σ H' s' ∧ RelV v u ∧ Q v H'
def TP (X : Cx) (pins : List (Addr × Obj)) (σ : St) (Q : Bool → Hp → Prop) (b : Bool) (s' : Shared) : Prop := ∃ H', Inv X pins σ H' s' ∧ Q b H'
def AP (X : Cx) (pins : List (Addr × Obj)) (σ : St) (Q : List V → Hp → Prop) (us : List Value) (s' : Shared) : Prop := ∃ vs H', Inv X pins σ H' s' ∧ Vals vs us ∧ Q vs H'
def SP (X : Cx) (pins : List (Addr × Obj)) (D : Ends) (f : Flow) (s' : Shared) : Prop :=
  match f with
  | .next => ∃ σ' H', Inv X pins σ' H' s' ∧ D.nx σ' H'
  | .brk => ∃ σ' H', Inv X pins σ' H' s' ∧ D.bk σ' H'
  | .cont => ∃ σ' H', Inv X pins σ' H' s' ∧ D.ct σ' H'
  | .ret u => ∃ v σ' H', Inv X pins σ' H' s' ∧ RelV v u ∧ D.rt v H'

def PE (X : Cx) (e : Expr) (t : TE) : Prop :=
  ∀ (pins : List (Addr × Obj)) (s : Shared) (σ : St) (H : Hp) (Q : VK), Inv X pins σ H s → t σ H Q → wpAny (model X.prog X.w) X.A (eval e X.env) (EP X pins σ Q) X.xe s
def PT (X : Cx) (e : Expr) (t : TT) : Prop :=
  ∀ (pins : List (Addr × Obj)) (s : Shared) (σ : St) (H : Hp) (Q : Bool → Hp → Prop), Inv X pins σ H s → t σ H Q → wpAny (model X.prog X.w) X.A (isTrue e X.env (eval e X.env)) (TP X pins σ Q) X.xe s
/-- a test whatever its 'whole' is (and, or) -/
def PW (X : Cx) (e : Expr) (t : TT) : Prop :=
  ∀ (whole : Sem Value) (pins : List (Addr × Obj)) (s : Shared) (σ : St) (H : Hp) (Q : Bool → Hp → Prop), Inv X pins σ H s → t σ H Q → wpAny (model X.prog X.w) X.A (isTrue e X.env whole) (TP X pins σ Q) X.xe s
theorem PW.pt {X : Cx} {e : Expr} {t : TT} (h : PW X e t) : PT X e t := h _
/-- an argument list (no star), from the left -/
def PA (X : Cx) (es : List Expr) (t : TA) : Prop :=
  ∀ (pos : Pos) (pins : List (Addr × Obj)) (s : Shared) (σ : St) (H : Hp) (Q : List V → Hp → Prop), Inv X pins σ H s → t σ H Q → wpAny (model X.prog X.w) X.A (spliced (backTo pos (starEach es X.env))) (AP X pins σ Q) X.xe s
def PS (X : Cx) (st : Stmt) (t : TS) : Prop :=
  ∀ (pins : List (Addr × Obj)) (s : Shared) (σ : St) (H : Hp) (D : Ends), Inv X pins σ H s → t D σ H → wpAny (model X.prog X.w) X.A (exec st X.env) (SP X pins D) X.xe s
def PSs (X : Cx) (st : List Stmt) (t : TS) : Prop :=
  ∀ (pins : List (Addr × Obj)) (s : Shared) (σ : St) (H : Hp) (D : Ends), Inv X pins σ H s → t D σ H → wpAny (model X.prog X.w) X.A (execs st X.env) (SP X pins D) X.xe s
/-- weaken the end -/
theorem thn {α : Type} {t : Sem α} {Q Q' : α → Shared → Prop} {M : Model} {A : Around} {E : Value → Shared → Prop} {s : Shared} (h : wpAny M A t Q E s) (hQ : ∀ a s, Q a s → Q' a s) : wpAny M A t Q' E s := wpAny_mono h hQ fun _ _ x => x
end L2

namespace L2
open PySem PySem.Spec PyProof.Rows
section
variable {X : Cx}

/-- two expressions in a row -/
theorem bin {a b : Expr} {ta tb : TE} (ha : PE X a ta) (hb : PE X b tb) {pins : List (Addr × Obj)} {s : Shared} {σ : St} {H : Hp} {R : V → V → Hp → Prop} (I : Inv X pins σ H s) (h : ta σ H fun x H1 => tb σ H1 fun y H2 => R x y H2)
    {α : Type} {Q : α → Shared → Prop} {f : Value → Value → Sem α}
    (hf : ∀ v u s2 x y H2, Inv X pins σ H2 s2 → RelV x v → RelV y u → R x y H2 → wpAny (model X.prog X.w) X.A (f v u) Q X.xe s2) :
    wpAny (model X.prog X.w) X.A (eval a X.env) (fun v s₁ => wpAny (model X.prog X.w) X.A (eval b X.env) (fun u s₂ => wpAny (model X.prog X.w) X.A (f v u) Q X.xe s₂) X.xe s₁) X.xe s := by
  refine thn (ha pins s σ H _ I h) fun v s1 ⟨x, H1, I1, r1, q1⟩ => ?_
  refine thn (hb pins s1 σ H1 _ I1 q1) fun u s2 ⟨y, H2, I2, r2, q2⟩ => ?_
  exact hf v u s2 x y H2 I2 r1 r2 q2

/-! ### names and constants -/
def tVar (i : Nat) : TE := fun σ H Q => ∃ v, σ[i]? = some (some v) ∧ Q v H
def tC (v : V) : TE := fun _ H Q => Q v H
theorem pe_var {i : Nat} {x : Str} {pos : Pos} (hN : X.N[i]? = some x) (hv : Vis X.env.scope x) (hd : (x == ("__debug__" : Str)) = false := by decide) (hcd : (x == ("__classdict__" : Str)) = false := by decide) : PE X (.Name x pos) (tVar i) := by
  intro pins s σ H Q I h
  obtain ⟨v, e, h⟩ := h
  obtain ⟨m, hn, hl⟩ := I.loc
  obtain ⟨u, r, l⟩ := hl i x v hN e hv
  have fin : EP X pins σ Q u s := ⟨v, H, I, r, h⟩
  rcases l with ⟨hk, hm⟩ | ⟨hk, c, hc, hcell⟩
  · exact wpAny_Name (wpAny_loadName_local I.ok.kind hk hn hm fin) hd
  · rcases hk with hk | hk
    · exact wpAny_Name (wpAny_loadName_cell I.ok.kind hk hc hcell fin) hd
    · exact wpAny_Name (wpAny_loadName_free I.ok.kind hk hc hcell fin hcd) hd
theorem pe_int {i j pos} : PE X (.Constant (.int i) j pos) (tC (.int i)) := fun _ _ _ H _ I h => wpAny_Constant_int ⟨.int i, H, I.tok _, ⟨_, rfl⟩, h⟩
theorem pe_bl {b j pos} : PE X (.Constant (.bool b) j pos) (tC (.bl b)) := fun _ _ _ H _ I h => Constant_bool ⟨.bl b, H, I, rfl, h⟩
theorem pe_non {j pos} : PE X (.Constant .none j pos) (tC .non) := fun _ _ _ H _ I h => Constant_none ⟨.non, H, I, rfl, h⟩
theorem pe_str {x j pos} : PE X (.Constant (.str x) j pos) (tC (.str x)) := fun _ _ _ H _ I h => Calls.Constant_str ⟨.str x, H, I.tok _, ⟨_, rfl⟩, h⟩

/-- a global name of the def -/
def Gl (X : Cx) (x : Str) : Prop := X.env.kindOf x = some .globalImplicit
theorem ld_glob {E : Value → Shared → Prop} {pins : List (Addr × Obj)} {s : Shared} {σ : St} {H : Hp} {x : Str} {u : Value} {pos : Pos} {Q : Value → Shared → Prop} (I : Inv X pins σ H s) (hg : Gl X x) (hm : X.mg x = some u) (h : Q u s)
    (hd : (x == ("__debug__" : Str)) = false := by decide) : wpAny (model X.prog X.w) X.A (eval (.Name x pos) X.env) Q E s :=
  Calls.Name_function_global I.ok.kind hg (Calls.loadGlobal_global (by rw [I.ok.glob]; exact I.mod.glob.keeps I.bk) hm h) hd
theorem ld_blt {E : Value → Shared → Prop} {pins : List (Addr × Obj)} {s : Shared} {σ : St} {H : Hp} {x : Str} {u : Value} {pos : Pos} {Q : Value → Shared → Prop} (I : Inv X pins σ H s) (hg : Gl X x) (hm : X.mg x = none) (hv : bootBuiltins x = some u) (h : Q u s)
    (hn : x ≠ "__name__" := by decide) (hd : (x == ("__debug__" : Str)) = false := by decide) : wpAny (model X.prog X.w) X.A (eval (.Name x pos) X.env) Q E s := by
  obtain ⟨mb, h1, h2⟩ := I.mod.blt
  exact Calls.Name_function_global I.ok.kind hg (Calls.loadGlobal_builtin (by rw [I.ok.glob]; exact I.mod.glob.keeps I.bk) hm (by rw [I.ok.blt]; exact h1.keeps I.bk) ((h2 x hn).trans hv) h) hd
/-- a module's constant, a class, a function, as a value -/
theorem pe_glob {x : Str} {v : V} {u : Value} {pos : Pos} (hg : Gl X x) (hm : X.mg x = some u) (r : RelV v u) (hd : (x == ("__debug__" : Str)) = false := by decide) : PE X (.Name x pos) (tC v) :=
  fun _ _ _ H _ I h => ld_glob I hg hm ⟨v, H, I, r, h⟩ hd
theorem pe_bltn {x : Str} {v : V} {u : Value} {pos : Pos} (hg : Gl X x) (hm : X.mg x = none) (hv : bootBuiltins x = some u) (r : RelV v u) (hn : x ≠ "__name__" := by decide) (hd : (x == ("__debug__" : Str)) = false := by decide) : PE X (.Name x pos) (tC v) :=
  fun _ _ _ H _ I h => ld_blt I hg hm hv ⟨v, H, I, r, h⟩ hn hd

/-! ### arithmetic -/
/-- two ints -/
def t2I (ta tb : TE) (k : Int → Int → Hp → Prop) : St → Hp → Prop := fun σ H => ta σ H fun x H1 => tb σ H1 fun y H2 => ∃ i j, x = .int i ∧ y = .int j ∧ k i j H2
def tAdd (ta tb : TE) : TE := fun σ H Q => t2I ta tb (fun i j H2 => Q (.int (i + j)) H2) σ H
def tSub (ta tb : TE) : TE := fun σ H Q => t2I ta tb (fun i j H2 => Q (.int (i - j)) H2) σ H
/-- the left factor below 2^64 -/
def tMul (ta tb : TE) : TE := fun σ H Q => t2I ta tb (fun i j H2 => (-(2 ^ 64) < i ∧ i < 2 ^ 64) ∧ Q (.int (i * j)) H2) σ H
variable {a b : Expr} {ta tb : TE} {pos : Pos}
/-! ### comparisons -/
def PC (X : Cx) (op : CmpOp) (a b : Expr) (t : TE) : Prop :=
  ∀ (pins : List (Addr × Obj)) (s : Shared) (σ : St) (H : Hp) (Q : VK), Inv X pins σ H s → t σ H Q →
    wpAny (model X.prog X.w) X.A (eval a X.env) (fun v s₁ => wpAny (model X.prog X.w) X.A (eval b X.env) (fun u s₂ => wpAny (model X.prog X.w) X.A (compareOp op v u) (EP X pins σ Q) X.xe s₂) X.xe s₁) X.xe s
def tCmp (p : Int → Int → Bool) (ta tb : TE) : TE := fun σ H Q => t2I ta tb (fun i j H2 => Q (.bl (p i j)) H2) σ H
abbrev tLt : TE → TE → TE := tCmp fun i j => decide (i < j)
abbrev tLe : TE → TE → TE := tCmp fun i j => decide (i ≤ j)
abbrev tGt : TE → TE → TE := tCmp fun i j => decide (j < i)
abbrev tGe : TE → TE → TE := tCmp fun i j => decide (j ≤ i)
abbrev tEqI : TE → TE → TE := tCmp fun i j => decide (i = j)
abbrev tNeI : TE → TE → TE := tCmp fun i j => !decide (i = j)
/-- is None -/
def tIsN (ta : TE) : TE := fun σ H Q => ta σ H fun x H1 => Q (.bl (decide (x = .non))) H1
def tNotN (ta : TE) : TE := fun σ H Q => ta σ H fun x H1 => Q (.bl (!decide (x = .non))) H1
/-- a comparison as a value, as a test -/
def tB (t : TE) : TT := fun σ H Q => t σ H fun x H1 => ∃ c, x = .bl c ∧ Q c H1
theorem pt_cmp {op : CmpOp} {t : TE} (h : PC X op a b t) (h1 : behindInMarks op b = false := by first | exact nobehind _ (by decide) (by decide) | rfl) : PT X (.Compare a [op] [b] pos) (tB t) := by
  intro pins s σ H Q I hw
  refine wpAny_isTrue_Compare1 (thn (h pins s σ H _ I hw) fun v s1 h1 => thn h1 fun u s2 h2 => thn h2 fun c s3 ⟨x, H1, I1, r1, q1⟩ => ?_) h1
  obtain ⟨d, rfl, q⟩ := q1
  cases r1
  exact wpAny_truthy_bool ⟨H1, I1, q⟩
/-- an expression whose value is a bool, as a test -/
theorem pt_val {e : Expr} {t : TE} (h : PE X e t) (he : ∀ whole, isTrue e X.env whole = (do let v ← whole; standAt e.pos; holding [v] (truthy v)) := by intro _; rfl) : PT X e (tB t) := by
  intro pins s σ H Q I hw
  refine isTrue_plain (thn (h pins s σ H _ I hw) fun v s1 ⟨x, H1, I1, r1, q1⟩ => ?_) (he _)
  obtain ⟨d, rfl, q⟩ := q1
  cases r1
  exact wpAny_truthy_bool ⟨H1, I1, q⟩

/-! ### and, or, not -/
variable {tA tB' : TT} {rest : List Expr}
def tAnd (t u : TT) : TT := fun σ H Q => t σ H fun c H1 => if c = true then u σ H1 Q else Q false H1
def tOr (t u : TT) : TT := fun σ H Q => t σ H fun c H1 => if c = true then Q true H1 else u σ H1 Q
def tNot (t : TT) : TT := fun σ H Q => t σ H fun c H1 => Q (!c) H1
theorem pw_and1 (ha : PT X a tA) : PW X (.BoolOp .And [a] pos) tA := by
  intro wh pins s σ H Q I h
  refine isTrue_and (thn (ha pins s σ H Q I h) fun c s1 e => ?_)
  cases c with
  | true => exact isTrue_and_nil e
  | false => exact e
theorem pw_or1 (ha : PT X a tA) : PW X (.BoolOp .Or [a] pos) tA := by
  intro wh pins s σ H Q I h
  refine isTrue_or (thn (ha pins s σ H Q I h) fun c s1 e => ?_)
  cases c with
  | false => exact isTrue_or_nil e
  | true => exact e
theorem pw_and (ha : PT X a tA) (hb : PW X (.BoolOp .And (b :: rest) pos) tB') : PW X (.BoolOp .And (a :: b :: rest) pos) (tAnd tA tB') := by
  intro wh pins s σ H Q I h
  refine isTrue_and (thn (ha pins s σ H _ I h) fun c s1 ⟨H1, I1, q1⟩ => ?_)
  cases c with
  | true => exact hb wh pins s1 σ H1 Q I1 q1
  | false => exact ⟨H1, I1, q1⟩
theorem pw_or (ha : PT X a tA) (hb : PW X (.BoolOp .Or (b :: rest) pos) tB') : PW X (.BoolOp .Or (a :: b :: rest) pos) (tOr tA tB') := by
  intro wh pins s σ H Q I h
  refine isTrue_or (thn (ha pins s σ H _ I h) fun c s1 ⟨H1, I1, q1⟩ => ?_)
  cases c with
  | true => exact ⟨H1, I1, q1⟩
  | false => exact hb wh pins s1 σ H1 Q I1 q1
theorem pt_not (ha : PT X a tA) : PT X (.UnaryOp .Not a pos) (tNot tA) := by
  intro pins s σ H Q I h
  exact isTrue_not (ha pins s σ H (fun c H1 => Q (!c) H1) I h)
/-- .. as values (bools) -/
def tAndV (ta tb : TE) : TE := fun σ H Q => ta σ H fun x H1 => ∃ c, x = .bl c ∧ if c = true then tb σ H1 Q else Q (.bl false) H1
def tOrV (ta tb : TE) : TE := fun σ H Q => ta σ H fun x H1 => ∃ c, x = .bl c ∧ if c = true then Q (.bl true) H1 else tb σ H1 Q
def tNotV (ta : TE) : TE := fun σ H Q => ta σ H fun x H1 => ∃ c, x = .bl c ∧ Q (.bl (!c)) H1
theorem pe_one {op} {t : TE} (h : PE X a t) : PE X (.BoolOp op [a] pos) t := fun pins s σ H Q I hw => BoolOp_one (h pins s σ H Q I hw)
theorem pe_and (ha : PE X a ta) (hb : PE X (.BoolOp .And (b :: rest) pos) tb) : PE X (.BoolOp .And (a :: b :: rest) pos) (tAndV ta tb) := by
  intro pins s σ H Q I h
  refine BoolOp_and (thn (ha pins s σ H _ I h) fun v s1 ⟨x, H1, I1, r1, q1⟩ => ?_)
  obtain ⟨c, rfl, q1⟩ := q1
  cases r1
  refine wpAny_truthy_bool ?_
  cases c with
  | true => exact hb pins s1 σ H1 Q I1 q1
  | false => exact ⟨.bl false, H1, I1, rfl, q1⟩
theorem pe_or (ha : PE X a ta) (hb : PE X (.BoolOp .Or (b :: rest) pos) tb) : PE X (.BoolOp .Or (a :: b :: rest) pos) (tOrV ta tb) := by
  intro pins s σ H Q I h
  refine BoolOp_or (thn (ha pins s σ H _ I h) fun v s1 ⟨x, H1, I1, r1, q1⟩ => ?_)
  obtain ⟨c, rfl, q1⟩ := q1
  cases r1
  refine wpAny_truthy_bool ?_
  cases c with
  | false => exact hb pins s1 σ H1 Q I1 q1
  | true => exact ⟨.bl true, H1, I1, rfl, q1⟩
theorem pe_not (ha : PE X a ta) : PE X (.UnaryOp .Not a pos) (tNotV ta) := by
  intro pins s σ H Q I h
  refine UnaryOp_ (thn (ha pins s σ H _ I h) fun v s1 ⟨x, H1, I1, r1, q1⟩ => ?_)
  obtain ⟨c, rfl, q1⟩ := q1
  cases r1
  exact not_of (wpAny_truthy_bool ⟨.bl (!c), H1, I1, rfl, q1⟩)
/-- a if t else b -/
def tIf (t : TT) (ta tb : TE) : TE := fun σ H Q => t σ H fun c H1 => if c = true then ta σ H1 Q else tb σ H1 Q
theorem pe_ifExp {c : Expr} (hc : PT X c tA) (ha : PE X a ta) (hb : PE X b tb) : PE X (.IfExp c a b pos) (tIf tA ta tb) := by
  intro pins s σ H Q I h
  refine wpAny_IfExp (thn (hc pins s σ H _ I h) fun d s1 ⟨H1, I1, q1⟩ => ?_)
  cases d with
  | true => exact ha pins s1 σ H1 Q I1 q1
  | false => exact hb pins s1 σ H1 Q I1 q1
end
end L2

namespace L2
open PySem PySem.Spec PyProof.Rows

/-! ### a list, a tuple that is read: tracked, frozen, or an object of the module -/
def SqL (K : PySem.W.Frag) (H : Hp) (a : Addr) (xs : List V) : Prop :=
  Rd H a (.lst xs) ∨
    ∃ (o : Obj) (its : Array Value) (n : Nat), K.lookup a = some o ∧ o.cls = .type "list" ∧ o.dict = none ∧ o.data = .seq its n ∧ its.size ≤ sizeLine ∧ Vals xs its.toList
def SqT (K : PySem.W.Frag) (H : Hp) (a : Addr) (xs : List V) : Prop :=
  Rd H a (.tup xs) ∨
    ∃ (o : Obj) (its : Array Value) (n : Nat), K.lookup a = some o ∧ o.cls = .type "tuple" ∧ o.data = .seq its n ∧ its.size ≤ sizeLine ∧ Vals xs its.toList
def absV : Value → Option V
  | .none => some .non
  | .bool b => some (.bl b)
  | .int i _ => some (.int i)
  | .str x _ => some (.str x)
  | .bytes b _ => some (.byt b)
  | .float b _ => some (.flt b)
  | .ref a => some (.ref a)
  | .type n => some (.ty n)
  | _ => none
theorem RelV.abs {x : V} {u : Value} (r : RelV x u) : absV u = some x := by
  cases x with
  | non => cases r; rfl
  | bl _ => cases r; rfl
  | int _ => obtain ⟨t, rfl⟩ := r; rfl
  | str _ => obtain ⟨t, rfl⟩ := r; rfl
  | byt _ => obtain ⟨t, rfl⟩ := r; rfl
  | flt _ => obtain ⟨t, rfl⟩ := r; rfl
  | ref _ => cases r; rfl
  | ty _ => cases r; rfl
theorem RelV.inj {x y : V} {u : Value} (r : RelV x u) (q : RelV y u) : x = y := Option.some.inj (r.abs.symm.trans q.abs)
theorem Vals.inj : ∀ {xs ys : List V} {us : List Value}, Vals xs us → Vals ys us → xs = ys
  | _, _, _, .nil, .nil => rfl
  | _, _, _, .cons r t, .cons r' t' => by rw [r.inj r', Vals.inj t t']
section
variable {X : Cx} {pins : List (Addr × Obj)} {σ : St} {H : Hp} {s : Shared} {a : Addr} {xs ys : List V}
theorem SqL.of {K : PySem.W.Frag} (h : H a = some (.lst xs)) : SqL K H a xs := .inl (.inl h)
theorem SqT.of {K : PySem.W.Frag} (h : H a = some (.tup xs)) : SqT K H a xs := .inl (.inl h)
theorem Inv.list (I : Inv X pins σ H s) (h : SqL X.K H a xs) : ∃ its : List Value, Vals xs its ∧ PlainL s.heap a its.toArray ∧ xs.length ≤ sizeLine := by
  rcases h with h | ⟨o, its, n, hk, hc, hd, hs, hz, r⟩
  · obtain ⟨z, its, n, r, e⟩ := h.ok I.hok
    exact ⟨its, r, ⟨_, n, e, rfl, rfl, rfl⟩, z⟩
  · refine ⟨its.toList, r, ⟨o, n, I.kIn a o hk, hc, hd, by simpa using hs⟩, ?_⟩
    have e := r.length
    simp only [Array.length_toList] at e
    omega
theorem Inv.tuple (I : Inv X pins σ H s) (h : SqT X.K H a xs) : ∃ its : List Value, Vals xs its ∧ IsTup s.heap a its.toArray ∧ xs.length ≤ sizeLine := by
  rcases h with h | ⟨o, its, n, hk, hc, hs, hz, r⟩
  · obtain ⟨z, its, r, p⟩ := h.ok I.hok
    exact ⟨its, r, p, z⟩
  · refine ⟨its.toList, r, ⟨o, I.kIn a o hk, hc, n, by simpa using hs⟩, ?_⟩
    have e := r.length
    simp only [Array.length_toList] at e
    omega
theorem Inv.list_inj (I : Inv X pins σ H s) (h : SqL X.K H a xs) (h' : SqL X.K H a ys) : xs = ys := by
  obtain ⟨its, r, ⟨o, n, e, _, _, d⟩, _⟩ := I.list h
  obtain ⟨its', r', ⟨o', n', e', _, _, d'⟩, _⟩ := I.list h'
  rw [e] at e'; cases e'
  rw [d] at d'
  injection d' with d1 _
  have : its = its' := by simpa using congrArg Array.toList d1
  subst this
  exact r.inj r'
end

/-! ### another wish about exceptions -/
abbrev Cx.wish (X : Cx) (E : Value → Shared → Prop) : Cx := { X with xe := E }
/-- no exception leaves -/
abbrev Cx.nox (X : Cx) : Cx := X.wish fun _ _ => False
theorem Cx.Ok.wish {X : Cx} (ok : X.Ok) (E : Value → Shared → Prop) : (X.wish E).Ok :=
  ⟨ok.mod, ok.kind, ok.glob, ok.blt, ok.above, ok.inj, ok.has, ok.cab, ok.hd, ok.frames, ok.stk, ok.exf, ok.bs, ok.bsz, ok.noex, ok.exfs, ok.funs, ok.frf⟩
theorem Cx.Ok.unwish {X : Cx} {E : Value → Shared → Prop} (ok : (X.wish E).Ok) : X.Ok :=
  ⟨ok.mod, ok.kind, ok.glob, ok.blt, ok.above, ok.inj, ok.has, ok.cab, ok.hd, ok.frames, ok.stk, ok.exf, ok.bs, ok.bsz, ok.noex, ok.exfs, ok.funs, ok.frf⟩
section
variable {X : Cx} {pins : List (Addr × Obj)} {σ : St} {H : Hp} {s : Shared} {E : Value → Shared → Prop}
theorem Inv.wish (I : Inv X pins σ H s) (E : Value → Shared → Prop) : Inv (X.wish E) pins σ H s := ⟨I.ok.wish E, I.os, I.bare, I.base, I.loc, I.cell, I.free, I.freeC, I.pin, I.hok, I.len⟩
theorem Inv.unwish (I : Inv (X.wish E) pins σ H s) : Inv X pins σ H s := ⟨I.ok.unwish, I.os, I.bare, I.base, I.loc, I.cell, I.free, I.freeC, I.pin, I.hok, I.len⟩
theorem SP.unwish {D : Ends} {f : Flow} {s' : Shared} (h : SP (X.wish E) pins D f s') : SP X pins D f s' := by
  cases f with
  | next => obtain ⟨σ', H', I, q⟩ := h; exact ⟨σ', H', I.unwish, q⟩
  | brk => obtain ⟨σ', H', I, q⟩ := h; exact ⟨σ', H', I.unwish, q⟩
  | cont => obtain ⟨σ', H', I, q⟩ := h; exact ⟨σ', H', I.unwish, q⟩
  | ret u => obtain ⟨v, σ', H', I, r, q⟩ := h; exact ⟨v, σ', H', I.unwish, r, q⟩
theorem PSs.nox {st : List Stmt} {t : TS} (h : PSs X.nox st t) : PSs X st t := fun pins s σ H D I hw =>
  wpAny_mono (h pins s σ H D (I.wish _) hw) (fun _ _ q => q.unwish) fun _ _ z => False.elim z
end

/-! ### blocks and small statements -/
section
variable {X : Cx} {st : Stmt} {rest : List Stmt} {t u : TS} {e : Expr} {te : TE} {pos : Pos}
def tNext : TS := fun D σ H => D.nx σ H
def tSeq (t u : TS) : TS := fun D σ H => t { D with nx := u D } σ H
theorem pss_nil : PSs X [] tNext := fun _ _ σ H _ I h => wpAny_execs_nil ⟨σ, H, I, h⟩
theorem pss_cons (h1 : PS X st t) (h2 : PSs X rest u) : PSs X (st :: rest) (tSeq t u) := by
  intro pins s σ H D I h
  refine wpAny_execs_cons (thn (h1 pins s σ H { D with nx := u D } I h) fun f s1 q => ?_)
  cases f with
  | next =>
    obtain ⟨σ', H', I', q⟩ := q
    exact h2 pins s1 σ' H' D I' q
  | ret v => exact q
  | brk => exact q
  | cont => exact q
theorem pss_one (h1 : PS X st t) : PSs X [st] t := by
  intro pins s σ H D I h
  refine wpAny_execs_cons (thn (h1 pins s σ H D I h) fun f s1 q => ?_)
  cases f with
  | next => exact wpAny_execs_nil q
  | ret v => exact q
  | brk => exact q
  | cont => exact q
def tBreak : TS := fun D σ H => D.bk σ H
def tCont : TS := fun D σ H => D.ct σ H
/-- in a def's body nothing is shown -/
theorem Inv.quiet {pins : List (Addr × Obj)} {σ : St} {H : Hp} {s : Shared} (I : Inv X pins σ H s) : interactive X.env = false := by simp [interactive, I.ok.kind]
/-- an expression whose value is dropped -/
def tDrop (te : TE) : TS := fun D σ H => te σ H fun _ H1 => D.nx σ H1
theorem ps_expr (he : PE X e te) (hs : swapsWith e none pos.line X.env = pure false := by rfl) : PS X (.Expr e pos) (tDrop te) := by
  intro pins s σ H D I h
  exact wpAny_Expr_any (thn (he pins s σ H _ I h) fun v s1 ⟨x, H1, I1, r1, q1⟩ => ⟨σ, H1, I1, q1⟩) I.quiet hs
def tRet (te : TE) : TS := fun D σ H => te σ H D.rt
theorem ps_ret (he : PE X e te) : PS X (.Return (some e) pos) (tRet te) := by
  intro pins s σ H D I h
  exact wpAny_Return_some (thn (he pins s σ H _ I h) fun v s1 ⟨x, H1, I1, r1, q1⟩ => ⟨x, σ, H1, I1, r1, q1⟩)
def tRetN : TS := fun D _ H => D.rt .non H
def tIfS (c : TT) (t u : TS) : TS := fun D σ H => c σ H fun b H1 => if b = true then t D σ H1 else u D σ H1
theorem ps_if {c : Expr} {a b : List Stmt} {tc : TT} (hc : PT X c tc) (ha : PSs X a t) (hb : PSs X b u) : PS X (.If c a b pos) (tIfS tc t u) := by
  intro pins s σ H D I h
  refine wpAny_If (thn (hc pins s σ H _ I h) fun d s1 ⟨H1, I1, q1⟩ => ?_)
  cases d with
  | true => exact ha pins s1 σ H1 D I1 q1
  | false => exact hb pins s1 σ H1 D I1 q1
/-- code that the proof never comes to -/
def tNever : TS := fun _ _ _ => False
end

/-! ### targets -/
abbrev TG := V → St → Hp → (St → Hp → Prop) → Prop
abbrev TGs := List V → St → Hp → (St → Hp → Prop) → Prop
def PG (X : Cx) (target : Expr) (t : TG) : Prop :=
  ∀ (pins : List (Addr × Obj)) (s : Shared) (σ : St) (H : Hp) (v : V) (u : Value) (Q : St → Hp → Prop), Inv X pins σ H s → RelV v u → t v σ H Q →
    wpAny (model X.prog X.w) X.A (assign target X.env u) (fun _ s' => ∃ σ' H', Inv X pins σ' H' s' ∧ Q σ' H') X.xe s
/-- several targets, one after another -/
def PGs (X : Cx) (ts : List Expr) (t : TGs) : Prop :=
  ∀ (pins : List (Addr × Obj)) (s : Shared) (σ : St) (H : Hp) (vs : List V) (us : List Value) (Q : St → Hp → Prop), Inv X pins σ H s → Vals vs us → t vs σ H Q →
    wpAny (model X.prog X.w) X.A (assignInOrder ((assignEach ts X.env).map (·.2)) us) (fun _ s' => ∃ σ' H', Inv X pins σ' H' s' ∧ Q σ' H') X.xe s
/-- o[i] = v, by values -/
abbrev TSet := V → V → V → Hp → (Hp → Prop) → Prop
def PSet (X : Cx) (t : TSet) : Prop :=
  ∀ (pins : List (Addr × Obj)) (s : Shared) (σ : St) (H : Hp) (o i v : V) (ov iv u : Value) (Q : Hp → Prop), Inv X pins σ H s → RelV o ov → RelV i iv → RelV v u → t o i v H Q →
    wpAny (model X.prog X.w) X.A (setItem ov iv u) (fun _ s' => ∃ H', Inv X pins σ H' s' ∧ Q H') X.xe s
/-- a op= b, by values -/
abbrev TIp := V → V → Hp → VK → Prop
def PIp (X : Cx) (op : Operator) (t : TIp) : Prop :=
  ∀ (pins : List (Addr × Obj)) (s : Shared) (σ : St) (H : Hp) (x y : V) (v u : Value) (Q : VK), Inv X pins σ H s → RelV x v → RelV y u → t x y H Q →
    wpAny (model X.prog X.w) X.A (inplaceOp op v u) (EP X pins σ Q) X.xe s
section
variable {X : Cx} {pos : Pos}
def gName (i : Nat) : TG := fun v σ H Q => Q (σ.set i (some v)) H
theorem pg_name {i : Nat} {x : Str} (hN : X.N.Nodup) (hi : X.N[i]? = some x) (hx : Loc X.env.scope x) (hf : X.fn x = true ∨ X.env.scope.names.lookup x = some .local := by first | exact .inl rfl | exact .inr rfl | assumption) : PG X (.Name x pos) (gName i) := by
  intro pins s σ H v u Q I r h
  exact wpAny_assign_Name (store_ok I hN hi hx r (fun s' I' => ⟨_, H, I', h⟩) hf)
def gNil : TGs := fun vs σ H Q => vs = [] ∧ Q σ H
def gCons (t : TG) (u : TGs) : TGs := fun vs σ H Q => ∃ v r, vs = v :: r ∧ t v σ H fun σ' H' => u r σ' H' Q
theorem pgs_nil : PGs X [] gNil := by
  intro pins s σ H vs us Q I r h
  obtain ⟨e, h⟩ := h
  subst e
  cases r
  exact assignInOrder_nil ⟨σ, H, I, h⟩
theorem pgs_cons {e : Expr} {es : List Expr} {t : TG} {u : TGs} (h1 : PG X e t) (h2 : PGs X es u)
    (hs : (assignEach (e :: es) X.env).map (·.2) = assign e X.env :: (assignEach es X.env).map (·.2) := by rfl) : PGs X (e :: es) (gCons t u) := by
  intro pins s σ H vs us Q I r h
  obtain ⟨v, vr, e1, h⟩ := h
  subst e1
  cases r with
  | cons r rr =>
    rw [hs]
    refine assignInOrder_cons (thn (h1 pins s σ H _ _ _ I r h) fun _ s1 ⟨σ1, H1, I1, q1⟩ => ?_)
    exact h2 pins s1 σ1 H1 _ _ Q I1 rr q1
/-- (a, b, ..) = a tuple of that length -/
def gTup (K : PySem.W.Frag) (n : Nat) (t : TGs) : TG := fun v σ H Q => ∃ a xs, v = .ref a ∧ SqT K H a xs ∧ xs.length = n ∧ t xs σ H Q
theorem pg_tup {es : List Expr} {k : Nat} {t : TGs} {n : Nat} (hc : X.calm = true) (h : PGs X es t)
    (hn : (assignEach es X.env).length = n := by rfl) (hst : (assignEach es X.env).findIdx? (·.1) = none := by rfl) : PG X (.Tuple es k pos) (gTup X.K n t) := by
  intro pins s σ H v u Q I r hw
  obtain ⟨a, xs, e1, hq, hl, hw⟩ := hw
  subst e1
  cases r
  obtain ⟨its, rv, ht, hz⟩ := I.tuple hq
  refine assign_Tuple_tuple (I.ok.hd hc) ht (by simp [hn, ← hl, rv.length]) hst fun h' hx => ?_
  have I1 : Inv X pins σ H { s with heap := h' } := I.kept (t' := s.toks) fun b o e => hx b o (Nat.ne_of_lt (Heap.lt_size e)) e
  exact h pins _ σ H xs _ Q I1 (by simpa using rv) hw
/-- o[i] = .. -/
def gSub (to ti : TE) (t : TSet) : TG := fun v σ H Q => to σ H fun o H1 => ti σ H1 fun i H2 => t o i v H2 fun H3 => Q σ H3
theorem pg_sub {o i : Expr} {to ti : TE} {t : TSet} (ho : PE X o to) (hi : PE X i ti) (hs : PSet X t)
    (ha : ∀ v, assign (.Subscript o i pos) X.env v = (do
      let ov ← holding [v] (eval o X.env)
      let iv ← holding [v, ov] (eval i X.env)
      standAt pos
      holding [v, ov, iv] (setItem ov iv v)
      release [v, ov, iv] []) := by intro _; rfl) : PG X (.Subscript o i pos) (gSub to ti t) := by
  intro pins s σ H v u Q I r h
  rw [ha]
  refine wpAny_bind (wpAny_holding (thn (ho pins s σ H _ I h) fun ov s1 ⟨x, H1, I1, r1, q1⟩ => ?_))
  refine wpAny_bind (wpAny_holding (thn (hi pins s1 σ H1 _ I1 q1) fun iv s2 ⟨y, H2, I2, r2, q2⟩ => ?_))
  refine wpAny_bind (wpAny_standAt (wpAny_bind (wpAny_holding (thn (hs pins s2 σ H2 x y v ov iv u _ I2 r1 r2 r q2) fun _ s3 ⟨H3, I3, q3⟩ => ?_))))
  exact wpAny_release ⟨σ, H3, I3, q3⟩
/-- target = value -/
def tAsg (te : TE) (g : TG) : TS := fun D σ H => te σ H fun x H1 => g x σ H1 D.nx
theorem ps_asg {tg e : Expr} {te : TE} {g : TG} (he : PE X e te) (hg : PG X tg g) (hs : swapsWithSole [tg] e pos.line X.env = pure false := by rfl) (hw : swappedStores [tg] e X.env = pure none := by rfl)
    (h1 : (assignEach [tg] X.env).map (·.2) = [assign tg X.env] := by rfl) : PS X (.Assign [tg] e pos) (tAsg te g) := by
  intro pins s σ H D I h
  refine wpAny_Assign_stores (thn (he pins s σ H _ I h) fun v s1 ⟨x, H1, I1, r1, q1⟩ => ?_) hs hw
  rw [h1]
  exact thn (hg pins s1 σ H1 x v _ I1 r1 q1) fun _ s2 q => q
/-- name = value -/
theorem ps_set {i : Nat} {x : Str} {e : Expr} {te : TE} {pos' : Pos} (hN : X.N.Nodup) (hi : X.N[i]? = some x) (hx : Loc X.env.scope x) (he : PE X e te) (hs : swapsWith e (some (.Name x pos')) pos.line X.env = pure false := by rfl) (hf : X.fn x = true ∨ X.env.scope.names.lookup x = some .local := by first | exact .inl rfl | exact .inr rfl | assumption) :
    PS X (.Assign [.Name x pos'] e pos) (tAsg te (gName i)) := by
  intro pins s σ H D I h
  refine wpAny_Assign_Name (thn (he pins s σ H _ I h) fun v s1 ⟨y, H1, I1, r1, q1⟩ => ?_) hs
  exact store_ok I1 hN hi hx r1 (fun s2 I2 => ⟨_, H1, I2, q1⟩) hf
/-- a, b = x, y with plain local names: stored from the right; the pair itself is not tracked (the opening rows as in PyProof/Rows/TupAssign.lean:23) -/
def tPar (i j : Nat) (ta : TA) : TS := fun D σ H => ta σ H fun vs H1 => ∃ v w, vs = [v, w] ∧ D.nx ((σ.set i (some v)).set j (some w)) H1
/-- name op= e -/
def tAug (i : Nat) (te : TE) (ti : TIp) : TS := fun D σ H => ∃ x, σ[i]? = some (some x) ∧ te σ H fun y H1 => ti x y H1 fun z H2 => D.nx (σ.set i (some z)) H2
/-- o[i] op= e -/
def tAugS (to ti te : TE) (tget : V → V → Hp → VK → Prop) (tip : TIp) (tset : TSet) : TS := fun D σ H => to σ H fun o H1 => ti σ H1 fun i H2 => tget o i H2 fun x H3 => te σ H3 fun y H4 => tip x y H4 fun z H5 => tset o i z H5 fun H6 => D.nx σ H6
/-- o[i], by values -/
def PGet (X : Cx) (t : V → V → Hp → VK → Prop) : Prop :=
  ∀ (pins : List (Addr × Obj)) (s : Shared) (σ : St) (H : Hp) (o i : V) (ov iv : Value) (Q : VK), Inv X pins σ H s → RelV o ov → RelV i iv → t o i H Q →
    wpAny (model X.prog X.w) X.A (getItem ov iv) (EP X pins σ Q) X.xe s
/-- ints -/
def ipI (f : Int → Int → Int) : TIp := fun x y H Q => ∃ i j, x = .int i ∧ y = .int j ∧ Q (.int (f i j)) H
end

/-! ### while -/
section
variable {X : Cx} {pos : Pos}
/-- the invariant W with its measure -/
def tWhile (c : TT) (tb : TS) : TS := fun D σ H => ∃ W : Nat → St → Hp → Prop, (∃ m, W m σ H) ∧ ∀ m σ H, W m σ H →
  c σ H fun b H1 => if b = true then ∃ N : St → Hp → Prop, (∀ σ' H', N σ' H' → ∃ m', m' < m ∧ W m' σ' H') ∧ tb { D with nx := N, ct := N, bk := D.nx } σ H1 else D.nx σ H1
end

/-! ### what a loop or a comprehension walks -/
/-- at turn i: it yields x (the heap may grow), or it stops -/
structure It where
  go : Nat → Hp → Prop
  yld : Nat → Hp → V → Hp → Prop
  stop : Nat → Hp → Prop
/-- the iterator's own objects may turn: they are not the frame's, not pinned, younger than the entry (or a comprehension's own) -/
def FpOk (X : Cx) (pins : List (Addr × Obj)) (H : Hp) (b : Addr) : Prop :=
  H b = none ∧ b ≠ X.env.locals ∧ b ∉ X.fs ∧ (b ∈ X.ex ∨ X.s_0.heap.objs.size ≤ b) ∧ (∀ x c, X.env.cells.lookup x = some c → c ≠ b) ∧ ∀ p ∈ X.pn ++ pins, p.1 ≠ b
theorem Inv.fpOk {X : Cx} {pins : List (Addr × Obj)} {σ : St} {H H' : Hp} {s : Shared} {b : Addr} (I : Inv X pins σ H s) (hb : s.heap.objs.size ≤ b) (hn : H' b = none) : FpOk X pins H' b := by
  refine ⟨hn, Nat.ne_of_gt (Nat.lt_of_lt_of_le I.lt hb), I.nofs hb, .inr (Nat.le_trans I.sz hb), fun x c e z => ?_, fun p hp z => ?_⟩
  · obtain ⟨v, q⟩ := I.cell x c e
    exact absurd (Nat.lt_of_lt_of_le q.lt (by rw [z]; exact hb)) (Nat.lt_irrefl _)
  · exact absurd (Nat.lt_of_lt_of_le (Heap.lt_size (I.pin p hp).1) (by rw [z]; exact hb)) (Nat.lt_irrefl _)
structure Turn (P : Program) (w : World) (K : PySem.W.Frag) (tg : Expr) (J : It) (fp : List Addr) (it : Addr) (tn : Nat → Heap → Prop) : Prop where
  mem : it ∈ fp
  obj : ∀ i h, tn i h → ∀ b ∈ fp, ∃ o, h.get? b = some o ∧ ∀ v, o.data ≠ .cell v
  keep : ∀ i h h', tn i h → (∀ b ∈ fp, ∀ o, h.get? b = some o → h'.get? b = some o) → tn i h'
  item : ∀ (X : Cx), X.prog = P → X.w = w → X.K = K → X.calm = true → ∀ (i : Nat) (pins : List (Addr × Obj)) (s : Shared) (σ : St) (H : Hp) (E : Value → Shared → Prop), Inv X pins σ H s → (∀ b ∈ fp, FpOk X pins H b) → tn i s.heap → J.go i H →
    wpAny (model P w) X.A (pyNext (.ref it)) (fun r s1 => ∃ u, r = some u ∧
      wpAny (model P w) X.A (letOwnedTupleGo tg (.ref it) u) (fun _ s2 => ∃ x H', Inv X pins σ H' s2 ∧ RelV x u ∧ J.yld i H x H' ∧ tn (i + 1) s2.heap ∧ ∀ b ∈ fp, H' b = none) E s1) E s
  done : ∀ (X : Cx), X.prog = P → X.w = w → X.K = K → X.calm = true → ∀ (i : Nat) (pins : List (Addr × Obj)) (s : Shared) (σ : St) (H : Hp) (E : Value → Shared → Prop), Inv X pins σ H s → (∀ b ∈ fp, FpOk X pins H b) → tn i s.heap → J.stop i H →
    wpAny (model P w) X.A (pyNext (.ref it)) (fun r s1 => r = none ∧ Inv X pins σ H s1) E s
  self : ∀ (A : Around) (i : Nat) (s : Shared) (Q : Value → Shared → Prop) (E : Value → Shared → Prop), tn i s.heap → Q (.ref it) s → wpAny (model P w) A (pyIter (.ref it)) Q E s
abbrev TI := St → Hp → (It → Hp → Prop) → Prop
/-- an iterator has come -/
def PIE (X : Cx) (pins : List (Addr × Obj)) (σ : St) (tg : Expr) (R : It → Hp → Prop) (itv : Value) (s2 : Shared) : Prop :=
  ∃ (it : Addr) (fp : List Addr) (tn : Nat → Heap → Prop) (J : It) (H' : Hp), itv = .ref it ∧ Inv X pins σ H' s2 ∧ Turn X.prog X.w X.K tg J fp it tn ∧ tn 0 s2.heap ∧ (∀ b ∈ fp, FpOk X pins H' b) ∧ R J H'
def PI (X : Cx) (tg iter : Expr) (wi : TI) : Prop :=
  ∀ (pins : List (Addr × Obj)) (s : Shared) (σ : St) (H : Hp) (R : It → Hp → Prop), Inv X pins σ H s → wi σ H R →
    wpAny (model X.prog X.w) X.A (eval iter X.env) (fun v s1 => wpAny (model X.prog X.w) X.A (pyIter v) (PIE X pins σ tg R) X.xe s1) X.xe s

/-- the step ahead of the store is nothing for an iterator that keeps no tuple -/
theorem go_of {M : Model} {A : Around} {E : Value → Shared → Prop} {s : Shared} {tg : Expr} {it : Addr} {u : Value} {o : Obj} {n : String} {vs : Array Value} {Q : Unit → Shared → Prop} (ho : s.heap.get? it = some o) (hc : o.cls = .type n) (hd : o.data = .fields vs)
    (hn : ["enumerate", "zip", "dict_itemiterator", "dict_reverseitemiterator", "odict_iterator", "itertools.zip_longest", "itertools.pairwise"].contains n = false) (hQ : Q () s) : wpAny M A (letOwnedTupleGo tg (.ref it) u) Q E s := by
  unfold letOwnedTupleGo
  cases tg <;> first
    | exact wpAny_pure hQ
    | (cases u <;> first
        | exact wpAny_pure hQ
        | (refine wpAny_bind (wpAny_load ho ?_)
           rw [hc, hd]
           show wpAny M A (if (["enumerate", "zip", "dict_itemiterator", "dict_reverseitemiterator", "odict_iterator", "itertools.zip_longest", "itertools.pairwise"].contains n && vs[0]? == some (rawInt _)) = true then _ else _) Q E s
           rw [if_neg (by intro h; rw [hn, Bool.false_and] at h; cases h)]
           exact wpAny_pure hQ))

/-- the list at a, as it stands at each turn (a loop may append to it) -/
def Itl (K : PySem.W.Frag) (a : Addr) : It :=
  ⟨fun i H => ∃ xs x, SqL K H a xs ∧ xs[i]? = some x, fun i H x H' => H' = H ∧ ∀ xs, SqL K H a xs → xs[i]? = some x, fun i H => ∃ xs, SqL K H a xs ∧ xs.length ≤ i⟩
def Itt (K : PySem.W.Frag) (a : Addr) : It :=
  ⟨fun i H => ∃ xs x, SqT K H a xs ∧ xs[i]? = some x, fun i H x H' => H' = H ∧ ∀ xs, SqT K H a xs → xs[i]? = some x, fun i H => ∃ xs, SqT K H a xs ∧ xs.length ≤ i⟩
/-- lo, lo + 1, .. (n of them) -/
def Itr (lo : Int) (n : Nat) : It := ⟨fun i _ => i < n, fun i H x H' => H' = H ∧ x = .int (lo + i), fun i _ => n ≤ i⟩
theorem turn_list {P : Program} {w : World} {K : PySem.W.Frag} {tg : Expr} (a it : Addr) : Turn P w K tg (Itl K a) [it] it (fun i h => h.IsListIter it a i) where
  mem := by simp
  obj := fun i h st b hb => by
    have e : b = it := by simpa using hb
    subst e
    obtain ⟨o, e, c, d⟩ := st
    exact ⟨o, e, fun v z => by rw [d] at z; cases z⟩
  keep := fun i h h' st k => st.at fun o e => k it (by simp) o e
  item := by
    intro X hP hw hK hc i pins s σ H E I hf st hg
    subst hP hw hK
    obtain ⟨xs, x, hq, hx⟩ := hg
    obtain ⟨its, rv, p, hz⟩ := I.list hq
    obtain ⟨u, hu, ru⟩ := rv.get hx
    obtain ⟨f0, f1, f2, f3, f4, f5⟩ := hf it (by simp)
    refine wpAny_pyNext_list_item st p.isList (x := u) (by simpa using hu) fun h' st' sb => ?_
    have I1 : Inv X pins σ H { s with heap := h' } := I.turned (t' := s.toks) (fun b o hb e => (sb.2 b hb).trans e) f0 f1 f3 f4 f5
    obtain ⟨o, e, c, d⟩ := id st'
    exact ⟨u, rfl, go_of (s := { s with heap := h' }) e c d (by decide) ⟨x, H, I1, ru, ⟨rfl, fun ys hy => by rw [I.list_inj hy hq]; exact hx⟩, st', fun b hb => (hf b hb).1⟩⟩
  done := by
    intro X hP hw hK hc i pins s σ H E I hf st hg
    subst hP hw hK
    obtain ⟨xs, hq, hx⟩ := hg
    obtain ⟨its, rv, p, hz⟩ := I.list hq
    obtain ⟨f0, f1, f2, f3, f4, f5⟩ := hf it (by simp)
    have hl := rv.length
    exact wpAny_pyNext_list_end (I.ok.hd hc) st p.isList (by simp; omega) fun h' eb => ⟨rfl, I.turned (t' := s.toks) (fun b o hb e => eb b o hb e) f0 f1 f3 f4 f5⟩
  self := fun _ _ _ _ _ st h => wpAny_pyIter_listiter st h
theorem turn_range {P : Program} {w : World} {K : PySem.W.Frag} {tg : Expr} (it : Addr) (lo : Int) (n : Nat) : Turn P w K tg (Itr lo n) [it] it (fun i h => IsRangeIter h it (lo + (i : Nat) * 1) ((n : Int) - (i : Nat)) 1) where
  mem := by simp
  obj := fun i h st b hb => by
    have e : b = it := by simpa using hb
    subst e
    exact ⟨_, st, fun v z => by
      have z' : Data.fields _ = Data.cell v := z
      cases z'⟩
  keep := fun i h h' st k => k it (by simp) _ st
  item := by
    intro X hP hw hK hc i pins s σ H E I hf st hg
    subst hP hw hK
    obtain ⟨f0, f1, f2, f3, f4, f5⟩ := hf it (by simp)
    have W := Walks.range (prog := X.prog) (w := X.w) (I.ok.hd hc) it lo 1 n
    refine W.item i s _ _ hg st fun v h' tk hv st' kk => ?_
    obtain ⟨t, rfl⟩ := hv
    have I1 : Inv X pins σ H { s with heap := h', toks := tk } := I.turned (fun b o hb e => kk b o (by simpa using hb) e) f0 f1 f3 f4 f5
    refine ⟨_, rfl, go_of (s := { s with heap := h', toks := tk }) (n := "range_iterator") st' rfl rfl (by decide) ⟨.int (lo + i), H, I1, ⟨t, ?_⟩, ⟨rfl, rfl⟩, st', fun b hb => (hf b hb).1⟩⟩
    rw [Int.mul_one]
  done := by
    intro X hP hw hK hc i pins s σ H E I hf st hg
    subst hP hw hK
    obtain ⟨f0, f1, f2, f3, f4, f5⟩ := hf it (by simp)
    exact wpAny_pyNext_range_end (I.ok.hd hc) st (by have : n ≤ i := hg; omega) fun h' eb => ⟨rfl, I.turned (t' := s.toks) (fun b o hb e => eb b o hb e) f0 f1 f3 f4 f5⟩
  self := fun _ _ _ _ _ st h => wpAny_pyIter_rangeiter st h
end L2

namespace L2
open PySem PySem.Spec PyProof.Rows
section
variable {X : Cx} {tg : Expr}
def iList (K : PySem.W.Frag) (tl : TE) : TI := fun σ H R => tl σ H fun x H1 => ∃ a, x = .ref a ∧ (∃ xs, SqL K H1 a xs) ∧ R (Itl K a) H1
def iTup (K : PySem.W.Frag) (tl : TE) : TI := fun σ H R => tl σ H fun x H1 => ∃ a, x = .ref a ∧ (∃ xs, SqT K H1 a xs) ∧ R (Itt K a) H1
theorem pi_list {l : Expr} {tl : TE} (hl : PE X l tl) : PI X tg l (iList X.K tl) := by
  intro pins s σ H R I h
  refine thn (hl pins s σ H _ I h) fun v s1 ⟨x, H1, I1, r1, q1⟩ => ?_
  obtain ⟨a, e, ⟨xs, hq⟩, q⟩ := q1
  subst e
  cases r1
  obtain ⟨its, rv, p, hz⟩ := I1.list hq
  refine wpAny_pyIter_list p.isList ?_
  refine ⟨s1.heap.objs.size, [s1.heap.objs.size], _, _, H1, rfl, I1.kept (t' := s1.toks) fun b o e => Heap.get?_push_of_some _ e, turn_list a _, ⟨_, Heap.get?_push_size _ rfl, rfl, rfl⟩, fun b hb => ?_, q⟩
  have e : b = s1.heap.objs.size := by simpa using hb
  subst e
  exact I1.fpOk (Nat.le_refl _) (I1.hok.fresh (Nat.le_refl _))
/-- a range object just made, walked -/
theorem range_it {pins : List (Addr × Obj)} {σ : St} {H : Hp} {s : Shared} {R : It → Hp → Prop} {E : Value → Shared → Prop} {lo hi : Int} {t u v : Tok} {tk : Nat} (I : Inv X pins σ H s) (h1 : -(2 ^ 62) ≤ lo) (h2 : lo < 2 ^ 62) (h3 : -(2 ^ 62) ≤ hi) (h4 : hi < 2 ^ 62)
    (q : R (Itr lo (hi - lo).toNat) H) : wpAny (model X.prog X.w) X.A (pyIter (.ref s.heap.objs.size)) (PIE X pins σ tg R) E { s with heap := s.heap.push { cls := .type "range", data := .fields #[.int lo t, .int hi u, .int 1 v] }, toks := tk } := by
  refine wpAny_pyIter_range (IsRange.new ..) (small_one h1 h2 h3 h4) ?_
  have I1 : Inv X pins σ H { s with heap := s.heap.push { cls := .type "range", data := .fields #[.int lo t, .int hi u, .int 1 v] }, toks := tk } := I.kept fun b o e => Heap.get?_push_of_some _ e
  refine ⟨(s.heap.push { cls := .type "range", data := .fields #[.int lo t, .int hi u, .int 1 v] }).objs.size, [(s.heap.push { cls := .type "range", data := .fields #[.int lo t, .int hi u, .int 1 v] }).objs.size], _, _, H, rfl,
    I1.kept (t' := tk) fun b o e => Heap.get?_push_of_some _ e, turn_range _ lo (hi - lo).toNat, ?_, fun b hb => ?_, q⟩
  · have e1 : lo + ((0 : Nat) : Int) * 1 = lo := by simp
    have e2 : (((hi - lo).toNat : Nat) : Int) - ((0 : Nat) : Int) = Builtin.Range.rangeSize lo hi 1 := by rw [rangeSize_one]; split <;> omega
    show IsRangeIter _ _ (lo + ((0 : Nat) : Int) * 1) ((((hi - lo).toNat : Nat) : Int) - ((0 : Nat) : Int)) 1
    rw [e1, e2]
    exact Heap.get?_push_size _ rfl
  · have e : b = (s.heap.push { cls := .type "range", data := .fields #[.int lo t, .int hi u, .int 1 v] }).objs.size := by simpa using hb
    subst e
    exact I1.fpOk (Nat.le_refl _) (I1.hok.fresh (Nat.le_refl _))
def iRng1 (ta : TA) : TI := fun σ H R => ta σ H fun vs H1 => ∃ j : Int, vs = [.int j] ∧ -(2 ^ 62) ≤ j ∧ j < 2 ^ 62 ∧ R (Itr 0 j.toNat) H1
def iRng2 (ta : TA) : TI := fun σ H R => ta σ H fun vs H1 => ∃ i j : Int, vs = [.int i, .int j] ∧ (-(2 ^ 62) ≤ i ∧ i < 2 ^ 62 ∧ -(2 ^ 62) ≤ j ∧ j < 2 ^ 62) ∧ R (Itr i (j - i).toNat) H1
theorem pi_range1 {a : Expr} {ta : TA} {p pos : Pos} (hg : Gl X "range") (hm : X.mg "range" = none) (ha : PA X [a] ta) (hs : starEach [a] X.env = [(false, eval a X.env)] := by rfl) : PI X tg (.Call (.Name "range" p) [a] [] pos) (iRng1 ta) := by
  intro pins s σ H R I h
  refine Call_ (ld_blt I hg hm boot_range (PyProof.Rows.callWith_type1 (thn (ha pos pins s σ H _ I h) fun us s1 ⟨vs, H1, I1, r1, q1⟩ => ?_) hs rfl))
  obtain ⟨j, e, q1, q2, q⟩ := q1
  subst e
  cases r1 with
  | cons r rr =>
    cases rr
    obtain ⟨t, rfl⟩ := r
    exact call_range_1 (range_it I1 (by omega) (by omega) q1 q2 (by simpa using q))
/-! ### for -/
/-- W: the invariant by the turn and a measure; N: what the body is to reach -/
def tFor (wi : TI) (g : TG) (tb : TS) : TS := fun D σ H => wi σ H fun J H1 => ∃ W : Nat → Nat → St → Hp → Prop, (∃ m, W 0 m σ H1) ∧ ∀ i m σ H, W i m σ H →
  (J.stop i H ∧ D.nx σ H) ∨ (J.go i H ∧ ∃ N : St → Hp → Prop, (∀ σ' H', N σ' H' → ∃ m', m' < m ∧ W (i + 1) m' σ' H') ∧ ∀ x H', J.yld i H x H' → g x σ H' fun σ2 H2 => tb { D with nx := N, ct := N, bk := D.nx } σ2 H2)
/-- the records at fp as they stand -/
def pinsAt (fp : List Addr) (h : Heap) : List (Addr × Obj) := fp.filterMap fun b => (h.get? b).map fun o => (b, o)
theorem mem_pinsAt {fp : List Addr} {h : Heap} {b : Addr} {o : Obj} (hb : b ∈ fp) (e : h.get? b = some o) : (b, o) ∈ pinsAt fp h := List.mem_filterMap.mpr ⟨b, hb, by rw [e]; rfl⟩
theorem of_pinsAt {fp : List Addr} {h : Heap} {p : Addr × Obj} (hp : p ∈ pinsAt fp h) : p.1 ∈ fp ∧ h.get? p.1 = some p.2 := by
  obtain ⟨b, hb, e⟩ := List.mem_filterMap.mp hp
  cases q : h.get? b with
  | none => rw [q] at e; cases e
  | some o =>
    rw [q] at e
    have e' : (b, o) = p := Option.some.inj e
    subst e'
    exact ⟨hb, q⟩
theorem Inv.pinned {pins : List (Addr × Obj)} {σ : St} {H : Hp} {s : Shared} {fp : List Addr} (I : Inv X pins σ H s) (hf : ∀ b ∈ fp, FpOk X pins H b) (ho : ∀ b ∈ fp, ∃ o, s.heap.get? b = some o ∧ ∀ v, o.data ≠ .cell v) : Inv X (pins ++ pinsAt fp s.heap) σ H s :=
  I.pins_of fun p hp => (List.mem_append.mp hp).elim (fun z => I.pin p (List.mem_append_right _ z)) fun z => by
    obtain ⟨hb, e⟩ := of_pinsAt z
    obtain ⟨f0, f1, f2, _⟩ := hf p.1 hb
    obtain ⟨o, e', d⟩ := ho p.1 hb
    rw [e] at e'; cases e'
    exact ⟨e, f0, f1, f2, d⟩
theorem Inv.unpinned {pins pl : List (Addr × Obj)} {σ : St} {H : Hp} {s : Shared} (I : Inv X (pins ++ pl) σ H s) : Inv X pins σ H s := I.pins_of fun p hp => I.pin p (List.mem_append_right _ (List.mem_append_left _ hp))
theorem ps_for {iter : Expr} {body : List Stmt} {wi : TI} {g : TG} {tb : TS} {pos : Pos} (hp : PassesOwn (model X.prog X.w) X.A X.env X.xe) (hc : X.calm = true) (hi : PI X tg iter wi) (hg : PG X tg g) (hb : PSs X body tb)
    (hs : ∀ x, foldedSetIterable iter X.env x = pure x := by intro _; rfl) : PS X (.For tg iter body [] pos) (tFor wi g tb) := by
  intro pins s σ H D I h
  refine wpAny_For (thn (hi pins s σ H _ I h) fun v s1 h1 => thn h1 fun itv s2 h2 => ?_) hs
  obtain ⟨it, fp, tn, J, H2, e, I2, T, st2, f2, W, ⟨m0, w0⟩, turn⟩ := h2
  subst e
  -- what stays true of the iterator's objects through the loop
  have stat : ∀ {H' : Hp}, (∀ b ∈ fp, H' b = none) → ∀ b ∈ fp, FpOk X pins H' b := fun hn b hb => ⟨hn b hb, (f2 b hb).2⟩
  refine codeAny_forLoop_any (fun n s' => ∃ i σ' H', Inv X pins σ' H' s' ∧ tn i s'.heap ∧ (∀ b ∈ fp, H' b = none) ∧ W i n σ' H') ?_ m0 ⟨0, σ, H2, I2, st2, fun b hb => (f2 b hb).1, w0⟩
  rintro n s3 ⟨i, σ3, H3, I3, st3, fr3, w3⟩
  rcases turn i n σ3 H3 w3 with ⟨stop, qn⟩ | ⟨go, N, hN, step⟩
  · refine wpAny_passesOwn hp (thn (T.done X rfl rfl rfl hc i pins s3 σ3 H3 X.xe I3 (stat fr3) st3 stop) fun r s4 ⟨hr, I4⟩ => ?_)
    subst hr
    exact wpAny_execs_nil ⟨σ3, H3, I4, qn⟩
  · refine wpAny_passesOwn hp (thn (T.item X rfl rfl rfl hc i pins s3 σ3 H3 X.xe I3 (stat fr3) st3 go) fun r s4 ⟨u, hr, h4⟩ => ?_)
    subst hr
    refine wpAny_passesOwn hp (thn h4 fun _ s5 ⟨x, H5, I5, r5, y5, st5, fr5⟩ => ?_)
    have I5' := I5.pinned (stat fr5) (T.obj _ _ st5)
    refine wpAny_passesOwn hp (thn (hg _ s5 σ3 H5 x u _ I5' r5 (step x H5 y5)) fun _ s6 ⟨σ6, H6, I6, q6⟩ => ?_)
    refine wpAny_passesOwn hp (thn (hb _ s6 σ6 H6 _ I6 q6) fun f s7 q7 => ?_)
    have again : ∀ {σ7 : St} {H7 : Hp}, Inv X (pins ++ pinsAt fp s5.heap) σ7 H7 s7 → N σ7 H7 → ∃ m, m < n ∧ ∃ i σ' H', Inv X pins σ' H' s7 ∧ tn i s7.heap ∧ (∀ b ∈ fp, H' b = none) ∧ W i m σ' H' := fun {σ7 H7} I7 n7 => by
      obtain ⟨m', hm, w7⟩ := hN σ7 H7 n7
      refine ⟨m', hm, i + 1, σ7, H7, I7.unpinned, T.keep _ _ _ st5 fun b hb o e => (I7.pin (b, o) (List.mem_append_right _ (List.mem_append_right _ (mem_pinsAt hb e)))).1, fun b hb => ?_, w7⟩
      obtain ⟨o, e, d⟩ := T.obj _ _ st5 b hb
      exact (I7.pin (b, o) (List.mem_append_right _ (List.mem_append_right _ (mem_pinsAt hb e)))).2.1
    cases f with
    | next => obtain ⟨σ7, H7, I7, n7⟩ := q7; exact again I7 n7
    | cont => obtain ⟨σ7, H7, I7, n7⟩ := q7; exact again I7 n7
    | brk => obtain ⟨σ7, H7, I7, q7⟩ := q7; exact ⟨σ7, H7, I7.unpinned, q7⟩
    | ret v => obtain ⟨x7, σ7, H7, I7, r7, q7⟩ := q7; exact ⟨x7, σ7, H7, I7.unpinned, r7, q7⟩
end

/-! ### the forms one uses -/
/-- over a list that the body leaves as it is -/
theorem for_list {K : PySem.W.Frag} {a : Addr} {xs : List V} {g : TG} {tb : TS} {D : Ends} {σ : St} {H : Hp} (Pv : Nat → St → Hp → Prop) (h0 : Pv 0 σ H) (hl : ∀ i σ H, i ≤ xs.length → Pv i σ H → SqL K H a xs)
    (hs : ∀ i x σ H, xs[i]? = some x → Pv i σ H → g x σ H fun σ2 H2 => tb { D with nx := Pv (i + 1), ct := Pv (i + 1), bk := D.nx } σ2 H2) (hd : ∀ σ H, Pv xs.length σ H → D.nx σ H) :
    ∃ W : Nat → Nat → St → Hp → Prop, (∃ m, W 0 m σ H) ∧ ∀ i m σ H, W i m σ H →
      ((Itl K a).stop i H ∧ D.nx σ H) ∨ ((Itl K a).go i H ∧ ∃ N : St → Hp → Prop, (∀ σ' H', N σ' H' → ∃ m', m' < m ∧ W (i + 1) m' σ' H') ∧ ∀ x H', (Itl K a).yld i H x H' → g x σ H' fun σ2 H2 => tb { D with nx := N, ct := N, bk := D.nx } σ2 H2) := by
  refine ⟨fun i m σ H => m = xs.length - i ∧ i ≤ xs.length ∧ Pv i σ H, ⟨xs.length, by simp, Nat.zero_le _, h0⟩, ?_⟩
  rintro i m σ H ⟨rfl, hi, p⟩
  have q := hl i σ H hi p
  by_cases hlt : i < xs.length
  · refine .inr ⟨⟨xs, xs[i], q, by simp [hlt]⟩, Pv (i + 1), fun σ' H' p' => ⟨xs.length - (i + 1), by omega, rfl, hlt, p'⟩, fun x H' y => ?_⟩
    obtain ⟨e, y⟩ := y
    subst e
    exact hs i x σ _ (y xs q) p
  · have e : i = xs.length := by omega
    subst e
    exact .inl ⟨⟨xs, q, Nat.le_refl _⟩, hd σ H p⟩
theorem for_range {lo : Int} {n : Nat} {g : TG} {tb : TS} {D : Ends} {σ : St} {H : Hp} (Pv : Nat → St → Hp → Prop) (h0 : Pv 0 σ H)
    (hs : ∀ i σ H, i < n → Pv i σ H → g (.int (lo + i)) σ H fun σ2 H2 => tb { D with nx := Pv (i + 1), ct := Pv (i + 1), bk := D.nx } σ2 H2) (hd : ∀ σ H, Pv n σ H → D.nx σ H) :
    ∃ W : Nat → Nat → St → Hp → Prop, (∃ m, W 0 m σ H) ∧ ∀ i m σ H, W i m σ H →
      ((Itr lo n).stop i H ∧ D.nx σ H) ∨ ((Itr lo n).go i H ∧ ∃ N : St → Hp → Prop, (∀ σ' H', N σ' H' → ∃ m', m' < m ∧ W (i + 1) m' σ' H') ∧ ∀ x H', (Itr lo n).yld i H x H' → g x σ H' fun σ2 H2 => tb { D with nx := N, ct := N, bk := D.nx } σ2 H2) := by
  refine ⟨fun i m σ H => m = n - i ∧ i ≤ n ∧ Pv i σ H, ⟨n, by simp, Nat.zero_le _, h0⟩, ?_⟩
  rintro i m σ H ⟨rfl, hi, p⟩
  by_cases hlt : i < n
  · refine .inr ⟨hlt, Pv (i + 1), fun σ' H' p' => ⟨n - (i + 1), by omega, rfl, hlt, p'⟩, fun x H' y => ?_⟩
    obtain ⟨e, y⟩ := y
    subst e y
    exact hs i σ _ hlt p
  · have e : i = n := by omega
    subst e
    exact .inl ⟨Nat.le_refl _, hd σ H p⟩
end L2

namespace L2
open PySem PySem.Spec PyProof.Rows

abbrev R2 := V → V → Hp → VK → Prop
/-- a two-place operation on values: f is binaryOp op, inplaceOp op or compareOp op -/
def OpR (X : Cx) (f : Value → Value → Sem Value) (r : R2) : Prop :=
  ∀ (pins : List (Addr × Obj)) (s : Shared) (σ : St) (H : Hp) (x y : V) (v u : Value) (Q : VK), Inv X pins σ H s → RelV x v → RelV y u → r x y H Q →
    wpAny (model X.prog X.w) X.A (f v u) (EP X pins σ Q) X.xe s
/-- a one-place operation -/
def UnR (X : Cx) (f : Value → Sem Value) (r : V → Hp → VK → Prop) : Prop :=
  ∀ (pins : List (Addr × Obj)) (s : Shared) (σ : St) (H : Hp) (x : V) (v : Value) (Q : VK), Inv X pins σ H s → RelV x v → r x H Q →
    wpAny (model X.prog X.w) X.A (f v) (EP X pins σ Q) X.xe s
/-- a call of a value that is known (a builtin, a type) with values -/
def CallR (X : Cx) (f : Value) (r : List V → Hp → VK → Prop) : Prop :=
  ∀ (pins : List (Addr × Obj)) (s : Shared) (σ : St) (H : Hp) (xs : List V) (us : List Value) (Q : VK), Inv X pins σ H s → Vals xs us → r xs H Q →
    wpAny (model X.prog X.w) X.A (call f us) (EP X pins σ Q) X.xe s
/-- a value's truth -/
def TruR (X : Cx) (r : V → Hp → (Bool → Hp → Prop) → Prop) : Prop :=
  ∀ (pins : List (Addr × Obj)) (s : Shared) (σ : St) (H : Hp) (x : V) (v : Value) (Q : Bool → Hp → Prop), Inv X pins σ H s → RelV x v → r x H Q →
    wpAny (model X.prog X.w) X.A (truthy v) (TP X pins σ Q) X.xe s

def tOp (r : R2) (ta tb : TE) : TE := fun σ H Q => ta σ H fun x H1 => tb σ H1 fun y H2 => r x y H2 Q
def tUn (r : V → Hp → VK → Prop) (ta : TE) : TE := fun σ H Q => ta σ H fun x H1 => r x H1 Q
/-- ints in, under C, and a value out -/
def rI (C : Int → Int → Prop) (g : Int → Int → V) : R2 := fun x y H Q => ∃ i j, x = .int i ∧ y = .int j ∧ C i j ∧ Q (g i j) H
def rI0 (g : Int → Int → V) : R2 := fun x y H Q => ∃ i j, x = .int i ∧ y = .int j ∧ Q (g i j) H
def rU (g : Int → V) : V → Hp → VK → Prop := fun x H Q => ∃ i, x = .int i ∧ Q (g i) H

section
variable {X : Cx} {a b c : Expr} {ta tb tc : TE} {pos : Pos}

theorem binT (ha : PE X a ta) (hb : PE X b tb) {pins : List (Addr × Obj)} {s : Shared} {σ : St} {H : Hp} {R : V → V → Hp → Prop} (I : Inv X pins σ H s)
    (h : ta σ H fun x H1 => tb σ H1 fun y H2 => R x y H2) {Q : Value → Shared → Prop} {f : Value → Value → Sem Value}
    (hf : ∀ v u s2 x y H2, Inv X pins σ H2 s2 → RelV x v → RelV y u → R x y H2 → wpAny (model X.prog X.w) X.A (f v u) Q X.xe s2) :
    wpAny (model X.prog X.w) X.A (eval a X.env) (fun v s₁ => wpAny (model X.prog X.w) X.A (eval b X.env) (fun u s₂ => wpAny (model X.prog X.w) X.A (f v u) Q X.xe s₂) X.xe s₁) X.xe s := by
  refine thn (ha pins s σ H _ I h) fun v s1 ⟨x, H1, I1, r1, q1⟩ => ?_
  refine thn (hb pins s1 σ H1 _ I1 q1) fun u s2 ⟨y, H2, I2, r2, q2⟩ => ?_
  exact hf v u s2 x y H2 I2 r1 r2 q2

theorem pe_op {op : Operator} {r : R2} (ho : OpR X (binaryOp op) r) (ha : PE X a ta) (hb : PE X b tb) : PE X (.BinOp a op b pos) (tOp r ta tb) := by
  intro pins s σ H Q I h
  exact wpAny_BinOp (binT ha hb I h fun v u s2 x y H2 I2 rx ry q => ho pins s2 σ H2 x y v u Q I2 rx ry q)
theorem pe_un {op : UnaryOp} {r : V → Hp → VK → Prop} (ho : UnR X (unaryOp op) r) (ha : PE X a ta) : PE X (.UnaryOp op a pos) (tUn r ta) := by
  intro pins s σ H Q I h
  exact UnaryOp_ (thn (ha pins s σ H _ I h) fun v s1 ⟨x, H1, I1, r1, q1⟩ => ho pins s1 σ H1 x v Q I1 r1 q1)
/-! ### ints -/
theorem opI {f : Value → Value → Sem Value} {C : Int → Int → Prop} {g : Int → Int → Int}
    (rule : ∀ (i j : Int) (t u : Tok) (s : Shared) (Q : Value → Shared → Prop) (E : Value → Shared → Prop), C i j → Q (.int (g i j) s.toks) { s with toks := s.toks + 1 } → wpAny (model X.prog X.w) X.A (f (.int i t) (.int j u)) Q E s) :
    OpR X f (rI C fun i j => .int (g i j)) := by
  intro pins s σ H x y v u Q I rx ry h
  obtain ⟨i, j, rfl, rfl, hc, q⟩ := h
  obtain ⟨t, rfl⟩ := rx
  obtain ⟨t', rfl⟩ := ry
  exact rule i j t t' s _ _ hc ⟨.int (g i j), H, I.tok _, ⟨_, rfl⟩, q⟩
theorem opI0 {f : Value → Value → Sem Value} {g : Int → Int → Int}
    (rule : ∀ (i j : Int) (t u : Tok) (s : Shared) (Q : Value → Shared → Prop) (E : Value → Shared → Prop), Q (.int (g i j) s.toks) { s with toks := s.toks + 1 } → wpAny (model X.prog X.w) X.A (f (.int i t) (.int j u)) Q E s) :
    OpR X f (rI0 fun i j => .int (g i j)) := by
  intro pins s σ H x y v u Q I rx ry h
  obtain ⟨i, j, rfl, rfl, q⟩ := h
  obtain ⟨t, rfl⟩ := rx
  obtain ⟨t', rfl⟩ := ry
  exact rule i j t t' s _ _ ⟨.int (g i j), H, I.tok _, ⟨_, rfl⟩, q⟩
theorem opB0 {f : Value → Value → Sem Value} {g : Int → Int → Bool}
    (rule : ∀ (i j : Int) (t u : Tok) (s : Shared) (Q : Value → Shared → Prop) (E : Value → Shared → Prop), Q (.bool (g i j)) s → wpAny (model X.prog X.w) X.A (f (.int i t) (.int j u)) Q E s) :
    OpR X f (rI0 fun i j => .bl (g i j)) := by
  intro pins s σ H x y v u Q I rx ry h
  obtain ⟨i, j, rfl, rfl, q⟩ := h
  obtain ⟨t, rfl⟩ := rx
  obtain ⟨t', rfl⟩ := ry
  exact rule i j t t' s _ _ ⟨.bl (g i j), H, I, rfl, q⟩

def CDiv (i j : Int) : Prop := 0 < j ∧ j < 1073741824
def CDivN (i j : Int) : Prop := j ≠ 0 ∧ j.natAbs < 1073741824
def CPow (i j : Int) : Prop := 0 ≤ j ∧ j ≤ 1000000 ∧ i.natAbs < 2 ^ 64
def CMul (i j : Int) : Prop := (-(2 ^ 64) < i ∧ i < 2 ^ 64) ∨ (-(2 ^ 64) < j ∧ j < 2 ^ 64)
theorem CMul.ok {i j : Int} (h : CMul i j) : IntMulOk i j := by
  rcases h with ⟨h1, h2⟩ | ⟨h1, h2⟩
  · exact .of_left (intBits_le_64 h1 h2)
  · exact .of_right (intBits_le_64 h1 h2)
theorem op_add : OpR X (binaryOp .Add) (rI0 fun i j => .int (i + j)) := opI0 fun _ _ _ _ _ _ _ q => add_int q
theorem op_sub : OpR X (binaryOp .Sub) (rI0 fun i j => .int (i - j)) := opI0 fun _ _ _ _ _ _ _ q => sub_int q
theorem op_mul : OpR X (binaryOp .Mult) (rI CMul fun i j => .int (i * j)) := opI fun _ _ _ _ _ _ _ hc q => mul_int q hc.ok
/-- // by a positive divisor -/
theorem op_fdiv : OpR X (binaryOp .FloorDiv) (rI CDiv fun i j => .int (i / j)) := opI fun i j _ _ _ _ _ hc q => by
  have h1 : (0 : Int) < j := hc.1
  have h2 : j < 1073741824 := hc.2
  exact floordiv_int (by omega) (by rw [Int.fdiv_eq_ediv_of_nonneg i (by omega)]; exact q) (.inl (PyProof.noPylong_small (by omega)))
/-- % by a positive divisor of any size -/
theorem op_mod : OpR X (binaryOp .Mod) (rI (fun _ j => 0 < j) fun i j => .int (i % j)) := opI fun i j _ _ _ _ _ hc q => by
  have h1 : (0 : Int) < j := hc
  exact mod_int' (by omega) (by rw [Int.fmod_eq_emod_of_nonneg i (by omega)]; exact q)
theorem op_pow : OpR X (binaryOp .Pow) (rI CPow fun i j => .int (i ^ j.toNat)) := opI fun _ _ _ _ _ _ _ hc q => pow_int_small hc.1 hc.2.1 hc.2.2 q
theorem unI {f : Value → Sem Value} {g : Int → Int}
    (rule : ∀ (i : Int) (t : Tok) (s : Shared) (Q : Value → Shared → Prop) (E : Value → Shared → Prop), Q (.int (g i) s.toks) { s with toks := s.toks + 1 } → wpAny (model X.prog X.w) X.A (f (.int i t)) Q E s) :
    UnR X f (rU fun i => .int (g i)) := by
  intro pins s σ H x v Q I rx h
  obtain ⟨i, rfl, q⟩ := h
  obtain ⟨t, rfl⟩ := rx
  exact rule i t s _ _ ⟨.int (g i), H, I.tok _, ⟨_, rfl⟩, q⟩
theorem un_neg : UnR X (unaryOp .USub) (rU fun i => .int (-i)) := unI fun _ _ _ _ _ q => neg_int q
/-! ### bools among ints: n += (a < b) -/
end

/-! ### comparisons -/
/-- the scalars that == tells apart as data does -/
def scal : V → V → Bool
  | .non, .non => true | .non, .int _ => true | .int _, .non => true | .non, .bl _ => true | .bl _, .non => true | .non, .str _ => true | .str _, .non => true
  | .int _, .int _ => true | .bl _, .bl _ => true | .str _, .str _ => true | .byt _, .byt _ => true
  | .int _, .str _ => true | .str _, .int _ => true | .bl _, .str _ => true | .str _, .bl _ => true
  | _, _ => false
def rEq : R2 := fun x y H Q => scal x y = true ∧ Q (.bl (decide (x = y))) H
def rNe : R2 := fun x y H Q => scal x y = true ∧ Q (.bl (!decide (x = y))) H

theorem dec_int {i j : Int} : decide (V.int i = V.int j) = (i == j) := by
  rw [Bool.eq_iff_iff]
  simp
theorem dec_bl {i j : Bool} : decide (V.bl i = V.bl j) = (i == j) := by
  rw [Bool.eq_iff_iff]
  simp
theorem dec_str {i j : Str} : decide (V.str i = V.str j) = (i == j) := by
  rw [Bool.eq_iff_iff]
  simp
theorem dec_byt {i j : Array UInt8} : decide (V.byt i = V.byt j) = (i.toList == j.toList) := by
  rw [Bool.eq_iff_iff]
  cases i
  cases j
  simp

section
variable {X : Cx} {a b c : Expr} {ta tb tc : TE} {pos : Pos}
theorem fin_bl {pins : List (Addr × Obj)} {σ : St} {H : Hp} {s : Shared} {Q : VK} {k k' : Bool} (I : Inv X pins σ H s) (q : Q (.bl k) H) (e : k = k') : EP X pins σ Q (.bool k') s := by
  subst e
  exact ⟨.bl k, H, I, rfl, q⟩
theorem op_eq : OpR X (compareOp .Eq) rEq := by
  intro pins s σ H x y v u Q I rx ry h
  obtain ⟨hs, q⟩ := h
  cases x with
  | non =>
    cases rx
    cases y with
    | non => cases ry; exact PySem.EqNone.eq_none_none (fin_bl I q (by simp))
    | bl j => cases ry; exact PySem.EqNone.eq_none_bool (fin_bl I q (by simp))
    | int j => obtain ⟨t', rfl⟩ := ry; exact PySem.EqNone.eq_none_int (fin_bl I q (by simp))
    | str j => obtain ⟨t', rfl⟩ := ry; exact PySem.EqNone.eq_none_str (fin_bl I q (by simp))
    | _ => exact absurd (show false = true from hs) Bool.false_ne_true
  | bl i =>
    cases rx
    cases y with
    | non => cases ry; exact PySem.EqNone.eq_bool_none (fin_bl I q (by simp))
    | bl j => cases ry; exact eq_bool (fin_bl I q dec_bl)
    | str j => obtain ⟨t', rfl⟩ := ry; exact PySem.EqMixed.eq_bool_str (fin_bl I q (by simp))
    | _ => exact absurd (show false = true from hs) Bool.false_ne_true
  | int i =>
    obtain ⟨t, rfl⟩ := rx
    cases y with
    | non => cases ry; exact PySem.EqNone.eq_int_none (fin_bl I q (by simp))
    | int j => obtain ⟨t', rfl⟩ := ry; exact eq_int (fin_bl I q dec_int)
    | str j => obtain ⟨t', rfl⟩ := ry; exact PySem.EqMixed.eq_int_str (fin_bl I q (by simp))
    | _ => exact absurd (show false = true from hs) Bool.false_ne_true
  | str i =>
    obtain ⟨t, rfl⟩ := rx
    cases y with
    | non => cases ry; exact PySem.EqNone.eq_str_none (fin_bl I q (by simp))
    | bl j => cases ry; exact PySem.EqMixed.eq_str_bool (fin_bl I q (by simp))
    | int j => obtain ⟨t', rfl⟩ := ry; exact PySem.EqMixed.eq_str_int (fin_bl I q (by simp))
    | str j => obtain ⟨t', rfl⟩ := ry; exact eq_str (fin_bl I q dec_str)
    | _ => exact absurd (show false = true from hs) Bool.false_ne_true
  | byt i =>
    obtain ⟨t, rfl⟩ := rx
    cases y with
    | byt j => obtain ⟨t', rfl⟩ := ry; exact PySem.W.eq_bytes (fin_bl I q dec_byt)
    | _ => exact absurd (show false = true from hs) Bool.false_ne_true
  | _ => cases y <;> exact absurd (show false = true from hs) Bool.false_ne_true
theorem op_ne : OpR X (compareOp .NotEq) rNe := by
  intro pins s σ H x y v u Q I rx ry h
  obtain ⟨hs, q⟩ := h
  cases x with
  | non =>
    cases rx
    cases y with
    | non => cases ry; exact PySem.EqNone.ne_none_none (fin_bl I q (by simp))
    | bl j => cases ry; exact PySem.EqNone.ne_none_bool (fin_bl I q (by simp))
    | int j => obtain ⟨t', rfl⟩ := ry; exact PySem.EqNone.ne_none_int (fin_bl I q (by simp))
    | str j => obtain ⟨t', rfl⟩ := ry; exact PySem.EqNone.ne_none_str (fin_bl I q (by simp))
    | _ => exact absurd (show false = true from hs) Bool.false_ne_true
  | bl i =>
    cases rx
    cases y with
    | non => cases ry; exact PySem.EqNone.ne_bool_none (fin_bl I q (by simp))
    | bl j => cases ry; exact ne_bool (fin_bl I q (congrArg not dec_bl))
    | str j => obtain ⟨t', rfl⟩ := ry; exact PySem.EqMixed.ne_bool_str (fin_bl I q (by simp))
    | _ => exact absurd (show false = true from hs) Bool.false_ne_true
  | int i =>
    obtain ⟨t, rfl⟩ := rx
    cases y with
    | non => cases ry; exact PySem.EqNone.ne_int_none (fin_bl I q (by simp))
    | int j => obtain ⟨t', rfl⟩ := ry; exact ne_int (fin_bl I q (congrArg not dec_int))
    | str j => obtain ⟨t', rfl⟩ := ry; exact PySem.EqMixed.ne_int_str (fin_bl I q (by simp))
    | _ => exact absurd (show false = true from hs) Bool.false_ne_true
  | str i =>
    obtain ⟨t, rfl⟩ := rx
    cases y with
    | non => cases ry; exact PySem.EqNone.ne_str_none (fin_bl I q (by simp))
    | bl j => cases ry; exact PySem.EqMixed.ne_str_bool (fin_bl I q (by simp))
    | int j => obtain ⟨t', rfl⟩ := ry; exact PySem.EqMixed.ne_str_int (fin_bl I q (by simp))
    | str j => obtain ⟨t', rfl⟩ := ry; exact ne_str (fin_bl I q (congrArg not dec_str))
    | _ => exact absurd (show false = true from hs) Bool.false_ne_true
  | byt i =>
    obtain ⟨t, rfl⟩ := rx
    cases y with
    | byt j => obtain ⟨t', rfl⟩ := ry; exact PySem.W.ne_bytes (fin_bl I q (congrArg not dec_byt))
    | _ => exact absurd (show false = true from hs) Bool.false_ne_true
  | _ => cases y <;> exact absurd (show false = true from hs) Bool.false_ne_true

theorem op_lt : OpR X (compareOp .Lt) (rI0 fun i j => .bl (decide (i < j))) := opB0 fun _ _ _ _ _ _ _ q => lt_int q
theorem op_le : OpR X (compareOp .LtE) (rI0 fun i j => .bl (decide (i ≤ j))) := opB0 fun _ _ _ _ _ _ _ q => le_int q
theorem op_gt : OpR X (compareOp .Gt) (rI0 fun i j => .bl (decide (j < i))) := opB0 fun _ _ _ _ _ _ _ q => gt_int q
theorem op_ge : OpR X (compareOp .GtE) (rI0 fun i j => .bl (decide (j ≤ i))) := opB0 fun _ _ _ _ _ _ _ q => ge_int q
/-- is None, is not None: the right side a value none -/
theorem op_isN : OpR X (compareOp .Is) (fun x y H Q => y = .non ∧ Q (.bl (decide (x = .non))) H) := by
  intro pins s σ H x y v u Q I rx ry h
  obtain ⟨rfl, q⟩ := h
  cases ry
  refine is_none_gen (fin_bl I q ?_)
  cases x <;> first
    | (cases rx; rfl)
    | (obtain ⟨t, rfl⟩ := rx; rfl)
/-- is, is not of two objects that are tracked lists or instances -/
def isObj : HO → Bool
  | .lst _ => true
  | .ins _ _ _ => true
  | _ => false
theorem nomark (b : Expr) {op : CmpOp} (h : op ≠ .In := by decide) (h2 : op ≠ .NotIn := by decide) : behindInMarks op b = false := by
  have e1 : (op == CmpOp.In) = false := by cases op <;> first | rfl | exact absurd rfl h
  have e2 : (op == CmpOp.NotIn) = false := by cases op <;> first | rfl | exact absurd rfl h2
  cases b <;> simp [behindInMarks, e1, e2]
/-- a comparison as a value; hm: nomark b, or (for in, not in) by with_unfolding_all rfl -/
theorem pe_cmpR {op : CmpOp} {r : R2} (ho : OpR X (compareOp op) r) (ha : PE X a ta) (hb : PE X b tb) (hm : behindInMarks op b = false) : PE X (.Compare a [op] [b] pos) (tOp r ta tb) := by
  intro pins s σ H Q I h
  exact wpAny_Compare1 (binT ha hb I h fun v u s2 x y H2 I2 rx ry q => ho pins s2 σ H2 x y v u Q I2 rx ry q) hm
/-- a reading of a value as a test -/
def tTest (t : TE) : TT := fun σ H Q => t σ H fun x H' => ∃ k, x = .bl k ∧ Q k H'
theorem pt_cmpR {op : CmpOp} {r : R2} (ho : OpR X (compareOp op) r) (ha : PE X a ta) (hb : PE X b tb) (hm : behindInMarks op b = false) : PT X (.Compare a [op] [b] pos) (tTest (tOp r ta tb)) := by
  intro pins s σ H Q I h
  refine wpAny_isTrue_Compare1 (thn (ha pins s σ H _ I h) fun v s1 ⟨x, H1, I1, r1, q1⟩ => thn (hb pins s1 σ H1 _ I1 q1) fun u s2 ⟨y, H2, I2, r2, q2⟩ =>
    thn (ho pins s2 σ H2 x y v u _ I2 r1 r2 q2) fun c s3 ⟨z, H3, I3, r3, k, e, q3⟩ => ?_) hm
  subst e
  cases r3
  exact wpAny_truthy_bool ⟨H3, I3, q3⟩
/-- a op1 b op2 c -/
def tChain (r r' : R2) (ta tb tc : TE) : TE := fun σ H Q => ta σ H fun x H1 => tb σ H1 fun y H2 => r x y H2 fun z H3 => ∃ k, z = .bl k ∧
  (if k = true then tc σ H3 fun w' H4 => r' y w' H4 Q else Q (.bl false) H3)
theorem pe_chain {op op' : CmpOp} {r r' : R2} (ho : OpR X (compareOp op) r) (ho' : OpR X (compareOp op') r') (ha : PE X a ta) (hb : PE X b tb) (hc : PE X c tc)
    (hm : lastMarks [op, op'] [b, c] = false := by with_unfolding_all rfl) : PE X (.Compare a [op, op'] [b, c] pos) (tChain r r' ta tb tc) := by
  intro pins s σ H Q I h
  refine Compare_chain (thn (ha pins s σ H _ I h) fun v s1 ⟨x, H1, I1, r1, q1⟩ => chain_link (thn (hb pins s1 σ H1 _ I1 q1) fun u s2 ⟨y, H2, I2, r2, q2⟩ =>
    thn (ho pins s2 σ H2 x y v u _ I2 r1 r2 q2) fun d s3 ⟨z, H3, I3, r3, k, e, q3⟩ => ?_)) hm
  subst e
  cases r3
  refine wpAny_truthy_bool ?_
  cases k with
  | false => exact ite_ff ⟨.bl false, H3, I3, rfl, q3⟩
  | true => exact ite_tt (chain_last (thn (hc pins s3 σ H3 _ I3 q3) fun w' s4 ⟨z', H4, I4, r4, q4⟩ => ho' pins s4 σ H4 y z' u w' Q I4 r2 r4 q4))
theorem pt_chain {op op' : CmpOp} {r r' : R2} (ho : OpR X (compareOp op) r) (ho' : OpR X (compareOp op') r') (ha : PE X a ta) (hb : PE X b tb) (hc : PE X c tc)
    (hm : lastMarks [op, op'] [b, c] = false := by with_unfolding_all rfl) : PT X (.Compare a [op, op'] [b, c] pos) (tTest (tChain r r' ta tb tc)) := by
  intro pins s σ H Q I h
  refine isTrue_chain (thn (ha pins s σ H _ I h) fun v s1 ⟨x, H1, I1, r1, q1⟩ => test_link (thn (hb pins s1 σ H1 _ I1 q1) fun u s2 ⟨y, H2, I2, r2, q2⟩ =>
    thn (ho pins s2 σ H2 x y v u _ I2 r1 r2 q2) fun d s3 ⟨z, H3, I3, r3, k, e, q3⟩ => ?_)) hm
  subst e
  cases r3
  refine wpAny_truthy_bool ?_
  cases k with
  | false =>
    obtain ⟨k', e', q'⟩ := q3
    cases e'
    exact ite_ff ⟨H3, I3, q'⟩
  | true =>
    refine ite_tt (test_last (thn (hc pins s3 σ H3 _ I3 q3) fun w' s4 ⟨z', H4, I4, r4, q4⟩ => thn (ho' pins s4 σ H4 y z' u w' _ I4 r2 r4 q4) fun d' s5 ⟨z2, H5, I5, r5, k2, e2, q5⟩ => ?_))
    subst e2
    cases r5
    exact wpAny_truthy_bool ⟨H5, I5, q5⟩

/-! ### truth -/
/-- a value's truth by the abstract heap -/
def TruV (K : PySem.W.Frag) (x : V) (H : Hp) (k : Bool) : Prop :=
  match x with
  | .non => k = false
  | .bl b => k = b
  | .int i => k = (i != 0)
  | .str y => y.length ≤ sizeLine ∧ k = ((y.length : Int) != 0)
  | .byt y => y.size ≤ sizeLine ∧ k = ((y.size : Int) != 0)
  | .ref p => (∃ xs, SqL K H p xs ∧ k = !xs.isEmpty) ∨ (∃ xs, SqT K H p xs ∧ k = !xs.isEmpty) ∨ ∃ kvs, H p = some (.dK kvs) ∧ k = !kvs.isEmpty
  | _ => False
theorem isEmpty_kv {κ : Type} {kvs : List (κ × V)} {vs : List (κ × Value)} (r : KV kvs vs) : (!vs.isEmpty) = !kvs.isEmpty := by
  cases r <;> rfl
theorem isEmpty_of {xs : List V} {its : List Value} (r : Vals xs its) : (!its.toArray.isEmpty) = !xs.isEmpty := by
  cases r <;> simp
theorem line63 : (sizeLine : Nat) < 2 ^ 63 := by rw [sizeLine_eq]; decide
theorem tru_ok : TruR X (fun x H Q => ∃ k, TruV X.K x H k ∧ Q k H) := by
  intro pins s σ H x v Q I rx h
  obtain ⟨k, e, q⟩ := h
  have hl := line63
  have hs : sizeLine = 16777216 := sizeLine_eq
  cases x with
  | non =>
    cases rx
    have e' : k = false := e
    subst e'
    exact truthy_none ⟨H, I, q⟩
  | bl b =>
    cases rx
    have e' : k = b := e
    subst e'
    exact wpAny_truthy_bool ⟨H, I, q⟩
  | int i =>
    obtain ⟨t, rfl⟩ := rx
    have e' : k = (i != 0) := e
    subst e'
    exact PySem.P.truthy_int ⟨H, I, q⟩
  | str y =>
    obtain ⟨t, rfl⟩ := rx
    obtain ⟨hy, e'⟩ : y.length ≤ sizeLine ∧ k = ((y.length : Int) != 0) := e
    subst e'
    exact PySem.P.truthy_str (by omega) ⟨H, I.tok _, q⟩
  | byt y =>
    obtain ⟨t, rfl⟩ := rx
    obtain ⟨hy, e'⟩ : y.size ≤ sizeLine ∧ k = ((y.size : Int) != 0) := e
    subst e'
    exact PySem.W.truthy_bytes (by omega) ⟨H, I.tok _, q⟩
  | ref p =>
    cases rx
    have e' : (∃ xs, SqL X.K H p xs ∧ k = !xs.isEmpty) ∨ (∃ xs, SqT X.K H p xs ∧ k = !xs.isEmpty) ∨ ∃ kvs, H p = some (.dK kvs) ∧ k = !kvs.isEmpty := e
    rcases e' with ⟨xs, hx, e'⟩ | ⟨xs, hx, e'⟩ | ⟨kvs, hx, e'⟩
    · subst e'
      obtain ⟨its, r, pl, hz⟩ := I.list hx
      have hlen := r.length
      exact wpAny_truthy_list pl.isList (by simp only [List.size_toArray]; omega) ⟨H, I.tok _, by rw [isEmpty_of r]; exact q⟩
    · subst e'
      obtain ⟨its, r, pl, hz⟩ := I.tuple hx
      have hlen := r.length
      exact truthy_tuple pl (by simp only [List.size_toArray]; omega) ⟨H, I.tok _, by rw [isEmpty_of r]; exact q⟩
    · subst e'
      obtain ⟨hz, hS, vs, r, m⟩ : kvs.length ≤ sizeLine ∧ (p == sysModules) = false ∧ ∃ vs, KV kvs vs ∧ s.heap.DictOf (mixKind X.prog X.w) p vs := I.hok p _ hx
      have hlen : kvs.length = vs.length := Paired.length r
      exact wpAny_truthy_dict hS m (by omega) ⟨H, I.tok _, by rw [isEmpty_kv r]; exact q⟩
  | _ => exact (show False from e).elim
/-- any expression whose test is its value's truth (a name, a call, a subscript, a field ..: he by fun _ => rfl) -/
theorem pt_truth (ha : PE X a ta) (he : ∀ whole, isTrue a X.env whole = (do let v ← whole; standAt a.pos; holding [v] (truthy v))) :
    PT X a (fun σ H Q => ta σ H fun x H' => ∃ k, TruV X.K x H' k ∧ Q k H') := by
  intro pins s σ H Q I h
  exact isTrue_plain (thn (ha pins s σ H _ I h) fun v s1 ⟨x, H1, I1, r1, q1⟩ => tru_ok pins s1 σ H1 x v Q I1 r1 q1) (he _)

/-! ### strs and bytes -/
theorem op_add_str : OpR X (binaryOp .Add) (fun x y H Q => ∃ i j, x = .str i ∧ y = .str j ∧ i.length + j.length ≤ sizeLine ∧ Q (.str (i ++ j)) H) := by
  intro pins s σ H x y v u Q I rx ry h
  obtain ⟨i, j, rfl, rfl, hz, q⟩ := h
  obtain ⟨t, rfl⟩ := rx
  obtain ⟨t', rfl⟩ := ry
  exact add_str (fun t' tk => ⟨.str (i ++ j), H, I.tok _, ⟨_, rfl⟩, q⟩) hz
def PlainIxT (b : Expr) : Prop := ∀ o i, subscripted b false o i = operate [o, i] (getItem o i)
/-! ### scalar builtins, by CallR -/
theorem vals1 {x : V} {us : List Value} (r : Vals [x] us) : ∃ u, us = [u] ∧ RelV x u := by
  cases r with
  | cons r1 r2 => cases r2; exact ⟨_, rfl, r1⟩
theorem vals2 {x y : V} {us : List Value} (r : Vals [x, y] us) : ∃ u w', us = [u, w'] ∧ RelV x u ∧ RelV y w' := by
  cases r with
  | cons r1 r2 =>
    cases r2 with
    | cons r3 r4 => cases r4; exact ⟨_, _, rfl, r1, r3⟩
theorem call_max2 (hc : X.calm = true) : CallR X (.builtin "max") (fun xs H Q => ∃ i j, xs = [.int i, .int j] ∧ Q (.int (if j > i then j else i)) H) := by
  intro pins s σ H xs us Q I r h
  obtain ⟨i, j, rfl, q⟩ := h
  obtain ⟨u, w', rfl, ⟨t, rfl⟩, ⟨t', rfl⟩⟩ := vals2 r
  refine max_two_ints (I.ok.hd hc) fun h' tk k => ⟨_, H, I.kept k, ?_, q⟩
  by_cases hj : j > i
  · rw [if_pos hj, if_pos hj]; exact ⟨_, rfl⟩
  · rw [if_neg hj, if_neg hj]; exact ⟨_, rfl⟩
theorem call_min2 (hc : X.calm = true) : CallR X (.builtin "min") (fun xs H Q => ∃ i j, xs = [.int i, .int j] ∧ Q (.int (if j < i then j else i)) H) := by
  intro pins s σ H xs us Q I r h
  obtain ⟨i, j, rfl, q⟩ := h
  obtain ⟨u, w', rfl, ⟨t, rfl⟩, ⟨t', rfl⟩⟩ := vals2 r
  refine min_two_ints (I.ok.hd hc) fun h' tk k => ⟨_, H, I.kept k, ?_, q⟩
  by_cases hj : j < i
  · rw [if_pos hj, if_pos hj]; exact ⟨_, rfl⟩
  · rw [if_neg hj, if_neg hj]; exact ⟨_, rfl⟩
theorem call_int1 : CallR X (.type "int") (fun xs H Q => (∃ i, xs = [.int i] ∧ Q (.int i) H) ∨ ∃ k, xs = [.bl k] ∧ Q (.int (if k then 1 else 0)) H) := by
  intro pins s σ H xs us Q I r h
  rcases h with ⟨i, rfl, q⟩ | ⟨k, rfl, q⟩
  · obtain ⟨u, rfl, t, rfl⟩ := vals1 r
    exact call_int_int ⟨.int i, H, I, ⟨_, rfl⟩, q⟩
  · obtain ⟨u, rfl, r1⟩ := vals1 r
    cases r1
    exact call_int_bool ⟨.int (if k then 1 else 0), H, I.tok _, ⟨_, rfl⟩, q⟩
theorem call_str_int : CallR X (.type "str") (fun xs H Q => ∃ i, xs = [.int i] ∧ i.natAbs.log2 < 1920 ∧ Q (.str (toString i)) H) := by
  intro pins s σ H xs us Q I r h
  obtain ⟨i, rfl, hz, q⟩ := h
  obtain ⟨u, rfl, t, rfl⟩ := vals1 r
  exact PySem.P.str_of_int hz ⟨.str _, H, I.tok _, ⟨_, rfl⟩, q⟩
/-- len of a str, a bytes, a list, a tuple -/
def LenV (K : PySem.W.Frag) (x : V) (H : Hp) (n : Nat) : Prop :=
  match x with
  | .str y => y.length ≤ sizeLine ∧ n = y.length
  | .byt y => y.size ≤ sizeLine ∧ n = y.size
  | .ref p => (∃ xs, SqL K H p xs ∧ n = xs.length) ∨ ∃ xs, SqT K H p xs ∧ n = xs.length
  | _ => False
end
end L2

namespace L2
open PySem PySem.Spec PyProof.Rows

/-! ### an instance, its attributes a map -/
structure ObjM (h : Heap) (x dx C : Addr) (mA : Str → Option Value) : Prop where
  obj : h.get? x = some (PySem.W.instObj C dx)
  ns : h.Ns1 dx mA
  ne : dx ≠ x

theorem lookIn_ns {h : Heap} {dx : Addr} {mA : Str → Option Value} (n : h.Ns1 dx mA) : ∃ od, h.get? dx = some od ∧ ∀ name, PySem.W.lookIn name od = some (mA name) := by
  obtain ⟨o, es, ep, ho, hd, hk, _, hm⟩ := n
  refine ⟨o, ho, fun name => ?_⟩
  have e := hm name
  unfold nsFind findBy at e
  rw [← Array.find?_toList] at e
  unfold PySem.W.lookIn
  rw [hd]
  dsimp only
  split
  · rename_i y q
    rw [q] at e
    exact congrArg some e
  · rename_i q
    rw [q] at e
    have a : es.toList.any (·.refKey) = false := by
      rw [List.any_eq_false]
      intro y hy
      obtain ⟨z, t, hkey⟩ := hk y (Array.mem_toList_iff.mp hy)
      simp [DictEntry.refKey, hkey]
    have a' : ¬ es.toList.any (·.refKey) = true := by rw [a]; exact Bool.false_ne_true
    rw [if_neg a']
    exact congrArg some e

theorem ObjM.look {h : Heap} {x dx C : Addr} {mA : Str → Option Value} (I : ObjM h x dx C mA) : ∃ od, PySem.W.InstAt h x (PySem.W.instObj C dx) C (some od) ∧ ∀ name, PySem.W.lookIn name od = some (mA name) :=
  let ⟨od, ho, hl⟩ := lookIn_ns I.ns
  ⟨od, ⟨I.obj, rfl, rfl, ho⟩, hl⟩

section
variable {prog : Program} {w : World} {A : Around} {E : Value → Shared → Prop} {s : Shared} {K : PySem.W.Frag} {x dx C f : Addr} {mA : Str → Option Value} {name : Str} {v : Value}

end

/-! ### the attributes as a list of pairs -/
def putF (f : Str) (v : V) : List (Str × V) → List (Str × V)
  | [] => [(f, v)]
  | (g, x) :: r => if g = f then (g, v) :: r else (g, x) :: putF f v r
section
variable {P : Program} {w : World} {H H' : Hp} {h h' : Heap} {a C dx : Addr} {fs fs' : List (Str × V)}
theorem ins_get (hok : HOk P w H h) (e : H a = some (.ins C dx fs)) : ∃ mA, ObjM h a dx C mA ∧ (∀ f, RelO (fs.lookup f) (mA f)) ∧ PySem.Within mA (fs.map (·.1)) ∧ fs.length ≤ 1000 ∧ H dx = some (.own a) := by
  obtain ⟨d, z, ne, ob, mA, n, r, q⟩ := (show ObjOk P w H h a (.ins C dx fs) from hok a _ e)
  exact ⟨mA, ⟨ob, n, ne⟩, r, q, z, d⟩
end

/-! ### what of the text a class must have -/
structure Cls (K : PySem.W.Frag) (C : Addr) : Prop where
  pg : PySem.W.plainGet K C Str.empty = true
  hd : PySem.W.hasDictIn K C = true
  po : PySem.W.plainOver K C = true
  sa : PySem.W.findIn K (.ref C) "__setattr__" = some (some (.builtin "object.__setattr__"))
theorem Cls.get {K : PySem.W.Frag} {C : Addr} (c : Cls K C) (f : Str) : PySem.W.plainGet K C f = true := c.pg
/-- no class of it has the name -/
def NoAttr (K : PySem.W.Frag) (C : Addr) (f : Str) : Prop := PySem.W.findIn K (.ref C) f = some none
/-- a constant of the class -/
structure Con (K : PySem.W.Frag) (C : Addr) (f : Str) (v : V) (u : Value) : Prop where
  at_ : PySem.W.findIn K (.ref C) f = some (some u)
  rel : RelV v u
  get : PySem.W.specialIn K u "__get__" = some none
  cp : PySem.W.copiedNames.contains f = false
/-- a method: a plain def of the class or of one above it -/
structure Meth (K : PySem.W.Frag) (C : Addr) (m : Str) (f : Addr) : Prop where
  at_ : PySem.W.findIn K (.ref C) m = some (some (.ref f))
  fn : PySem.W.isFn K (.ref f) = true
  kp : PySem.W.keepIn K (.ref f) = true

section
variable {X : Cx} {pins : List (Addr × Obj)} {σ : St} {H : Hp} {s : Shared} {a C dx : Addr} {fs : List (Str × V)} {f : Str} {v : V} {A : Around} {E : Value → Shared → Prop}

end

/-! ### readings and rules -/
/-- e.f, an attribute of the instance -/
def tFld (K : PySem.W.Frag) (ta : TE) (f : Str) : TE := fun σ H Q => ta σ H fun x H1 => ∃ a C dx fs v, x = .ref a ∧ H1 a = some (.ins C dx fs) ∧ Cls K C ∧ NoAttr K C f ∧ fs.lookup f = some v ∧ Q v H1
/-- e.f, a constant of the class -/
def tCon (K : PySem.W.Frag) (ta : TE) (f : Str) : TE := fun σ H Q => ta σ H fun x H1 => ∃ a C dx fs v u, x = .ref a ∧ H1 a = some (.ins C dx fs) ∧ Cls K C ∧ Con K C f v u ∧ fs.lookup f = none ∧ Q v H1
/-- e.f = value -/
def sFld (K : PySem.W.Frag) (ta tv : TE) (f : Str) : TS := fun D σ H => tv σ H fun y H1 => ta σ H1 fun x H2 => ∃ a C dx fs, x = .ref a ∧ H2 a = some (.ins C dx fs) ∧ Cls K C ∧ NoAttr K C f ∧ fs.length < 1000 ∧
  D.nx σ (upd H2 a (.ins C dx (putF f y fs)))
/-- an augmented operator on two values -/
def InOp (X : Cx) (op : Operator) (rd : V → V → Hp → VK → Prop) : Prop :=
  ∀ (pins : List (Addr × Obj)) (s : Shared) (σ : St) (H : Hp) (x y : V) (u v : Value) (Q : VK), Inv X pins σ H s → RelV x u → RelV y v → rd x y H Q → wpAny (model X.prog X.w) X.A (inplaceOp op u v) (EP X pins σ Q) X.xe s
/-- e.f op= value -/
def sFldAug (K : PySem.W.Frag) (ta tv : TE) (rd : V → V → Hp → VK → Prop) (f : Str) : TS := fun D σ H => ta σ H fun x H1 => ∃ a C dx fs v, x = .ref a ∧ H1 a = some (.ins C dx fs) ∧ Cls K C ∧ NoAttr K C f ∧ fs.lookup f = some v ∧
  tv σ H1 fun y H2 => rd v y H2 fun z H3 => ∃ dx' fs', H3 a = some (.ins C dx' fs') ∧ fs'.length < 1000 ∧ D.nx σ (upd H3 a (.ins C dx' (putF f z fs')))

section
variable {X : Cx} {o e value : Expr} {f : Str} {pos pos' tpos : Pos} {ta tv : TE}
def rAdd : V → V → Hp → VK → Prop := fun x y H Q => ∃ i j, x = .int i ∧ y = .int j ∧ Q (.int (i + j)) H
def rSub : V → V → Hp → VK → Prop := fun x y H Q => ∃ i j, x = .int i ∧ y = .int j ∧ Q (.int (i - j)) H
end

/-! ### isinstance -/
section
variable {X : Cx} {pins : List (Addr × Obj)} {σ : St} {H : Hp} {s : Shared} {A : Around} {E : Value → Shared → Prop} {Q : Value → Shared → Prop} {c : Value} {b : Bool}
/-- the type of a value, as the fragment's deciders take it; for an instance its class -/
inductive TyOf (K : PySem.W.Frag) (H : Hp) : V → Value → Prop where
  | non : TyOf K H .non (.type "NoneType")
  | bl (x : Bool) : TyOf K H (.bl x) (.type "bool")
  | int (i : Int) : TyOf K H (.int i) (.type "int")
  | str (x : Str) : TyOf K H (.str x) (.type "str")
  | flt (x : UInt64) : TyOf K H (.flt x) (.type "float")
  | lst {a : Addr} {xs : List V} (e : H a = some (.lst xs)) : TyOf K H (.ref a) (.type "list")
  | frz {a : Addr} {o : Obj} {xs : List V} (e : H a = some (.frz o (.lst xs))) : TyOf K H (.ref a) (.type "list")
  | tup {a : Addr} {xs : List V} (e : H a = some (.tup xs)) : TyOf K H (.ref a) (.type "tuple")
  | dK {a : Addr} {kvs : List (Key × V)} (e : H a = some (.dK kvs)) : TyOf K H (.ref a) (.type "dict")
  | dT {a : Addr} {kvs : List (List Key × V)} (e : H a = some (.dT kvs)) : TyOf K H (.ref a) (.type "dict")
  | ins {a C dx : Addr} {fs : List (Str × V)} (e : H a = some (.ins C dx fs)) (cl : Cls K C) (ha : PySem.W.findIn K (.ref C) "__class__" = some (some (.builtin "object.__class__")))
      (hn : PySem.W.specialIn K (.builtin "object.__class__") "__get__" = some (some (.builtin "getset_descriptor.__get__"))) (htk : PySem.W.takesIn K (.builtin "object.__class__") = some true)
      (hm : PySem.W.mroIn K C (.type "object") = some true) : TyOf K H (.ref a) (.ref C)
/-- isinstance(x, c) for one class c, a built-in or an own one: kitOne's answer -/
theorem isinst_ok {x : V} {u t : Value} (I : Inv X pins σ H s) (rx : RelV x u) (ty : TyOf X.K H x t) (e : PySem.W.kitOne X.K t c = some b) (h : ∀ tk, Q (.bool b) { s with toks := tk }) :
    wpAny (model X.prog X.w) A (call (.builtin "isinstance") [u, c]) Q E s := by
  cases ty with
  | non => cases (show u = Value.none from rx); exact PySem.W.kia_one PySem.W.kitx_none I.kIn True.intro e (fun z => nomatch z) h
  | bl y => cases (show u = Value.bool y from rx); exact PySem.W.kia_one PySem.W.kitx_bool I.kIn True.intro e (fun z => nomatch z) h
  | int i => obtain ⟨t, q⟩ := (show ∃ t, u = Value.int i t from rx); cases q; exact PySem.W.kia_one PySem.W.kitx_int I.kIn True.intro e (fun z => nomatch z) h
  | str y => obtain ⟨t, q⟩ := (show ∃ t, u = Value.str y t from rx); cases q; exact PySem.W.kia_one PySem.W.kitx_str I.kIn True.intro e (fun z => nomatch z) h
  | flt y => obtain ⟨t, q⟩ := (show ∃ t, u = Value.float y t from rx); cases q; exact PySem.W.kia_one PySem.W.kitx_float I.kIn True.intro e (fun z => nomatch z) h
  | @lst a xs ea =>
    cases (show u = Value.ref a from rx)
    obtain ⟨_, _, n, _, h1⟩ := (show ObjOk X.prog X.w H s.heap a (.lst xs) from I.hok a _ ea)
    exact PySem.W.kia_one PySem.W.kitx_list I.kIn ⟨_, h1, rfl⟩ e (fun z => nomatch z) h
  | @frz a ob xs ea =>
    cases (show u = Value.ref a from rx)
    obtain ⟨_, _, _, n, _, h1⟩ := (show ObjOk X.prog X.w H s.heap a (.frz ob (.lst xs)) from I.hok a _ ea)
    exact PySem.W.kia_one PySem.W.kitx_list I.kIn ⟨_, h1, rfl⟩ e (fun z => nomatch z) h
  | @tup a xs ea =>
    cases (show u = Value.ref a from rx)
    obtain ⟨_, _, _, p⟩ := (show ObjOk X.prog X.w H s.heap a (.tup xs) from I.hok a _ ea)
    obtain ⟨o, h1, h2, _⟩ := p
    exact PySem.W.kia_one PySem.W.kitx_tuple I.kIn ⟨o, h1, h2⟩ e (fun z => nomatch z) h
  | @dK a kvs ea =>
    cases (show u = Value.ref a from rx)
    obtain ⟨_, _, vs, _, p⟩ := (show ObjOk X.prog X.w H s.heap a (.dK kvs) from I.hok a _ ea)
    obtain ⟨o, es, ep, h1, h2, _⟩ := p
    exact PySem.W.kia_one PySem.W.kitx_dict I.kIn ⟨o, h1, h2.1⟩ e (fun z => nomatch z) h
  | @dT a kvs ea =>
    cases (show u = Value.ref a from rx)
    obtain ⟨_, _, xs, _, o, es, ep, h1, h2, _⟩ := (show ObjOk X.prog X.w H s.heap a (.dT kvs) from I.hok a _ ea)
    exact PySem.W.kia_one PySem.W.kitx_dict I.kIn ⟨o, h1, h2.1⟩ e (fun z => nomatch z) h
  | @ins a C dx fs ea cl ha hn htk hm =>
    cases (show u = Value.ref a from rx)
    obtain ⟨mA, O, _⟩ := ins_get I.hok ea
    obtain ⟨od, J, _⟩ := O.look
    exact PySem.W.kia_one (PySem.W.kitx_own (cl.get _) cl.hd ha hn htk hm) I.kIn J e (fun z => nomatch z) h
end
end L2

namespace L2
open PySem PySem.Spec PyProof.Rows

/-! ### room -/
structure Room (k : Nat) (A : Around) : Prop where
  hd : A.handled = none
  dp : A.depth + 3 * k + 5 < recursionLimit
  un : A.units + 16 * k + 200 < cLine
theorem Room.mono {j k : Nat} {A : Around} (r : Room k A) (h : j ≤ k) : Room j A := ⟨r.hd, by have := r.dp; omega, by have := r.un; omega⟩
theorem Room.deeper {k : Nat} {A : Around} (r : Room (k + 1) A) (env : Env) : Room k (A.deeper env) :=
  ⟨r.hd, by have := r.dp; show A.depth + 1 + 3 * k + 5 < _; omega, by have := r.un; show A.units + 3 + 16 * k + 200 < _; omega⟩
theorem Room.depth {k : Nat} {A : Around} (r : Room k A) : A.depth < recursionLimit := by have := r.dp; omega
theorem Room.units {k : Nat} {A : Around} (r : Room k A) : A.units + 64 < cLine := by have := r.un; omega
/-! ### argument lists and displays -/
def tNil : TA := fun _ H Q => Q [] H
def tCons (ta : TE) (tr : TA) : TA := fun σ H Q => ta σ H fun x H1 => tr σ H1 fun xs H2 => Q (x :: xs) H2
section
variable {X : Cx} {e : Expr} {es : List Expr} {te : TE} {t : TA} {pos : Pos}
theorem pa_nil : PA X [] tNil := fun _ _ _ _ H Q I h => Calls.spliced_nil ⟨[], H, I, .nil, h⟩
theorem pa_cons (ha : PE X e te) (hr : PA X es t) (hs : starEach (e :: es) X.env = (false, eval e X.env) :: starEach es X.env := by rfl) : PA X (e :: es) (tCons te t) := by
  intro pos pins s σ H Q I h
  rw [hs]
  show wpAny _ _ (spliced ((false, eval e X.env) :: backTo pos (starEach es X.env))) _ _ s
  refine Calls.spliced_cons (thn (ha pins s σ H _ I h) fun u s1 ⟨x, H1, I1, r1, q1⟩ => ?_)
  exact thn (hr pos pins s1 σ H1 _ I1 q1) fun us s2 ⟨xs, H2, I2, r2, q2⟩ => ⟨x :: xs, H2, I2, .cons r1 r2, q2⟩

/-- a tuple, a list of written items -/
def tTup (t : TA) : TE := fun σ H Q => t σ H fun xs H1 => xs.length ≤ sizeLine ∧ ∀ p, H1 p = none → Q (.ref p) (upd H1 p (.tup xs))
def tLst (t : TA) : TE := fun σ H Q => t σ H fun xs H1 => xs.length ≤ sizeLine ∧ ∀ p, H1 p = none → Q (.ref p) (upd H1 p (.lst xs))
theorem pe_tup {x1} (h : PA X es t) : PE X (.Tuple es x1 pos) (tTup t) := by
  intro pins s σ H Q I hq
  refine wpAny_Tuple_spliced (thn (h pos pins s σ H _ I hq) fun us s1 ⟨xs, H1, I1, r, z, q⟩ => ⟨by rw [← r.length]; exact z, ?_⟩)
  have hf : H1 s1.heap.objs.size = none := I1.hok.fresh (Nat.le_refl _)
  refine ⟨.ref s1.heap.objs.size, upd H1 s1.heap.objs.size (.tup xs), I1.laid (t' := s1.toks) (fun b u e => Heap.get?_push_of_some _ e) (Nat.le_refl _) ?_, rfl, q _ hf⟩
  exact ⟨z, us, r, ⟨_, Heap.get?_push_size _ rfl, rfl, _, rfl⟩⟩
theorem pe_lst (h : PA X es t) : PE X (.List es pos) (tLst t) := by
  intro pins s σ H Q I hq
  refine wpAny_List_spliced (thn (h pos pins s σ H _ I hq) fun us s1 ⟨xs, H1, I1, r, z, q⟩ => ⟨by rw [← r.length]; exact z, ?_⟩)
  have hf : H1 s1.heap.objs.size = none := I1.hok.fresh (Nat.le_refl _)
  refine ⟨.ref s1.heap.objs.size, upd H1 s1.heap.objs.size (.lst xs), I1.laid (t' := s1.toks) (fun b u e => Heap.get?_push_of_some _ e) (Nat.le_refl _) ?_, rfl, q _ hf⟩
  exact ⟨z, us, 0, r, Heap.get?_push_size _ rfl⟩
end

/-! ### what a def promises -/
/-- a def's promise: the bound arguments in the parameters' order, the heap, the wanted end, the wanted exception -/
abbrev Sp := List V → Hp → VK → XK → Prop
/-- how an exception lies behind a call (file 08 gives it): the callers' frames, abstract heap and state ahead of the call, the wish, the exception, the state -/
abbrev CXT := List Env → Hp → Shared → XK → Value → Shared → Prop

/-- the state at a call -/
structure Env0 (P : Program) (w : World) (K : PySem.W.Frag) (mg : Str → Option Value) (base : Heap) (A : Around) (outer : List Env) (s : Shared) (H : Hp) : Prop where
  frames : A.frames = some outer
  mod : Mod K mg base
  bs : ∀ b o, base.get? b = some o → s.heap.get? b = some o ∧ H b = none
  bsz : base.objs.size ≤ s.heap.objs.size
  funs : s.heap.FunFrames base outer
  frf : ∀ b ∈ frs outer, H b = none
  hok : HOk P w H s.heap
  bare : AllBare s.gens
/-- a call's end -/
def CE (outer : List Env) (P : Program) (w : World) (H : Hp) (s : Shared) (Q : VK) (u : Value) (s' : Shared) : Prop :=
  ∃ v H', s'.os = s.os ∧ AllBare s'.gens ∧ Un (frs outer) [] H H' s.heap s'.heap ∧ HOk P w H' s'.heap ∧ RelV v u ∧ Q v H'
def CR (CX : CXT) (outer : List Env) (P : Program) (w : World) (H : Hp) (s : Shared) (Q : VK) (E : XK) (r : Result) (s' : Shared) : Prop :=
  match r with
  | .ok (.ret u) => CE outer P w H s Q u s'
  | .ok _ => False
  | .error e => CX outer H s E e s'
structure FnOk (P : Program) (w : World) (K : PySem.W.Frag) (mg : Str → Option Value) (base : Heap) (CX : CXT) (k : Nat) (f : Addr) (fd : FuncData) (ps : List Str) (sp : Sp) : Prop where
  len : ∀ vs H Q E, sp vs H Q E → vs.length = ps.length
  run : ∀ (A : Around) (outer : List Env) (s : Shared) (H : Hp) (args : Args) (us : List Value) (vs : List V) (Q : VK) (E : XK), Room k A → Env0 P w K mg base A outer s H → BindsTo s fd args (ps.zip us) → Vals vs us → sp vs H Q E →
    codeAny (model P w) A (.call (.ref f) args) (CR CX outer P w H s Q E) s
section
variable {X : Cx} {pins : List (Addr × Obj)} {σ : St} {H : Hp} {s s' : Shared}
/-- from a body: what a callee wants -/
theorem Inv.env0 (I : Inv X pins σ H s) : Env0 X.prog X.w X.K X.mg X.base X.A X.stack s H :=
  ⟨I.ok.frames, I.ok.mod, I.bs, Nat.le_trans I.ok.bsz I.sz, I.stack, I.stkFree, I.hok, I.bare⟩
/-- behind a call -/
theorem Inv.after {Q : VK} {u : Value} (I : Inv X pins σ H s) (h : CE X.stack X.prog X.w H s Q u s') : EP X pins σ Q u s' := by
  obtain ⟨v, H', os, bare, un, hok, r, q⟩ := h
  obtain ⟨hh, g, d, t, os'⟩ := s'
  obtain rfl : os' = s.os := os
  exact ⟨v, H', I.call (h' := hh) (g' := g) (d' := d) (t' := t) (ch := []) un hok bare (fun b z => absurd z (by simp)), r, q⟩
end

/-! ### calls -/
/-- f(..): the written arguments, then the defaults dvs; E: what is wanted of an exception -/
def tCall (sp : Sp) (dvs : List V) (E : XK) (t : TA) : TE := fun σ H Q => t σ H fun vs H1 => sp (vs ++ dvs) H1 Q E
/-- o.m(..) of an instance of the class at C -/
def tMeth (C : Addr) (m : Str) (sp : Sp) (dvs : List V) (E : XK) (ta : TE) (t : TA) : TE := fun σ H Q => ta σ H fun x H1 => ∃ a dx fs, x = .ref a ∧ H1 a = some (.ins C dx fs) ∧ fs.lookup m = none ∧
  t σ H1 fun vs H2 => sp (x :: (vs ++ dvs)) H2 Q E
/-- C(..): a new instance and its dict, then __init__ -/
def tMake (C : Addr) (sp : Sp) (dvs : List V) (E : XK) (t : TA) : TE := fun σ H Q => t σ H fun vs H1 => ∀ x dx, H1 x = none → H1 dx = none → dx ≠ x →
  sp (.ref x :: (vs ++ dvs)) (upd (upd H1 dx (.own x)) x (.ins C dx [])) (fun v H2 => v = .non ∧ Q (.ref x) H2) E

/-- how the parameters are bound: us the positional arguments, kw the keywords' values by name, ds the defaults that fill up -/
def Binds (K : PySem.W.Frag) (fd : FuncData) (ps : List Str) (ds : List Value) : Prop :=
  ∀ (s : Shared) (us : List Value), K.In s.heap → (us ++ ds).length = ps.length → BindsTo s fd ⟨us, []⟩ (ps.zip (us ++ ds))
/-- every parameter is given -/
theorem Binds.all {K : PySem.W.Frag} {fd : FuncData} {ps : List Str} (h : ∀ us : List Value, us.length = ps.length → bindArgs fd ⟨us, []⟩ = pure (ps.zip us)) : Binds K fd ps [] := fun s us _ hl => by
  rw [List.append_nil] at hl ⊢
  exact .of_eq (h us hl)

/-- an exception of a callee reaches what this body wants of exceptions -/
def Passes (CX : CXT) (X : Cx) (E : XK) : Prop := ∀ (pins : List (Addr × Obj)) (σ : St) (H : Hp) (s : Shared) (e : Value) (s' : Shared), Inv X pins σ H s → CX X.stack H s E e s' → X.xe e s'

section
variable {X : Cx} {CX : CXT} {k : Nat} {f C : Addr} {fd : FuncData} {ps : List Str} {sp : Sp} {dvs : List V} {ds : List Value} {E : XK} {x m : Str} {p pos apos : Pos} {e o : Expr} {es : List Expr} {ta : TE} {t : TA}

/-- the callee runs -/
theorem run_fn {pins : List (Addr × Obj)} {σ : St} {H : Hp} {s : Shared} {Q : VK} {us : List Value} {vs : List V} (F : FnOk X.prog X.w X.K X.mg X.base CX k f fd ps sp) (hr : Room k X.A) (hb : Binds X.K fd ps ds) (hd : Vals dvs ds) (hx : Passes CX X E)
    (I : Inv X pins σ H s) (r : Vals vs us) (h : sp (vs ++ dvs) H Q E) : wpAny (model X.prog X.w) X.A (call (.ref f) us) (EP X pins σ Q) X.xe s := by
  have r2 : Vals (vs ++ dvs) (us ++ ds) := r.append hd
  have hl : (us ++ ds).length = ps.length := by rw [← r2.length]; exact F.len _ _ _ _ h
  refine wpAny_call (codeAny_mono (F.run X.A X.stack s H ⟨us, []⟩ (us ++ ds) (vs ++ dvs) Q E hr I.env0 (hb s us I.kIn hl) r2 h) fun r s' hq => ?_)
  cases r with
  | error e => exact hx pins σ H s e s' I hq
  | ok fl =>
    cases fl with
    | ret u => exact I.after hq
    | next => exact False.elim hq
    | brk => exact False.elim hq
    | cont => exact False.elim hq

theorem pe_call (F : FnOk X.prog X.w X.K X.mg X.base CX k f fd ps sp) (hr : Room k X.A) (hg : Gl X x) (hm : X.mg x = some (.ref f)) (hk : PySem.W.keepIn X.K (.ref f) = true) (hb : Binds X.K fd ps ds) (hd : Vals dvs ds) (hx : Passes CX X E)
    (ha : PA X (e :: es) t) (hdb : (x == ("__debug__" : Str)) = false := by decide) (he : starEach (e :: es) X.env = (false, eval e X.env) :: starEach es X.env := by rfl) (hpl : (backTo pos (starEach es X.env)).any (·.1) = false := by rfl) :
    PE X (.Call (.Name x p) (e :: es) [] pos) (tCall sp dvs E t) := by
  intro pins s σ H Q I h
  refine wpAny_Call_Name_kw (ld_glob I hg hm ?_ hdb)
  refine PySem.W.callWith_K (h₀ := X.base) I.ok.mod.kin hk (thn (ha pos pins s σ H _ I h) fun us s1 ⟨vs, H1, I1, r, q⟩ => ⟨I1.kIn, ?_⟩) he hpl
  exact run_fn F hr hb hd hx I1 r q
/-- what a class must have to be made -/
structure Mk (K : PySem.W.Frag) (C f : Addr) : Prop where
  makes : PySem.W.makesIn K C = true
  init : PySem.W.findIn K (.ref C) "__init__" = some (some (.ref f))
  fn : PySem.W.isFn K (.ref f) = true
  kp : PySem.W.keepIn K (.ref C) = true

end

/-! ### keywords -/
/-- the values of the keywords, from the left -/
def PK (X : Cx) (kws : List Keyword) (t : TA) : Prop :=
  ∀ (pos : Pos) (pins : List (Addr × Obj)) (s : Shared) (σ : St) (H : Hp) (Q : List V → Hp → Prop), Inv X pins σ H s → t σ H Q → wpAny (model X.prog X.w) X.A (evalAll ((backToKw pos (keywordEach kws X.env)).map (·.2))) (AP X pins σ Q) X.xe s
section
variable {X : Cx} {CX : CXT} {k : Nat} {f C : Addr} {fd : FuncData} {ps ks : List Str} {sp : Sp} {E : XK} {x m : Str} {p pos apos kpos : Pos} {e o : Expr} {es : List Expr} {kws : List Keyword} {te ta : TE} {t tk : TA} {nm : Option Str}
/-- how a call with keywords binds: g puts the positional values us and the keywords' values ws (names ks) in the parameters' order, defaults among them -/
structure KBinds (K : PySem.W.Frag) (fd : FuncData) (ps ks : List Str) (g : List Value → List Value → List Value) (gV : List V → List V → List V) : Prop where
  to : ∀ (s : Shared) (us ws : List Value), K.In s.heap → (g us ws).length = ps.length → BindsTo s fd ⟨us, ks.zip ws⟩ (ps.zip (g us ws))
  rel : ∀ {vs : List V} {us : List Value} {zs : List V} {ws : List Value}, Vals vs us → Vals zs ws → Vals (gV vs zs) (g us ws)
def tCallK (sp : Sp) (gV : List V → List V → List V) (E : XK) (t tk : TA) : TE := fun σ H Q => t σ H fun vs H1 => tk σ H1 fun zs H2 => sp (gV vs zs) H2 Q E
variable {g : List Value → List Value → List Value} {gV : List V → List V → List V}
end

/-! ### a def's body keeps its promise -/
/-- names: the parameters first -/
structure FnScope (N P : List Str) (sc : Scope) : Prop where
  kind : sc.kind = .function
  co : sc.isCoroutine = false
  gen : sc.isGenerator = false
  nd : N.Nodup
  pre : N.take P.length = P
  par : ∀ x ∈ P, sc.names.lookup x = some .local ∨ sc.names.lookup x = some .cell
  nofree : ∀ y ∈ sc.names, y.2 ≠ .free

theorem bindL_out {kindOf : Str → Option NameKind} {x : Str} : ∀ {binds : List (Str × Value)} {m : Str → Option Value}, (∀ v, (x, v) ∉ binds) → bindL kindOf binds m x = m x
  | [], _, _ => rfl
  | (n, v) :: r, m, h => by
    unfold bindL
    rw [bindL_out fun w hw => h w (List.mem_cons_of_mem _ hw)]
    split
    · have : x ≠ n := by rintro rfl; exact h v List.mem_cons_self
      simp [this]
    · rfl
theorem bindC_out {kindOf : Str → Option NameKind} {x : Str} : ∀ {binds : List (Str × Value)} {m : Str → Option Value}, (∀ v, (x, v) ∉ binds) → bindC kindOf binds m x = m x
  | [], _, _ => rfl
  | (n, v) :: r, m, h => by
    unfold bindC
    rw [bindC_out fun w hw => h w (List.mem_cons_of_mem _ hw)]
    split
    · rfl
    · have : x ≠ n := by rintro rfl; exact h v List.mem_cons_self
      simp [this]
theorem bindL_get {kindOf : Str → Option NameKind} {x : Str} {v : Value} : ∀ {P : List Str} {vs : List Value} {i : Nat} {m : Str → Option Value}, P.Nodup → P[i]? = some x → vs[i]? = some v → kindOf x = some .local →
    bindL kindOf (P.zip vs) m x = some v
  | [], _, _, _, _, h, _, _ => by simp at h
  | _ :: _, [], _, _, _, _, h, _ => by simp at h
  | p :: P, w :: vs, 0, m, nd, h1, h2, hk => by
    simp at h1 h2; subst h1; subst h2
    show bindL kindOf ((p, w) :: P.zip vs) m p = _
    unfold bindL
    rw [bindL_out fun v hv => (List.nodup_cons.mp nd).1 (List.of_mem_zip hv).1, if_pos hk]
    simp
  | p :: P, w :: vs, i + 1, m, nd, h1, h2, hk => by
    show bindL kindOf ((p, w) :: P.zip vs) m x = _
    unfold bindL
    exact bindL_get (i := i) (List.nodup_cons.mp nd).2 (by simpa using h1) (by simpa using h2) hk
theorem bindC_get {kindOf : Str → Option NameKind} {x : Str} {v : Value} : ∀ {P : List Str} {vs : List Value} {i : Nat} {m : Str → Option Value}, P.Nodup → P[i]? = some x → vs[i]? = some v → kindOf x ≠ some .local →
    bindC kindOf (P.zip vs) m x = some v
  | [], _, _, _, _, h, _, _ => by simp at h
  | _ :: _, [], _, _, _, _, h, _ => by simp at h
  | p :: P, w :: vs, 0, m, nd, h1, h2, hk => by
    simp at h1 h2; subst h1; subst h2
    show bindC kindOf ((p, w) :: P.zip vs) m p = _
    unfold bindC
    rw [bindC_out fun v hv => (List.nodup_cons.mp nd).1 (List.of_mem_zip hv).1, if_neg hk]
    simp
  | p :: P, w :: vs, i + 1, m, nd, h1, h2, hk => by
    show bindC kindOf ((p, w) :: P.zip vs) m x = _
    unfold bindC
    exact bindC_get (i := i) (List.nodup_cons.mp nd).2 (by simpa using h1) (by simpa using h2) hk

/-- the names' values at the entry -/
def start (N : List Str) (vs : List V) : St := vs.map some ++ List.replicate (N.length - vs.length) none

/-- the context of a def's body, at its entry; an exception leaves the frame, then lies as CX says -/
def cxOf (CX : CXT) (P : Program) (w : World) (K : PySem.W.Frag) (mg : Str → Option Value) (base : Heap) (N : List Str) (qual : Str) (scope : Scope) (f : Addr) (cd : Value) (A : Around) (outer : List Env) (s : Shared) (H : Hp) (E : XK) : Cx where
  prog := P
  w := w
  K := K
  mg := mg
  base := base
  A := A.deeper (envOfC qual scope s.heap.objs.size f cd)
  N := N
  s_0 := s
  H_0 := H
  env := envOfC qual scope s.heap.objs.size f cd
  outer := outer
  stack := envOfC qual scope s.heap.objs.size f cd :: outer
  ex := []
  calm := true
  fn := fun _ => true
  pn := []
  xe := fun e s' => wpAny (model P w) (A.deeper (envOfC qual scope s.heap.objs.size f cd)) (leaving (envOfC qual scope s.heap.objs.size f cd) e) (fun _ s'' => CX outer H s E e s'') (fun e' s'' => CX outer H s E e' s'') s'

theorem cell_has {sc : Scope} {n : Nat} {x : Str} (h : sc.names.lookup x = some .cell) : ∃ c, (cellsFrom n sc.names []).lookup x = some c := by
  have q := PySem.W.cellsFrom_some sc.names n [] (.inl h)
  exact Option.isSome_iff_exists.mp q

theorem inv_start {CX : CXT} {P : Program} {w : World} {K : PySem.W.Frag} {mg : Str → Option Value} {base : Heap} {N ps : List Str} {qual : Str} {scope : Scope} {f : Addr} {cd : Value} {A : Around} {outer : List Env} {s s1 : Shared} {H : Hp} {E : XK} {us : List Value} {vs : List V}
    (S : FnScope N ps scope) (hd : A.handled = none) (e0 : Env0 P w K mg base A outer s H) (hl : vs.length = ps.length) (r : Vals vs us)
    (x : InCallC s s.heap.objs.size (bindL (envOfC qual scope s.heap.objs.size f cd).kindOf (ps.zip us) fun _ => none) (cellsFrom (s.heap.objs.size + 1) scope.names []) (bindC (envOfC qual scope s.heap.objs.size f cd).kindOf (ps.zip us) fun _ => none) s1) :
    Inv (cxOf CX P w K mg base N qual scope f cd A outer s H E) [] (start N vs) H s1 := by
  have hpl : ps.length ≤ N.length := by have := congrArg List.length S.pre; rw [List.length_take] at this; omega
  obtain ⟨h1, tk, rfl, hk⟩ := x.done
  have noA : ∀ b : Addr, b ∉ (cxOf CX P w K mg base N qual scope f cd A outer s H E).ex := fun b z => absurd (show b ∈ ([] : List Addr) from z) (by simp)
  refine ⟨⟨e0.mod, S.kind, rfl, rfl, Nat.le_refl _, fun y z c h1 h2 => ?_, fun y hy => ?_, fun y c _ h => ?_, fun _ => hd, Around.frames_deeper e0.frames, .inr ⟨rfl, rfl⟩, fun b z => absurd z (noA b), e0.bs, e0.bsz, fun b _ _ => noA b, fun b z => absurd z (noA b), e0.funs, e0.frf⟩,
    rfl, e0.bare, Un.kept hk, ⟨_, x.toInCall.ns, fun i y v h1 h2 h3 => ?_⟩, fun y c h => ⟨_, x.cell y c h⟩, e0.hok.fresh (Nat.le_refl _), fun y c h => ?_, fun p hp => absurd (show p ∈ ([] : List (Addr × Obj)) from hp) (by simp), e0.hok.kept hk, ?_⟩
  · exact name_of_addr x.apart (PySem.mem_of_lookup h1) (PySem.mem_of_lookup h2)
  · have hy : scope.names.lookup y = some .cell ∨ scope.names.lookup y = some .free := hy
    rcases hy with hy | hy
    · exact cell_has hy
    · exact absurd rfl (S.nofree _ (PySem.mem_of_lookup hy))
  · exact Nat.le_of_lt (x.above y c (PySem.mem_of_lookup h))
  · have hi : i < vs.length := by
      unfold start at h2
      by_cases hi : i < vs.length
      · exact hi
      · rw [List.getElem?_append_right (by simpa using hi)] at h2
        rw [List.getElem?_replicate] at h2
        split at h2 <;> cases h2
    have ha : vs[i]? = some v := by
      unfold start at h2
      rw [List.getElem?_append_left (by simpa using hi), List.getElem?_map] at h2
      cases e : vs[i]? with
      | none => rw [e] at h2; cases h2
      | some a => rw [e] at h2; cases h2; rfl
    obtain ⟨u, hu, rv⟩ := r.get ha
    have hp : ps[i]? = some y := by
      rw [← S.pre, List.getElem?_take_of_lt (by omega)]; exact h1
    have ndP : ps.Nodup := by rw [← S.pre]; exact S.nd.sublist (List.take_sublist _ _)
    refine ⟨u, rv, ?_⟩
    rcases S.par y (List.mem_of_getElem? hp) with k | k
    · exact .inl ⟨k, bindL_get ndP hp hu k⟩
    · obtain ⟨c, e⟩ := cell_has (n := s.heap.objs.size + 1) k
      refine .inr ⟨.inl k, c, e, ?_⟩
      have q := x.cell y c e
      rw [bindC_get ndP hp hu (by show scope.names.lookup y ≠ _; rw [k]; decide)] at q
      exact q
  · exact e0.hok.fresh (Nat.le_of_lt (x.above y c (PySem.mem_of_lookup h)))
  · unfold start
    show _ = N.length
    rw [List.length_append, List.length_map, List.length_replicate]
    omega

/-- THE RULE: a def (or a method) of the text, by its body. The body's reading t is chosen for each entry; it is run at the parameters' values -/
theorem fn_of {CX : CXT} {P : Program} {w : World} {K : PySem.W.Frag} {mg : Str → Option Value} {base : Heap} {k : Nat} {f : Addr} {name qual : Str} {params : Arguments} {body : List Stmt} {scope : Scope} {dV kV doc pm cdv ct oc : Value} {an od : Option Addr}
    {osl : Array (Option Value)} {N ps : List Str} {sp : Sp} (lk : K.lookup f = some ⟨oc, od, .func (PySem.W.fnOf name qual params body scope dV kV doc pm an cdv ct), osl⟩) (hcd : PySem.W.codeIn K cdv qual = true) (S : FnScope N ps scope)
    (len : ∀ vs H Q E, sp vs H Q E → vs.length = ps.length)
    (hbody : ∀ (A : Around) (outer : List Env) (s : Shared) (H : Hp) (vs : List V) (Q : VK) (E : XK), Room k (A.deeper (envOfC qual scope s.heap.objs.size f cdv)) → sp vs H Q E →
      ∃ t, PSs (cxOf CX P w K mg base N qual scope f cdv A outer s H E) body t ∧ t { nx := fun _ H' => Q .non H', rt := Q } (start N vs) H) :
    FnOk P w K mg base CX (k + 1) f (PySem.W.fnOf name qual params body scope dV kV doc pm an cdv ct) ps sp := by
  refine ⟨len, fun A outer s H args us vs Q E hr e0 hb r hsp => ?_⟩
  have hl := len _ _ _ _ hsp
  have KX : K.In s.heap := e0.mod.kin.keeps fun b o e => (e0.bs b o e).1
  have lim : s.heap.NoLimit := e0.mod.nolimit.keeps fun b o e => (e0.bs b o e).1
  have hkind : ∀ y ∈ ps.zip us, scope.names.lookup y.1 = some .local ∨ (scope.names.lookup y.1 = some .cell ∧ ((cellsFrom (s.heap.objs.size + 1) scope.names []).lookup y.1).isSome = true) := fun ⟨n, v⟩ hy => by
    rcases S.par n (List.of_mem_zip hy).1 with q | q
    · exact .inl q
    · exact .inr ⟨q, PySem.W.cellsFrom_some _ _ _ (.inl q)⟩
  refine codeAny_call_function hr.depth (KX _ _ lk) rfl S.co S.gen rfl (PySem.W.codeRec_of KX hcd) (hb _ _ _ _ ?_)
  refine wpAny_newFunctionEnv_cells S.kind hkind fun env he s1 x => ?_
  subst he
  refine ⟨lim.keeps x.toInCall.keep, codeAny_func ?_⟩
  obtain ⟨t, ht, hq⟩ := hbody A outer s H vs Q E (hr.deeper _) hsp
  have I : Inv (cxOf CX P w K mg base N qual scope f cdv A outer s H E) [] (start N vs) H s1 := inv_start S hr.hd e0 hl r x
  refine wpAny_mono (ht [] s1 (start N vs) H _ I hq) (fun fl s' hs => ?_) fun e s' hs => hs
  have fin : ∀ {σ' : St} {H' : Hp} {v : V} {u : Value}, Inv (cxOf CX P w K mg base N qual scope f cdv A outer s H E) [] σ' H' s' → RelV v u → Q v H' → CE outer P w H s Q u s' :=
    fun {σ' H' v u} J rv q => ⟨v, H', J.os, J.bare, J.base, J.hok, rv, q⟩
  cases fl with
  | ret u =>
    obtain ⟨v, σ', H', J, rv, q⟩ := hs
    exact fin J rv q
  | next =>
    obtain ⟨σ', H', J, q⟩ := hs
    exact fin (v := V.non) (u := Value.none) J rfl q
  | brk =>
    obtain ⟨_, _, _, q⟩ := hs
    exact False.elim q
  | cont =>
    obtain ⟨_, _, _, q⟩ := hs
    exact False.elim q
end L2

namespace L2
open PySem PySem.Spec PyProof.Rows
section
variable {X : Cx} {x : Str} {p pos : Pos} {e : Expr} {es : List Expr} {t : TA} {id T : String} {r : List V → Hp → VK → Prop}

def tCB (r : List V → Hp → VK → Prop) (t : TA) : TE := fun σ H Q => t σ H fun vs H1 => r vs H1 Q
/-- f(e, ..), f a built-in function -/
theorem pe_callB (hc : CallR X (.builtin id) r) (hg : Gl X x) (hm : X.mg x = none) (hv : bootBuiltins x = some (.builtin id)) (ha : PA X (e :: es) t) (hn : x ≠ "__name__" := by decide) (hdb : (x == ("__debug__" : Str)) = false := by decide)
    (he : starEach (e :: es) X.env = (false, eval e X.env) :: starEach es X.env := by rfl) (hpl : (backTo pos (starEach es X.env)).any (·.1) = false := by rfl) : PE X (.Call (.Name x p) (e :: es) [] pos) (tCB r t) := by
  intro pins s σ H Q I h
  refine wpAny_Call_Name_kw (ld_blt I hg hm hv ?_ hn hdb)
  exact PyProof.Rows.callWith_builtin1 (thn (ha pos pins s σ H _ I h) fun us s1 ⟨vs, H1, I1, r1, q1⟩ => hc pins s1 σ H1 vs us Q I1 r1 q1) he hpl
/-- T(e, ..), T a built-in type -/
theorem pe_callTy (hc : CallR X (.type T) r) (hg : Gl X x) (hm : X.mg x = none) (hv : bootBuiltins x = some (.type T)) (ha : PA X (e :: es) t) (hn : x ≠ "__name__" := by decide) (hdb : (x == ("__debug__" : Str)) = false := by decide)
    (he : starEach (e :: es) X.env = (false, eval e X.env) :: starEach es X.env := by rfl) (hpl : (backTo pos (starEach es X.env)).any (·.1) = false := by rfl) : PE X (.Call (.Name x p) (e :: es) [] pos) (tCB r t) := by
  intro pins s σ H Q I h
  refine wpAny_Call_Name_kw (ld_blt I hg hm hv ?_ hn hdb)
  exact PyProof.Rows.callWith_type1 (thn (ha pos pins s σ H _ I h) fun us s1 ⟨vs, H1, I1, r1, q1⟩ => hc pins s1 σ H1 vs us Q I1 r1 q1) he hpl
end
end L2

namespace HT
open PySem PyProof.Rows

/-- t < u of tuples of ints -/
def lexLt : List Int → List Int → Bool
  | [], [] => false
  | [], _ :: _ => true
  | _ :: _, [] => false
  | x :: xs, y :: ys => if x = y then lexLt xs ys else decide (x < y)
section
open PySem.SeqAt
open PySem.AutoSeq1 (wpAny_loadPart')
open PySem.MeetsSeq PySem.MeetsSeq2 PySem.MeetsSeq3

end

section
variable {prog : Program} {w : World} {A : Around} {E : Value → Shared → Prop} {s : Shared}

/-! ### t[a:b], not the whole -/
/-- a slice's bound as a place among n (d where it is left out) -/
def sIx (n d : Nat) : Option Int → Nat
  | none => d
  | some v => if v < 0 then (v + (n : Int)).toNat else min v.toNat n
theorem sIx_none (n d : Nat) : sIx n d none = d := rfl
theorem sIx_nat (n d k : Nat) : sIx n d (some (k : Int)) = min k n := by
  show (if (k : Int) < 0 then ((k : Int) + (n : Int)).toNat else min (k : Int).toNat n) = min k n
  rw [if_neg (by omega), Int.toNat_natCast]
theorem sIx_le (n d : Nat) (hd : d ≤ n) (o : Option Int) : sIx n d o ≤ n := by
  cases o with
  | none => exact hd
  | some v =>
    show (if v < 0 then (v + (n : Int)).toNat else min v.toNat n) ≤ n
    by_cases hv : v < 0
    · rw [if_pos hv]; omega
    · rw [if_neg hv]; exact Nat.min_le_right _ _
end
end HT

namespace L2
open PySem PySem.Spec PyProof.Rows

/-! ### the parts of a slice -/
abbrev TO := St → Hp → (Option Int → Hp → Prop) → Prop
/-- a slice's part (left out, or an int) -/
def PO (X : Cx) (e : Option Expr) (t : TO) : Prop :=
  ∀ (pins : List (Addr × Obj)) (s : Shared) (σ : St) (H : Hp) (Q : Option Int → Hp → Prop), Inv X pins σ H s → t σ H Q →
    wpAny (model X.prog X.w) X.A (evalPart e X.env) (fun u s' => ∃ o H', Inv X pins σ H' s' ∧ IsPart u o ∧ Q o H') X.xe s
def tNoPart : TO := fun _ H Q => Q none H
def tPart (t : TE) : TO := fun σ H Q => t σ H fun x H1 => ∃ i, x = .int i ∧ Q (some i) H1

section
variable {X : Cx} {e : Expr} {te : TE} {lo hi : Option Expr} {tl th : TO} {pos p2 : Pos}

theorem po_none : PO X none tNoPart := by
  intro pins s σ H Q I h
  rw [evalPart_none]
  exact wpAny_pure ⟨none, H, I, .none, h⟩
theorem po_some (h : PE X e te) : PO X (some e) (tPart te) := by
  intro pins s σ H Q I hw
  rw [evalPart_some]
  refine thn (h pins s σ H _ I hw) fun u s1 ⟨x, H1, I1, r1, q1⟩ => ?_
  obtain ⟨i, rfl, q⟩ := q1
  obtain ⟨t, rfl⟩ := r1
  exact ⟨some i, H1, I1, .int i t, q⟩

/-- what a slice of a value is, by values: the slice object stands at sl -/
def SlR (X : Cx) (r : V → Option Int → Option Int → Hp → VK → Prop) : Prop :=
  ∀ (pins : List (Addr × Obj)) (s : Shared) (σ : St) (H : Hp) (x : V) (v vl vu : Value) (lo hi : Option Int) (sl : Addr) (Q : VK), Inv X pins σ H s → RelV x v → s.heap.IsSliceOf sl vl vu .none → IsPart vl lo → IsPart vu hi → r x lo hi H Q →
    ∃ T id, typeLookup (.type T) "__getitem__" = pure (some (.builtin id)) ∧ s.TypeIs v T ∧ wpAny (model X.prog X.w) X.A (getItem v (.ref sl)) (EP X pins σ Q) X.xe s
def tSl (r : V → Option Int → Option Int → Hp → VK → Prop) (te : TE) (tl th : TO) : TE := fun σ H Q => te σ H fun x H1 => tl σ H1 fun l H2 => th σ H2 fun u H3 => r x l u H3 Q
/-- a[lo:hi], any a -/
theorem pe_slice {r : V → Option Int → Option Int → Hp → VK → Prop} (hr : SlR X r) (he : PE X e te) (hl : PO X lo tl) (hu : PO X hi th) : PE X (.Subscript e (.Slice lo hi none p2) pos) (tSl r te tl th) := by
  intro pins s σ H Q I h
  refine Subscript_ (thn (he pins s σ H _ I h) fun v s1 ⟨x, H1, I1, r1, q1⟩ => ?_)
  refine wpAny_Slice (thn (hl pins s1 σ H1 _ I1 q1) fun vl s2 ⟨l, H2, I2, pl, q2⟩ => thn (hu pins s2 σ H2 _ I2 q2) fun vu s3 ⟨u, H3, I3, pu, q3⟩ => ?_)
  rw [evalPart_none]
  refine wpAny_pure ?_
  have I4 : Inv X pins σ H3 { s3 with heap := s3.heap.push { cls := .type "slice", data := .fields #[vl, vu, .none] } } := I3.kept (t' := s3.toks) fun b ob q => Heap.get?_push_of_some _ q
  obtain ⟨T, id, hT, ht, hg⟩ := hr pins { s3 with heap := s3.heap.push { cls := .type "slice", data := .fields #[vl, vu, .none] } } σ H3 x v vl vu l u s3.heap.objs.size Q I4 r1 (Heap.IsSliceOf.new ..) pl pu q3
  show wpAny (model X.prog X.w) X.A (subscriptTail e (.Slice lo hi none p2) v (.ref s3.heap.objs.size)) (EP X pins σ Q) X.xe { s3 with heap := s3.heap.push { cls := .type "slice", data := .fields #[vl, vu, .none] } }
  exact tail_any (ops := [.ref s3.heap.objs.size, v]) ht hT hg (by with_unfolding_all rfl)

/-- the items of xs[lo:hi] -/
def cutV (xs : List V) (lo hi : Option Int) : List V := (xs.drop (HT.sIx xs.length 0 lo)).take (HT.sIx xs.length xs.length hi - HT.sIx xs.length 0 lo)
theorem cutV_length (xs : List V) (lo hi : Option Int) : (cutV xs lo hi).length ≤ xs.length := by
  unfold cutV
  rw [List.length_take, List.length_drop]
  omega
/-- t[lo:hi], not the whole of it (the whole would be t itself) -/
def rSlT (K : PySem.W.Frag) : V → Option Int → Option Int → Hp → VK → Prop := fun x lo hi H Q => ∃ a xs, x = .ref a ∧ SqT K H a xs ∧
  ¬ (HT.sIx xs.length 0 lo = 0 ∧ HT.sIx xs.length xs.length hi = xs.length) ∧ ∀ p, H p = none → Q (.ref p) (upd H p (.tup (cutV xs lo hi)))
/-! ### t < u, t + u -/
def rLtT (K : PySem.W.Frag) : R2 := fun x y H Q => ∃ a b ns ms, x = .ref a ∧ y = .ref b ∧ SqT K H a (ns.map V.int) ∧ SqT K H b (ms.map V.int) ∧ Q (.bl (HT.lexLt ns ms)) H
/-- t + u, t not empty: u empty gives t itself -/
def rCatT (K : PySem.W.Frag) : R2 := fun x y H Q => ∃ a b xs ys, x = .ref a ∧ y = .ref b ∧ SqT K H a xs ∧ SqT K H b ys ∧ xs ≠ [] ∧ xs.length + ys.length ≤ sizeLine ∧
  (ys = [] → Q (.ref a) H) ∧ (ys ≠ [] → ∀ p, H p = none → Q (.ref p) (upd H p (.tup (xs ++ ys))))
end
end L2

namespace L2
open PySem PySem.Spec PyProof.Rows

/-! ### places -/
/-- the place that an index of any sign means -/
def ixN (n : Nat) (i : Int) : Option Nat := if 0 ≤ i then (if i < n then some i.toNat else none) else if -(n : Int) ≤ i then some (i + n).toNat else none
def atI {α : Type} (xs : List α) (i : Int) : Option α := (ixN xs.length i).bind fun j => xs[j]?
theorem ixN_seq {n : Nat} {i : Int} {j : Nat} (h : ixN n i = some j) : seqIndex? i n = some j ∧ j < n ∧ -(n : Int) ≤ i ∧ i < n := by
  unfold ixN at h
  by_cases h0 : 0 ≤ i
  · rw [if_pos h0] at h
    by_cases h1 : i < n
    · rw [if_pos h1] at h
      have e : i.toNat = j := Option.some.inj h
      exact ⟨by rw [seqIndex_of h0 h1, e], by omega, by omega, h1⟩
    · rw [if_neg h1] at h; cases h
  · rw [if_neg h0] at h
    by_cases h1 : -(n : Int) ≤ i
    · rw [if_pos h1] at h
      have e : (i + n).toNat = j := Option.some.inj h
      exact ⟨by rw [seqIndex_neg (by omega) h1, e], by omega, h1, by omega⟩
    · rw [if_neg h1] at h; cases h
theorem atI_get {α : Type} {xs : List α} {i : Int} {v : α} (h : atI xs i = some v) : ∃ j, seqIndex? i xs.length = some j ∧ xs[j]? = some v ∧ j < xs.length ∧ -(xs.length : Int) ≤ i ∧ i < xs.length := by
  unfold atI at h
  cases e : ixN xs.length i with
  | none => rw [e] at h; cases h
  | some j =>
    rw [e] at h
    obtain ⟨h1, h2, h3, h4⟩ := ixN_seq e
    exact ⟨j, h1, h, h2, h3, h4⟩
theorem atI_nat {α : Type} {xs : List α} {j : Nat} {v : α} (h : xs[j]? = some v) : atI xs (j : Int) = some v := by
  have hj : j < xs.length := (List.getElem?_eq_some_iff.mp h).1
  have e : ixN xs.length (j : Int) = some j := by
    unfold ixN
    rw [if_pos (by omega), if_pos (by omega)]; simp
  unfold atI; rw [e]; exact h
/-! ### what may be subscripted -/
/-- what stands as an index of a plain subscript -/
def PlainIx (b : Expr) : Prop := ∀ o i, subscripted b false o i = operate [o, i] (getItem o i)
/-- a subscript by values -/
def IxR (X : Cx) (r : R2) : Prop :=
  ∀ (value slice : Expr) (pins : List (Addr × Obj)) (s : Shared) (σ : St) (H : Hp) (x y : V) (v u : Value) (Q : VK), Inv X pins σ H s → RelV x v → RelV y u → r x y H Q →
    subscripted slice false v u = operate [v, u] (getItem v u) → wpAny (model X.prog X.w) X.A (subscriptTail value slice v u) (EP X pins σ Q) X.xe s
/-- a call of a builtin's method by values: the receiver, the arguments -/
def MtR (X : Cx) (id : String) (r : V → List V → Hp → VK → Prop) : Prop :=
  ∀ (pins : List (Addr × Obj)) (s : Shared) (σ : St) (H : Hp) (x : V) (xs : List V) (v : Value) (us : List Value) (Q : VK), Inv X pins σ H s → RelV x v → Vals xs us → r x xs H Q →
    wpAny (model X.prog X.w) X.A (call (.builtin id) (v :: us)) (EP X pins σ Q) X.xe s
section
variable {X : Cx} {a b : Expr} {ta tb : TE} {pos : Pos}
/-- a[b] -/
theorem pe_ix {r : R2} (hr : IxR X r) (ha : PE X a ta) (hb : PE X b tb) (hs : PlainIx b) : PE X (.Subscript a b pos) (tOp r ta tb) := by
  intro pins s σ H Q I h
  exact Subscript_ (binT ha hb I h fun v u s2 x y H2 I2 rx ry q => hr a b pins s2 σ H2 x y v u Q I2 rx ry q (hs _ _))

def rIxL (K : PySem.W.Frag) : R2 := fun x y H Q => ∃ p xs i v, x = .ref p ∧ y = .int i ∧ SqL K H p xs ∧ atI xs i = some v ∧ Q v H
def rIxT (K : PySem.W.Frag) : R2 := fun x y H Q => ∃ p xs i v, x = .ref p ∧ y = .int i ∧ SqT K H p xs ∧ atI xs i = some v ∧ Q v H
def rIxS : R2 := fun x y H Q => ∃ z i c, x = .str z ∧ y = .int i ∧ z.length ≤ sizeLine ∧ atI z.cps.toList i = some c ∧ Q (.str ⟨#[c]⟩) H
theorem ix_list : IxR X (rIxL X.K) := by
  intro value slice pins s σ H x y v u Q I rx ry h hs
  obtain ⟨p, xs, i, z, rfl, rfl, hq, he, q⟩ := h
  cases rx
  obtain ⟨t, rfl⟩ := ry
  obtain ⟨its, r, pl, hz⟩ := I.list hq
  obtain ⟨j, h1, h2, h3, h4, h5⟩ := atI_get he
  obtain ⟨w, ew, rw'⟩ := r.get h2
  have hl := r.length
  have hn := line63
  have fin : EP X pins σ Q w s := ⟨z, H, I, rw', q⟩
  by_cases h0 : 0 ≤ i
  · have hj : i.toNat = j := by
      rw [seqIndex_of h0 h5] at h1
      exact Option.some.inj h1
    exact item_listR pl.isList h0 (by omega) (by rw [hj]; simpa using ew) fin hs
  · have hj : (i + (its.toArray.size : Int)).toNat = j := by
      rw [seqIndex_neg (by omega) h4] at h1
      rw [List.size_toArray, ← hl]
      exact Option.some.inj h1
    exact subscriptTail_builtinR (x := w) pl.isList.typeIs slot_list_getitem.lookup
      (wpAny_getItem_list_neg (Q := fun r s' => r = w ∧ EP X pins σ Q r s') pl.isList (by omega) (by rw [List.size_toArray] <;> omega) (by omega) (by rw [hj]; simpa using ew) ⟨rfl, fin⟩) hs
theorem ix_tup : IxR X (rIxT X.K) := by
  intro value slice pins s σ H x y v u Q I rx ry h hs
  obtain ⟨p, xs, i, z, rfl, rfl, hq, he, q⟩ := h
  cases rx
  obtain ⟨t, rfl⟩ := ry
  obtain ⟨its, r, pl, hz⟩ := I.tuple hq
  obtain ⟨j, h1, h2, h3, h4, h5⟩ := atI_get he
  obtain ⟨w, ew, rw'⟩ := r.get h2
  have hl := r.length
  have hn := line63
  have fin : EP X pins σ Q w s := ⟨z, H, I, rw', q⟩
  exact subscriptTail_builtinR (x := w) pl.typeIs slot_tuple_getitem.lookup
    (getItem_tuple (j := j) (Q := fun r s' => r = w ∧ EP X pins σ Q r s') pl (by omega) (by omega) (by rw [List.size_toArray, ← hl]; exact h1) (by simpa using ew) ⟨rfl, fin⟩) hs
theorem ix_str : IxR X rIxS := by
  intro value slice pins s σ H x y v u Q I rx ry h hs
  obtain ⟨z, i, c, rfl, rfl, hz, he, q⟩ := h
  obtain ⟨t, rfl⟩ := rx
  obtain ⟨t', rfl⟩ := ry
  obtain ⟨j, h1, h2, h3, h4, h5⟩ := atI_get he
  have hl : z.cps.toList.length = z.length := by simp [Str.length]
  rw [hl] at h1 h4 h5
  have hn := line63
  exact tail_any (typeIs_str s z t) slot_str_getitem.lookup (getItem_str (c := c) (by
    have e1 : decide (i < -(2 ^ 63 : Int)) = false := decide_eq_false (by omega)
    have e2 : decide (i ≥ 2 ^ 63) = false := decide_eq_false (by omega)
    rw [e1, e2, Bool.or_false]) (by rw [h1]; simpa using h2) ⟨.str ⟨#[c]⟩, H, I.tok _, ⟨_, rfl⟩, q⟩) hs
/-- list, tuple or str -/
def rIx (K : PySem.W.Frag) : R2 := fun x y H Q => rIxL K x y H Q ∨ rIxT K x y H Q ∨ rIxS x y H Q
/-! ### xs[i] = v, any sign -/
/-- the list's object behind a store -/
theorem mapSeq_set (its : List Value) (n j : Nat) (u : Value) : Obj.mapSeq (·.setIfInBounds j u) { cls := .type "list", data := .seq its.toArray n } = { cls := .type "list", data := .seq (its.set j u).toArray n } := by
  simp [Obj.mapSeq]
theorem Inv.lst {pins : List (Addr × Obj)} {σ : St} {H : Hp} {s : Shared} {p : Addr} {xs : List V} (I : Inv X pins σ H s) (h : H p = some (.lst xs)) :
    ∃ (its : List Value) (n : Nat), Vals xs its ∧ s.heap.get? p = some { cls := .type "list", data := .seq its.toArray n } ∧ xs.length ≤ sizeLine := by
  obtain ⟨z, its, n, r, e⟩ := I.hok p _ h
  exact ⟨its, n, r, e, z⟩
/-- the list at p is written by an update of its object -/
theorem Inv.lstUpd {pins : List (Addr × Obj)} {σ : St} {H : Hp} {s : Shared} {p : Addr} {xs ys : List V} {its its' : List Value} {n n' : Nat} {f : Obj → Obj} (I : Inv X pins σ H s) (h : H p = some (.lst xs))
    (ho : s.heap.get? p = some { cls := .type "list", data := .seq its.toArray n }) (hf : f { cls := .type "list", data := .seq its.toArray n } = { cls := .type "list", data := .seq its'.toArray n' }) (r : Vals ys its') (hz : ys.length ≤ sizeLine) (t : Nat) :
    Inv X pins σ (upd H p (.lst ys)) { s with heap := s.heap.update p f, toks := t } := by
  have e : (s.heap.update p f).get? p = some { cls := .type "list", data := .seq its'.toArray n' } := by
    rw [Heap.get?_update_self f ho (by rw [hf] <;> rfl), hf]
  refine I.write (x := p) (e := p) (by rw [h]; trivial) (.inl rfl) (fun b u hb q => (Heap.get?_update_other _ _ (Ne.symm hb)).trans q) ⟨_, e⟩ ?_
  exact ⟨hz, its', n', r, e⟩
def rSetL : V → V → V → Hp → (Hp → Prop) → Prop := fun o i v H Q => ∃ p xs k j, o = .ref p ∧ i = .int k ∧ H p = some (.lst xs) ∧ ixN xs.length k = some j ∧ Q (upd H p (.lst (xs.set j v)))
theorem set_list : PSet X rSetL := by
  intro pins s σ H o i v ov iv u Q I ro ri rv h
  obtain ⟨p, xs, k, j, rfl, rfl, hp, hj, q⟩ := h
  cases ro
  obtain ⟨t, rfl⟩ := ri
  obtain ⟨its, n, r, ho, hz⟩ := I.lst hp
  obtain ⟨h1, h2, h3, h4⟩ := ixN_seq hj
  have hl := r.length
  have hn := line63
  have I' : Inv X pins σ (upd H p (.lst (xs.set j v))) { s with heap := s.heap.update p (Obj.mapSeq (·.setIfInBounds j u)) } :=
    I.lstUpd hp ho (mapSeq_set its n j u) (r.set rv j) (by rw [List.length_set]; exact hz) s.toks
  by_cases h0 : 0 ≤ k
  · have hk : k.toNat = j := by
      rw [seqIndex_of h0 h4] at h1
      exact Option.some.inj h1
    exact PySem.W.ki_setAt ho h0 (by omega) (by rw [List.size_toArray, ← hl]; exact h4) (by rw [hk]; exact ⟨_, I', q⟩)
  · have hk : (k + (its.toArray.size : Int)).toNat = j := by
      rw [seqIndex_neg (by omega) h3] at h1
      rw [List.size_toArray, ← hl]
      exact Option.some.inj h1
    exact PySem.W.ki_setBack ho (by omega) (by rw [List.size_toArray, ← hl]; exact h3) (by omega) (by rw [hk]; exact ⟨_, I', q⟩)

/-! ### slices -/
theorem slice_bounds (lo hi : Option Int) (n : Nat) : (sliceBounds lo hi none n).1 = ((HT.sIx n 0 lo : Nat) : Int) ∧ (sliceBounds lo hi none n).2.1 = ((HT.sIx n n hi : Nat) : Int) ∧ (sliceBounds lo hi none n).2.2 = 1 := by
  refine ⟨?_, ?_, rfl⟩
  · cases lo with
    | none => simp [sliceBounds, HT.sIx]
    | some i =>
      simp only [sliceBounds, HT.sIx, Option.getD_none, show (1 : Int) > 0 by decide, if_true]
      by_cases h : i < 0
      · simp only [h, if_true] <;> omega
      · simp only [h, if_false] <;> omega
  · cases hi with
    | none => simp [sliceBounds, HT.sIx]
    | some i =>
      simp only [sliceBounds, HT.sIx, Option.getD_none, show (1 : Int) > 0 by decide, if_true]
      by_cases h : i < 0
      · simp only [h, if_true] <;> omega
      · simp only [h, if_false] <;> omega
theorem slicePick_cut (its : List Value) (lo hi : Option Int) : slicePick its.toArray lo hi none = ((its.drop (HT.sIx its.length 0 lo)).take (HT.sIx its.length its.length hi - HT.sIx its.length 0 lo)).toArray := by
  obtain ⟨h1, h2, h3⟩ := slice_bounds lo hi its.toArray.size
  unfold slicePick
  rw [h1, h2, h3]
  simp only [sliceRange_one, pick_run, List.size_toArray] <;> rfl
/-- xs[lo:hi] of a list: a new list -/
def rSlL (K : PySem.W.Frag) : V → Option Int → Option Int → Hp → VK → Prop := fun x lo hi H Q => ∃ a xs, x = .ref a ∧ SqL K H a xs ∧ ∀ p, H p = none → Q (.ref p) (upd H p (.lst (cutV xs lo hi)))
theorem sl_list : SlR X (rSlL X.K) := by
  intro pins s σ H x v vl vu lo hi sl Q I rx hs pl pu h
  obtain ⟨a, xs, rfl, hx, q⟩ := h
  cases rx
  obtain ⟨its, r, ht, hz⟩ := I.list hx
  have hlen := r.length
  refine ⟨"list", _, slot_list_getitem.lookup, ht.isList.typeIs, ?_⟩
  refine wpAny_getItem_list_slice ht.isList hs pl pu .none (by simp) ?_ (by rw [List.size_toArray] <;> omega)
  rw [slicePick_cut, ← hlen]
  refine ⟨.ref s.heap.objs.size, _, I.laid (t' := s.toks) (o := .lst (cutV xs lo hi)) (fun b ob q => Heap.get?_push_of_some _ q) (Nat.le_refl _) ?_, rfl, q _ (I.hok.fresh (Nat.le_refl _))⟩
  exact ⟨Nat.le_trans (cutV_length xs lo hi) hz, _, 0, (r.drop (HT.sIx xs.length 0 lo)).take (HT.sIx xs.length xs.length hi - HT.sIx xs.length 0 lo), Heap.get?_push_size _ rfl⟩

/-! ### in, not in: flat items -/
def flatV : V → Bool
  | .non => true
  | .bl _ => true
  | .int _ => true
  | .str _ => true
  | _ => false
/-- == of flat values -/
def eqV : V → V → Bool
  | .non, .non => true
  | .bl a, .bl b => a == b
  | .bl a, .int b => (if a then 1 else 0) == b
  | .int a, .bl b => a == (if b then 1 else 0)
  | .int a, .int b => a == b
  | .str a, .str b => a == b
  | _, _ => false
theorem eqAt_V {A : Around} {s : Shared} {y x : V} {u v : Value} (ry : RelV y u) (rx : RelV x v) (fy : flatV y = true) (fx : flatV x = true) : SeqAt.EqAt A s u v (eqV y x) := by
  cases y with
  | non =>
    cases ry
    cases x with
    | non => cases rx; exact SeqAt.EqAt.same _
    | bl b => cases rx; exact SeqAt.EqAt.none_bool b
    | int b => obtain ⟨t, rfl⟩ := rx; exact SeqAt.EqAt.none_int b t
    | str b => obtain ⟨t, rfl⟩ := rx; exact SeqAt.EqAt.none_str b t
    | _ => exact absurd (show false = true from fx) Bool.false_ne_true
  | bl a =>
    cases ry
    cases x with
    | non => cases rx; exact SeqAt.EqAt.bool_none a
    | bl b => cases rx; exact SeqAt.EqAt.bool_bool a b
    | int b => obtain ⟨t, rfl⟩ := rx; exact SeqAt.EqAt.bool_int a b t
    | str b => obtain ⟨t, rfl⟩ := rx; exact SeqAt.EqAt.bool_str a b t
    | _ => exact absurd (show false = true from fx) Bool.false_ne_true
  | int a =>
    obtain ⟨t', rfl⟩ := ry
    cases x with
    | non => cases rx; exact SeqAt.EqAt.int_none a t'
    | bl b => cases rx; exact SeqAt.EqAt.int_bool a t' b
    | int b => obtain ⟨t, rfl⟩ := rx; exact SeqAt.EqAt.int_int a t' b t
    | str b => obtain ⟨t, rfl⟩ := rx; exact SeqAt.EqAt.int_str a t' b t
    | _ => exact absurd (show false = true from fx) Bool.false_ne_true
  | str a =>
    obtain ⟨t', rfl⟩ := ry
    cases x with
    | non => cases rx; exact SeqAt.EqAt.str_none a t'
    | bl b => cases rx; exact SeqAt.EqAt.str_bool a t' b
    | int b => obtain ⟨t, rfl⟩ := rx; exact SeqAt.EqAt.str_int a t' b t
    | str b => obtain ⟨t, rfl⟩ := rx; exact SeqAt.EqAt.str_str a t' b t
    | _ => exact absurd (show false = true from fx) Bool.false_ne_true
  | _ => exact absurd (show false = true from fy) Bool.false_ne_true
/-- the items' answers, read off the values (a value's own answer does not lean on its token) -/
def eqU (x : V) (u : Value) : Bool := match u with
  | .none => eqV .non x
  | .bool b => eqV (.bl b) x
  | .int i _ => eqV (.int i) x
  | .str z _ => eqV (.str z) x
  | _ => false
theorem eqU_of {x y : V} {u : Value} (r : RelV y u) (f : flatV y = true) : eqU x u = eqV y x := by
  cases y with
  | non => cases r; rfl
  | bl b => cases r; rfl
  | int i => obtain ⟨t, rfl⟩ := r; rfl
  | str z => obtain ⟨t, rfl⟩ := r; rfl
  | _ => exact absurd (show false = true from f) Bool.false_ne_true
theorem any_eqU {x : V} : ∀ {xs : List V} {us : List Value}, Vals xs us → xs.all flatV = true → us.any (eqU x) = xs.any fun y => eqV y x
  | _, _, .nil, _ => rfl
  | y :: xs, u :: us, .cons r t, f => by
    rw [List.all_cons, Bool.and_eq_true] at f
    rw [List.any_cons, List.any_cons, eqU_of r f.1, any_eqU t f.2]
theorem mem_eqAt {A : Around} {s : Shared} {x : V} {v : Value} (rx : RelV x v) (fx : flatV x = true) : ∀ {xs : List V} {us : List Value}, Vals xs us → xs.all flatV = true → ∀ u ∈ us, SeqAt.EqAt A s u v (eqU x u)
  | _, _, .nil, _ => fun u hu => by cases hu
  | y :: xs, u :: us, .cons r t, f => fun u' hu => by
    rw [List.all_cons, Bool.and_eq_true] at f
    rcases List.mem_cons.mp hu with rfl | hu
    · rw [eqU_of r f.1]; exact eqAt_V r rx f.1 fx
    · exact mem_eqAt rx fx t f.2 u' hu
def inV (x : V) (xs : List V) : Bool := xs.any fun y => eqV y x
/-- x in a list or tuple of flat items -/
def rIn (K : PySem.W.Frag) (neg : Bool) : R2 := fun x y H Q => ∃ p xs, y = .ref p ∧ (SqL K H p xs ∨ SqT K H p xs) ∧ flatV x = true ∧ xs.all flatV = true ∧ Q (.bl (if neg then !inV x xs else inV x xs)) H
theorem op_in_seq : OpR X (compareOp .In) (rIn X.K false) := by
  intro pins s σ H x y v u Q I rx ry h
  obtain ⟨p, xs, rfl, hq, fx, fs, q⟩ := h
  cases ry
  rcases hq with hq | hq
  · obtain ⟨its, r, pl, hz⟩ := I.list hq
    refine SeqAt.in_listAt (eqU x) pl.isList (fun w hw => mem_eqAt rx fx r fs w (by simpa using hw)) ⟨.bl _, H, I, rfl, ?_⟩
    rw [show its.toArray.any (eqU x) = its.any (eqU x) by simp, any_eqU r fs]
    exact q
  · obtain ⟨its, r, pl, hz⟩ := I.tuple hq
    refine SeqAt.in_tupleAt (eqU x) pl (fun w hw => mem_eqAt rx fx r fs w (by simpa using hw)) ⟨.bl _, H, I, rfl, ?_⟩
    rw [show its.toArray.any (eqU x) = its.any (eqU x) by simp, any_eqU r fs]
    exact q
/-! ### len, list(x), tuple(x) of any list or tuple that is read -/
theorem call_len_seq : CallR X (.builtin "len") (fun xs H Q => ∃ p ys, xs = [.ref p] ∧ (SqL X.K H p ys ∨ SqT X.K H p ys) ∧ Q (.int ys.length) H) := by
  intro pins s σ H xs us Q I r h
  obtain ⟨p, ys, rfl, hq, q⟩ := h
  obtain ⟨u, rfl, rx⟩ := vals1 r
  cases rx
  have hn := line63
  rcases hq with hq | hq
  · obtain ⟨its, r', pl, hz⟩ := I.list hq
    have hlen := r'.length
    exact Calls.call_len_list pl.isList (by simp only [List.size_toArray] <;> omega) ⟨.int ys.length, H, I.tok _, ⟨s.toks + 1, by rw [List.size_toArray, hlen]⟩, q⟩
  · obtain ⟨its, r', pl, hz⟩ := I.tuple hq
    have hlen := r'.length
    exact len_tuple pl (by simp only [List.size_toArray] <;> omega) ⟨.int ys.length, H, I.tok _, ⟨s.toks + 1, by rw [List.size_toArray, hlen]⟩, q⟩
theorem call_len_str : CallR X (.builtin "len") (fun xs H Q => ∃ z, xs = [.str z] ∧ z.length ≤ sizeLine ∧ Q (.int z.length) H) := by
  intro pins s σ H xs us Q I r h
  obtain ⟨z, rfl, hz, q⟩ := h
  obtain ⟨u, rfl, t, rfl⟩ := vals1 r
  have hn := line63
  exact len_str (by omega) ⟨.int z.length, H, I.tok _, ⟨_, rfl⟩, q⟩
theorem call_list_of : CallR X (.type "list") (fun xs H Q => ∃ p ys, xs = [.ref p] ∧ (SqL X.K H p ys ∨ SqT X.K H p ys) ∧ ∀ l, H l = none → Q (.ref l) (upd H l (.lst ys))) := by
  intro pins s σ H xs us Q I r h
  obtain ⟨p, ys, rfl, hq, q⟩ := h
  obtain ⟨u, rfl, rx⟩ := vals1 r
  cases rx
  have fin : ∀ (its : List Value), Vals ys its → ys.length ≤ sizeLine → ∀ (h' : Heap) (c' : Nat), (∀ b o', s.heap.get? b = some o' → h'.get? b = some o') →
      h'.get? s.heap.objs.size = some { cls := .type "list", dict := none, data := .seq its.toArray c', slots := #[] } → EP X pins σ Q (.ref s.heap.objs.size) { s with heap := h' } := fun its r' hz h' c' kp e =>
    ⟨.ref s.heap.objs.size, _, I.laid (t' := s.toks) kp (Nat.le_refl _) (show ObjOk X.prog X.w _ h' _ (.lst ys) from ⟨hz, its, c', r', e⟩), rfl, q _ (I.hok.fresh (Nat.le_refl _))⟩
  rcases hq with hq | hq
  · obtain ⟨its, r', pl, hz⟩ := I.list hq
    have hlen := r'.length
    obtain ⟨o, ho, hc, n, hd⟩ := pl.isList
    exact call_list_seq p (.inl rfl) ho hc hd (fun h' c' kp e => fin its r' hz h' c' kp e) (by simp only [List.size_toArray] <;> omega)
  · obtain ⟨its, r', pl, hz⟩ := I.tuple hq
    have hlen := r'.length
    obtain ⟨o, ho, hc, n, hd⟩ := pl
    exact call_list_seq p (.inr rfl) ho hc hd (fun h' c' kp e => fin its r' hz h' c' kp e) (by simp only [List.size_toArray] <;> omega)
theorem call_tuple_of : CallR X (.type "tuple") (fun xs H Q => ∃ p ys, xs = [.ref p] ∧ ((SqL X.K H p ys ∧ ∀ l, H l = none → Q (.ref l) (upd H l (.tup ys))) ∨ (SqT X.K H p ys ∧ Q (.ref p) H))) := by
  intro pins s σ H xs us Q I r h
  obtain ⟨p, ys, rfl, h⟩ := h
  obtain ⟨u, rfl, rx⟩ := vals1 r
  cases rx
  rcases h with ⟨hq, q⟩ | ⟨hq, q⟩
  · obtain ⟨its, r', pl, hz⟩ := I.list hq
    have hlen := r'.length
    refine call_tuple_list pl.isList (fun h' kp => ?_) (by simp only [List.size_toArray] <;> omega)
    have I1 : Inv X pins σ H { s with heap := h' } := I.kept (t' := s.toks) kp
    have I2 : Inv X pins σ (upd H h'.objs.size (.tup ys)) { s with heap := h'.push { cls := .type "tuple", data := .seq its.toArray } } :=
      I1.laid (t' := s.toks) (fun b o e => Heap.get?_push_of_some _ e) (Nat.le_refl _) (show ObjOk X.prog X.w _ _ _ (.tup ys) from ⟨hz, its, r', IsTup.new _ _⟩)
    exact ⟨.ref h'.objs.size, _, I2, rfl, q _ (I1.hok.fresh (Nat.le_refl _))⟩
  · obtain ⟨its, r', pl, hz⟩ := I.tuple hq
    exact call_tuple_same pl ⟨.ref p, H, I, rfl, q⟩

/-! ### the call of a builtin's method: o.m(..) -/
/-- the value is of that builtin type -/
def tyV (K : PySem.W.Frag) (T : String) (x : V) (H : Hp) : Prop := match x with
  | .str _ => T = "str"
  | .int _ => T = "int"
  | .ref p => (T = "list" ∧ ∃ xs, SqL K H p xs) ∨ (T = "tuple" ∧ ∃ o, K.lookup p = some o ∧ o.cls = .type "tuple" ∧ o.dict = none) ∨
      (T = "dict" ∧ ((∃ kvs, H p = some (.dK kvs)) ∨ ∃ kvs, H p = some (.dT kvs))) ∨ (T = "set" ∧ ∃ S n, H p = some (.set S n))
  | _ => False
theorem tyV_is {pins : List (Addr × Obj)} {σ : St} {H : Hp} {s : Shared} {T : String} {x : V} {v : Value} (I : Inv X pins σ H s) (r : RelV x v) (ty : tyV X.K T x H) :
    s.TypeIs v T ∧ ∀ a, v = .ref a → ∃ ob, s.heap.get? a = some ob ∧ ob.dict = none := by
  cases x with
  | str z =>
    obtain ⟨t, rfl⟩ := r
    cases (show T = "str" from ty)
    exact ⟨typeIs_str s z t, fun _ e => nomatch e⟩
  | int i =>
    obtain ⟨t, rfl⟩ := r
    cases (show T = "int" from ty)
    exact ⟨typeIs_int s i t, fun _ e => nomatch e⟩
  | ref p =>
    cases r
    rcases ty with ⟨rfl, xs, hq⟩ | ⟨rfl, o, hk, hc, hd⟩ | ⟨rfl, hk⟩ | ⟨rfl, S, n, hk⟩
    · obtain ⟨its, _, pl, _⟩ := I.list hq
      refine ⟨pl.isList.typeIs, fun a e => ?_⟩
      cases e
      obtain ⟨o, n, e, c, hd, _⟩ := pl
      exact ⟨o, e, hd⟩
    · refine ⟨⟨o, I.kIn p o hk, hc⟩, fun a e => ?_⟩
      cases e
      exact ⟨o, I.kIn _ o hk, hd⟩
    · have z : ∃ o, s.heap.get? p = some o ∧ o.ExactDict := by
        rcases hk with ⟨kvs, hk⟩ | ⟨kvs, hk⟩
        · obtain ⟨_, _, _, _, o, _, _, e, ex, _⟩ := I.hok p _ hk
          exact ⟨o, e, ex⟩
        · obtain ⟨_, _, _, _, o, _, _, e, ex, _⟩ := I.hok p _ hk
          exact ⟨o, e, ex⟩
      obtain ⟨o, e, ex⟩ := z
      refine ⟨⟨o, e, ex.1⟩, fun a e2 => ?_⟩
      cases e2
      exact ⟨o, e, ex.2.1⟩
    · obtain ⟨o, _, _, _, e, ex, _⟩ := I.hok p _ hk
      refine ⟨⟨o, e, ex.1⟩, fun a e2 => ?_⟩
      cases e2
      exact ⟨o, e, ex.2.1⟩
  | _ => exact False.elim ty
def tBM0 (K : PySem.W.Frag) (T : String) (r : V → List V → Hp → VK → Prop) (to : TE) : TE := fun σ H Q => to σ H fun x H1 => tyV K T x H1 ∧ r x [] H1 Q
def tBM (K : PySem.W.Frag) (T : String) (r : V → List V → Hp → VK → Prop) (to : TE) (t : TA) : TE := fun σ H Q => to σ H fun x H1 => tyV K T x H1 ∧ t σ H1 fun xs H2 => r x xs H2 Q
variable {o e : Expr} {es : List Expr} {to : TE} {t : TA} {name : Str} {apos cpos : Pos} {T id : String} {r : V → List V → Hp → VK → Prop}
theorem pe_bm (pa : PlainAttrs T) (slot : Slot T name id) (hty : typeOf (.builtin id) = pure (.type "method_descriptor")) (hm : MtR X id r) (ho : PE X o to) (ha : PA X (e :: es) t)
    (hbase : attributeBase o name X.env (eval o X.env) = eval o X.env := by rfl)
    (hfew : ((backTo cpos (starEach (e :: es) X.env)).all (fun x => !x.1) && (backToKw cpos (keywordEach [] X.env)).all (fun x => x.1.isSome)
      && decide ((e :: es).length + ([] : List Keyword).length + (if ([] : List Keyword).isEmpty then 0 else 1) < 30)) = true := by rfl)
    (hline : (apos.endLine == cpos.line) = true := by rfl) (hs : starEach (e :: es) X.env = (false, eval e X.env) :: starEach es X.env := by rfl) (hplain : (backTo cpos (starEach es X.env)).any (·.1) = false := by rfl) :
    PE X (.Call (.Attribute o name apos) (e :: es) [] cpos) (tBM X.K T r to t) := by
  intro pins s σ H Q I h
  refine wpAny_Call_method_late hbase hfew hline rfl (thn (ho pins s σ H _ I h) fun v s1 ⟨x, H1, I1, r1, ty, q1⟩ => ?_)
  obtain ⟨h1, h2⟩ := tyV_is I1 r1 ty
  refine ⟨T, id, pa, slot, hty, h1, h2, ?_⟩
  have hA := ha cpos pins s1 σ H1 _ I1 q1
  rw [hs] at hA ⊢
  refine Calls.callWith_builtin (by show (false || (backTo cpos (starEach es X.env)).any (·.1)) = false; rw [hplain] <;> rfl) (Calls.evalArgs_plain ?_)
  exact thn hA fun us s2 ⟨vs, H2, I2, r2, q2⟩ => hm pins s2 σ H2 x vs v us Q I2 r1 r2 q2
/- xs.append(e), list.index on a module's tuple .. are MtR facts of 06m -/
end
end L2

namespace L2
open PySem PySem.Spec PyProof.Rows

def MtM (X : Cx) (id : String) (r : V → List V → Hp → VK → Prop) : Prop :=
  ∀ (pins : List (Addr × Obj)) (s : Shared) (σ : St) (H : Hp) (x : V) (xs : List V) (v : Value) (us : List Value) (Q : VK), Inv X pins σ H s → RelV x v → Vals xs us → r x xs H Q →
    wpAny (model X.prog X.w) X.A (call (.builtin id) (v :: us)) (EP X pins σ Q) X.xe s

/-! ### lists of values -/
theorem Vals.one : ∀ {x : V} {us : List Value}, Vals [x] us → ∃ u, us = [u] ∧ RelV x u
  | _, _, .cons r .nil => ⟨_, rfl, r⟩
theorem Vals.dropLast {xs : List V} {us : List Value} (h : Vals xs us) : Vals xs.dropLast us.dropLast := by
  induction h with
  | nil => exact .nil
  | cons r t ih =>
    cases t with
    | nil => exact .nil
    | cons q t' => exact .cons r ih
section
variable {X : Cx} {pins : List (Addr × Obj)} {σ : St} {H : Hp} {s : Shared} {l b : Addr} {xs ys zs : List V}

/-! ### the two steps: a tracked list is rewritten, a new list is laid -/
theorem Inv.lset {its its' : List Value} {n : Nat} {f : Array Value → Array Value} {t' : Nat} (I : Inv X pins σ H s) (hH : H l = some (.lst xs))
    (e : s.heap.get? l = some { cls := .type "list", data := .seq its.toArray n }) (hf : f its.toArray = its'.toArray) (hv : Vals ys its') (hz : ys.length ≤ sizeLine) :
    Inv X pins σ (upd H l (.lst ys)) { s with heap := s.heap.update l (Obj.mapSeq f), toks := t' } := by
  have q := PySem.IsL.update e f
  rw [hf] at q
  refine I.write (x := l) (e := l) (by rw [hH]; exact trivial) (.inl rfl) (fun b' u hb hu => (Heap.get?_update_other s.heap (Obj.mapSeq f) (Ne.symm hb)).trans hu) ⟨_, q⟩ ?_
  exact ⟨hz, its', _, hv, q⟩
theorem Inv.lnew {its : List Value} {t' : Nat} (I : Inv X pins σ H s) (hv : Vals ys its) (hz : ys.length ≤ sizeLine) :
    Inv X pins σ (upd H s.heap.objs.size (.lst ys)) { s with heap := s.heap.push { cls := .type "list", data := .seq its.toArray }, toks := t' } :=
  I.laid (fun _ _ q => Heap.get?_push_of_some _ q) (Nat.le_refl _) ⟨hz, its, 0, hv, Heap.get?_push_size _ rfl⟩
theorem Inv.fresh (I : Inv X pins σ H s) : H s.heap.objs.size = none := I.hok.fresh (Nat.le_refl _)
theorem Inv.lstM (I : Inv X pins σ H s) (hH : H l = some (.lst xs)) : xs.length ≤ sizeLine ∧ ∃ (its : List Value) (n : Nat), Vals xs its ∧ xs.length = its.length ∧ s.heap.get? l = some { cls := .type "list", data := .seq its.toArray n } := by
  obtain ⟨z, its, n, r, e⟩ := I.hok l _ hH
  exact ⟨z, its, n, r, r.length, e⟩

theorem notLongL {n : Nat} (h : n ≤ sizeLine) : Builtin.List.listTooLong n = false := by
  unfold Builtin.List.listTooLong
  exact decide_eq_false (by omega)
end

section
variable {X : Cx}

/-! ### methods -/
def rAppend : V → List V → Hp → VK → Prop := fun x vs H Q => ∃ l xs y, x = .ref l ∧ vs = [y] ∧ H l = some (.lst xs) ∧ xs.length < sizeLine ∧ Q .non (upd H l (.lst (xs ++ [y])))
theorem mt_append : MtM X "list.append" rAppend := by
  intro pins s σ H x vs v us Q I rx rv h
  obtain ⟨l, xs, y, rfl, rfl, hH, hz, q⟩ := h
  cases rx
  obtain ⟨u, rfl, ru⟩ := rv.one
  obtain ⟨z, its, n, r, hl, e⟩ := I.lstM hH
  refine call_meets F.slot_list_append ⟨_, e, rfl⟩ F.entry_list_append (F.args_list_append_2 _ _) (PySem.list_append l its.toArray n u (by rw [List.size_toArray]; omega)) ⟨e, ?_⟩
  refine ⟨.non, _, I.lset (its' := its ++ [u]) hH e (by simp) (r.append (.cons ru .nil)) ?_, rfl, q⟩
  rw [List.length_append, List.length_singleton]
  omega

def rExtend : V → List V → Hp → VK → Prop := fun x vs H Q => ∃ l b xs zs, x = .ref l ∧ vs = [.ref b] ∧ H l = some (.lst xs) ∧ H b = some (.lst zs) ∧ xs.length + zs.length ≤ sizeLine ∧ Q .non (upd H l (.lst (xs ++ zs)))
theorem mt_extend : MtM X "list.extend" rExtend := by
  intro pins s σ H x vs v us Q I rx rv h
  obtain ⟨l, b, xs, zs, rfl, rfl, hH, hB, hz, q⟩ := h
  cases rx
  obtain ⟨u, rfl, ru⟩ := rv.one
  cases ru
  obtain ⟨z, its, n, r, hl, e⟩ := I.lstM hH
  obtain ⟨z2, its2, n2, r2, hl2, e2⟩ := I.lstM hB
  have hsz : its.toArray.size + its2.toArray.size ≤ sizeLine := by rw [List.size_toArray, List.size_toArray]; omega
  have hlong : ¬ (!its.toArray.isEmpty && Builtin.List.listTooLong (its.toArray.size + its2.toArray.size)) = true := by
    rw [notLongL hsz, Bool.and_false]
    exact Bool.false_ne_true
  refine call_meets F.slot_list_extend ⟨_, e, rfl⟩ F.entry_list_extend (F.args_list_extend_2 _ _)
    (AutoSeq1.list_extend_list_list_0 l its.toArray n b its2.toArray n2 hlong (by rw [List.size_toArray]; omega) (by omega)) ⟨e, e2, ?_⟩
  refine ⟨.non, _, I.lset (its' := its ++ its2) hH e (by simp) (r.append r2) ?_, rfl, q⟩
  rw [List.length_append]
  omega

def rPop : V → List V → Hp → VK → Prop := fun x vs H Q => ∃ l xs y, x = .ref l ∧ vs = [] ∧ H l = some (.lst xs) ∧ xs[xs.length - 1]? = some y ∧ Q y (upd H l (.lst xs.dropLast))
def rPopAt : V → List V → Hp → VK → Prop := fun x vs H Q => ∃ l xs i k y, x = .ref l ∧ vs = [.int i] ∧ H l = some (.lst xs) ∧ -(2 ^ 63) ≤ i ∧ i < 2 ^ 63 ∧ seqIndex? i xs.length = some k ∧ xs[k]? = some y ∧ Q y (upd H l (.lst (xs.eraseIdx k)))
def rReverse : V → List V → Hp → VK → Prop := fun x vs H Q => ∃ l xs, x = .ref l ∧ vs = [] ∧ H l = some (.lst xs) ∧ Q .non (upd H l (.lst xs.reverse))
def rClear : V → List V → Hp → VK → Prop := fun x vs H Q => ∃ l xs, x = .ref l ∧ vs = [] ∧ H l = some (.lst xs) ∧ Q .non (upd H l (.lst []))
/-! ### list + list, list += list, list * int -/
def rCat : R2 := fun x y H Q => ∃ l b xs zs, x = .ref l ∧ y = .ref b ∧ H l = some (.lst xs) ∧ H b = some (.lst zs) ∧ xs.length + zs.length ≤ sizeLine ∧ ∀ p, H p = none → Q (.ref p) (upd H p (.lst (xs ++ zs)))
theorem op_cat : OpR X (binaryOp .Add) rCat := by
  intro pins s σ H x y v u Q I rx ry h
  obtain ⟨l, b, xs, zs, rfl, rfl, hH, hB, hz, q⟩ := h
  cases rx
  cases ry
  obtain ⟨z, its, n, r, hl, e⟩ := I.lstM hH
  obtain ⟨z2, its2, n2, r2, hl2, e2⟩ := I.lstM hB
  refine PySem.P.add_list e e2 ?_ (by rw [List.size_toArray, List.size_toArray]; omega)
  have ea : its.toArray ++ its2.toArray = (its ++ its2).toArray := by simp
  rw [ea]
  exact ⟨.ref _, _, I.lnew (t' := s.toks) (r.append r2) (by rw [List.length_append]; omega), rfl, q _ I.fresh⟩
/-- a list times an int (a negative one is nothing) -/
def rRep : R2 := fun x y H Q => ∃ l k xs, x = .ref l ∧ y = .int k ∧ H l = some (.lst xs) ∧ -(2 ^ 63) ≤ k ∧ k < 2 ^ 63 ∧ xs.length * k.toNat ≤ sizeLine ∧
  ∀ p, H p = none → Q (.ref p) (upd H p (.lst (List.replicate k.toNat xs).flatten))
/-! ### del xs[i] -/
end

/-! ### xs[a:b] = ys -/
section
variable {prog : Program} {w : World} {A : Around} {E : Value → Shared → Prop} {s : Shared}
end

section
variable {X : Cx}
end
end L2

namespace L2
open PySem PySem.Spec PyProof.Rows

theorem vals_of_ints : ∀ {us : List Value} {ns : List Int}, IntsAre us ns → Vals (ns.map V.int) us
  | _, _, .nil => by rw [List.map_nil]; exact Paired.nil
  | _, _, .cons n t h => by rw [List.map_cons]; exact Paired.cons (show RelV (V.int n) (Value.int n t) from ⟨t, rfl⟩) (vals_of_ints h)
theorem Vals.strs : ∀ {xs : List Str} {us : List Value}, Vals (xs.map V.str) us → StrsAre us xs
  | [], us, h => by
    rw [List.map_nil] at h
    cases h
    exact StrsAre.nil
  | x :: xs, us, h => by
    rw [List.map_cons] at h
    cases h with
    | cons r t =>
      obtain ⟨k, rfl⟩ := r
      exact StrsAre.cons x k (Vals.strs t)
theorem vals_of_strs : ∀ {us : List Value} {xs : List Str}, StrsAre us xs → Vals (xs.map V.str) us
  | _, _, .nil => by rw [List.map_nil]; exact Paired.nil
  | _, _, .cons x t h => by rw [List.map_cons]; exact Paired.cons (show RelV (V.str x) (Value.str x t) from ⟨t, rfl⟩) (vals_of_strs h)
theorem Vals.bls : ∀ {bs : List Bool} {us : List Value}, Vals (bs.map V.bl) us → us = bs.map Value.bool
  | [], us, h => by
    rw [List.map_nil] at h
    cases h
    rfl
  | b :: bs, us, h => by
    rw [List.map_cons] at h
    cases h with
    | cons r t =>
      cases r
      rw [Vals.bls t, List.map_cons]
theorem Vals.ref1 {a : Addr} {us : List Value} (r : Vals [V.ref a] us) : us = [Value.ref a] := by
  cases r with
  | cons r t =>
    cases t
    cases r
    rfl
/-! ### the library's walks over a list of ints, kept objects alone -/
section
variable {prog : Program} {w : World} {A : Around} {E : Value → Shared → Prop} {s : Shared} {l : Addr} {its : List Value} {ns : List Int} {Q : Value → Shared → Prop}
end

/-! ### the calls, by values (CallR of 03t; MtR of 06l) -/
section
variable {X : Cx}
/-- sum(xs) of a list of ints -/
def rSum (K : PySem.W.Frag) : List V → Hp → VK → Prop := fun vs H Q => ∃ (a : Addr) (ns : List Int), vs = [V.ref a] ∧ SqL K H a (ns.map V.int) ∧ Q (.int ns.sum) H
/-- max(xs), min(xs) of a list of ints -/
def rMax (K : PySem.W.Frag) : List V → Hp → VK → Prop := fun vs H Q => ∃ (a : Addr) (ns : List Int), vs = [V.ref a] ∧ SqL K H a (ns.map V.int) ∧ 0 < ns.length ∧ ∀ m, m ∈ ns → (∀ y, y ∈ ns → y ≤ m) → Q (.int m) H
def rMin (K : PySem.W.Frag) : List V → Hp → VK → Prop := fun vs H Q => ∃ (a : Addr) (ns : List Int), vs = [V.ref a] ∧ SqL K H a (ns.map V.int) ∧ 0 < ns.length ∧ ∀ m, m ∈ ns → (∀ y, y ∈ ns → m ≤ y) → Q (.int m) H
/-! sorted, sort (fewer than 64 items: the library's own bound) -/
def rSorted (K : PySem.W.Frag) : List V → Hp → VK → Prop := fun vs H Q => ∃ (a : Addr) (ns : List Int), vs = [V.ref a] ∧ SqL K H a (ns.map V.int) ∧ ns.length < 64 ∧
  ∀ (ns' : List Int) (p : Addr), ns'.Perm ns → ns'.Pairwise (· ≤ ·) → H p = none → Q (.ref p) (upd H p (.lst (ns'.map V.int)))
def rSortedS (K : PySem.W.Frag) : List V → Hp → VK → Prop := fun vs H Q => ∃ (a : Addr) (xs : List Str), vs = [V.ref a] ∧ SqL K H a (xs.map V.str) ∧ xs.length < 64 ∧
  ∀ (ys : List Str) (p : Addr), ys.Perm xs → sortedS ys = true → H p = none → Q (.ref p) (upd H p (.lst (ys.map V.str)))
/-- xs.sort(), ints -/
def rSort : V → List V → Hp → VK → Prop := fun x xs H Q => ∃ (a : Addr) (ns : List Int), x = V.ref a ∧ xs = [] ∧ H a = some (.lst (ns.map V.int)) ∧ ns.length < 64 ∧
  ∀ ns' : List Int, ns'.Perm ns → ns'.Pairwise (· ≤ ·) → Q .non (upd H a (.lst (ns'.map V.int)))
end

/-! ### list.index, flat items -/
section
variable {X : Cx}
def rIndex (K : PySem.W.Frag) : V → List V → Hp → VK → Prop := fun x xs H Q => ∃ (a : Addr) (ys : List V) (y : V) (j : Nat) (z : V), x = V.ref a ∧ xs = [y] ∧ SqL K H a ys ∧ flatV y = true ∧ ys.all flatV = true ∧ ys[j]? = some z ∧ eqV z y = true ∧
  (∀ (m : Nat) (z' : V), m < j → ys[m]? = some z' → eqV z' y = false) ∧ Q (.int (j : Nat)) H
end

/-! ### type(x) of an own instance; is, is not of a module's class -/
section
variable {X : Cx}
end

/-! ### any(xs), all(xs) of a list of bools -/
theorem iter_any {prog : Program} {w : World} {A : Around} {E : Value → Shared → Prop} {s : Shared} {l : Addr} {items : Array Value} {Q : Value → Shared → Prop} (hl : s.heap.IsList l items)
    (h : ∀ s₂ : Shared, s₂ = { s with heap := s.heap.push { cls := .type "list_iterator", data := .fields #[.ref l, .int 0 0] } } →
      (s₂.heap.IsListIter s.heap.objs.size l 0 ∧ s₂.heap.IsList l items) → l ≠ s.heap.objs.size → Q (.ref s.heap.objs.size) s₂) : wpAny (model prog w) A (pyIter (.ref l)) Q E s := by
  have hlt : l < s.heap.objs.size := by obtain ⟨_, e, _⟩ := hl; exact Heap.lt_size e
  exact wpAny_pyIter_list hl (h _ rfl ⟨⟨_, Heap.get?_push_size _ rfl, rfl, rfl⟩, hl.push _⟩ (Nat.ne_of_lt hlt))
theorem truth_bools {prog : Program} {w : World} {A : Around} {bs : List Bool} {its : List Value} (e : its = bs.map Value.bool) :
    TruthOf prog w A (fun i v => its.toArray[i]? = some v) (fun i => bs.getD i false) := fun i v s Q E hv hq => by
  have hv' : its[i]? = some v := by simpa using hv
  rw [e, List.getElem?_map] at hv'
  obtain ⟨b, hb, rfl⟩ := Option.map_eq_some_iff.mp hv'
  have hg : bs.getD i false = b := by rw [List.getD_eq_getElem?_getD, hb] <;> rfl
  have hq' : Q (bs.getD i false) s := hq
  rw [hg] at hq'
  exact wpAny_truthy_bool hq'
theorem any_range : ∀ bs : List Bool, (List.range bs.length).any (fun i => bs.getD i false) = bs.any id
  | [] => rfl
  | b :: bs => by
    rw [List.length_cons, List.range_succ_eq_map, List.any_cons, List.any_map, List.any_cons, ← any_range bs]
    all_goals rfl
theorem all_range : ∀ bs : List Bool, (List.range bs.length).all (fun i => bs.getD i false) = bs.all id
  | [] => rfl
  | b :: bs => by
    rw [List.length_cons, List.range_succ_eq_map, List.all_cons, List.all_map, List.all_cons, ← all_range bs]
    all_goals rfl
section
variable {X : Cx}
def rAny (K : PySem.W.Frag) : List V → Hp → VK → Prop := fun vs H Q => ∃ (a : Addr) (bs : List Bool), vs = [V.ref a] ∧ SqL K H a (bs.map V.bl) ∧ Q (.bl (bs.any id)) H
def rAll (K : PySem.W.Frag) : List V → Hp → VK → Prop := fun vs H Q => ∃ (a : Addr) (bs : List Bool), vs = [V.ref a] ∧ SqL K H a (bs.map V.bl) ∧ Q (.bl (bs.all id)) H
theorem cr_all (hc : X.calm = true) : CallR X (.builtin "all") (rAll X.K) := by
  intro pins s σ H vs us Q I r h
  obtain ⟨a, bs, rfl, hs, q⟩ := h
  obtain ⟨its, rv, hl, _⟩ := I.list hs
  rw [Vals.ref1 r]
  have hb := rv.bls
  refine call_all_walk (iter_any hl.isList fun s₂ e2 st hne => ?_)
  subst e2
  refine ⟨_, _, _, _, _, _, _, rfl, Walks.list (A := X.A.in1) (I.ok.hd hc) _ a hne its.toArray, st, truth_bools hb, fun h' tk hk => ?_⟩
  refine ⟨.bl _, H, I.kept fun b o eo => hk b o (fun hmem => ?_) (Heap.get?_push_of_some _ eo), ?_, q⟩
  · rcases List.mem_cons.mp hmem with e1 | hmem
    · exact absurd (e1 ▸ Heap.lt_size eo) (Nat.lt_irrefl _)
    · cases hmem
  · show Value.bool _ = Value.bool _
    rw [← all_range, hb, List.size_toArray, List.length_map]
end

/-! ### == and != of data at any depth: none, bools, ints, texts, lists, tuples -/
mutual
inductive Dp (K : PySem.W.Frag) (H : Hp) : V → PyData → Prop
  | non : Dp K H .non .none
  | bl (b : Bool) : Dp K H (.bl b) (.bool b)
  | int (i : Int) : Dp K H (.int i) (.int i)
  | str (x : Str) : Dp K H (.str x) (.str x)
  | lst {a : Addr} {xs : List V} {ds : List PyData} : SqL K H a xs → DpAll K H xs ds → Dp K H (.ref a) (.list ds)
  | tup {a : Addr} {xs : List V} {ds : List PyData} : SqT K H a xs → DpAll K H xs ds → Dp K H (.ref a) (.tuple ds)
inductive DpAll (K : PySem.W.Frag) (H : Hp) : List V → List PyData → Prop
  | nil : DpAll K H [] []
  | cons {v : V} {vs : List V} {d : PyData} {ds : List PyData} : Dp K H v d → DpAll K H vs ds → DpAll K H (v :: vs) (d :: ds)
end
section
variable {X : Cx} {pins : List (Addr × Obj)} {σ : St} {H : Hp} {s : Shared}
mutual
theorem Dp.reads (I : Inv X pins σ H s) : ∀ (d : PyData) (v : V) (u : Value), Dp X.K H v d → RelV v u → ∃ as, Reads s.heap u d as
  | .none, _, _, h, r => by
    cases h
    cases r
    exact ⟨_, Reads.none⟩
  | .bool b, _, _, h, r => by
    cases h
    cases r
    exact ⟨_, Reads.bool b⟩
  | .int i, _, _, h, r => by
    cases h
    obtain ⟨t, rfl⟩ := r
    exact ⟨_, Reads.int i t⟩
  | .str x, _, _, h, r => by
    cases h
    obtain ⟨t, rfl⟩ := r
    exact ⟨_, Reads.str x t⟩
  | .list ds, _, _, h, r => by
    cases h with
    | lst hs ha =>
      cases r
      obtain ⟨its, rv, ⟨o, n, ho, hc, _, hd⟩, _⟩ := I.list hs
      obtain ⟨as, hr⟩ := Dp.readsAll I ds _ its ha rv
      exact ⟨_, Reads.list ho hc hd hr⟩
  | .tuple ds, _, _, h, r => by
    cases h with
    | tup hs ha =>
      cases r
      obtain ⟨its, rv, ⟨o, ho, hc, n, hd⟩, _⟩ := I.tuple hs
      obtain ⟨as, hr⟩ := Dp.readsAll I ds _ its ha rv
      exact ⟨_, Reads.tuple ho hc hd hr⟩
  | .dict _, _, _, h, _ => by cases h
theorem Dp.readsAll (I : Inv X pins σ H s) : ∀ (ds : List PyData) (vs : List V) (us : List Value), DpAll X.K H vs ds → Vals vs us → ∃ as, ReadsAll s.heap us ds as
  | [], _, _, h, r => by
    cases h
    cases r
    exact ⟨_, ReadsAll.nil⟩
  | d :: ds, _, _, h, r => by
    cases h with
    | cons h1 h2 =>
      cases r with
      | cons r1 r2 =>
        obtain ⟨as, q1⟩ := Dp.reads I d _ _ h1 r1
        obtain ⟨bs, q2⟩ := Dp.readsAll I ds _ _ h2 r2
        exact ⟨_, ReadsAll.cons q1 q2⟩
end
end
section
variable {X : Cx}
def rEqD (K : PySem.W.Frag) : R2 := fun x y H Q => ∃ d e, Dp K H x d ∧ Dp K H y e ∧ SeqAt.shaped d = true ∧ SeqAt.shaped e = true ∧ Q (.bl (PyData.eqv d e)) H
def rNeD (K : PySem.W.Frag) : R2 := fun x y H Q => ∃ d e, Dp K H x d ∧ Dp K H y e ∧ SeqAt.shaped d = true ∧ SeqAt.shaped e = true ∧ Q (.bl (!PyData.eqv d e)) H
theorem op_eqD (hu : X.A.units + 64 < cLine) : OpR X (compareOp .Eq) (rEqD X.K) := by
  intro pins s σ H x y v u Q I rx ry h
  obtain ⟨d, e, hd, he, sd, se, q⟩ := h
  obtain ⟨as, r1⟩ := Dp.reads I d x v hd rx
  obtain ⟨bs, r2⟩ := Dp.reads I e y u he ry
  exact SeqAt.compareEq_shaped r1 r2 sd se hu ⟨.bl _, H, I, rfl, q⟩
theorem op_neD (hu : X.A.units + 64 < cLine) : OpR X (compareOp .NotEq) (rNeD X.K) := by
  intro pins s σ H x y v u Q I rx ry h
  obtain ⟨d, e, hd, he, sd, se, q⟩ := h
  obtain ⟨as, r1⟩ := Dp.reads I d x v hd rx
  obtain ⟨bs, r2⟩ := Dp.reads I e y u he ry
  exact SeqAt.compareNe_shaped r1 r2 sd se hu ⟨.bl _, H, I, rfl, q⟩
end
end L2

namespace L2
open PySem PySem.Spec PyProof.Rows
abbrev CellAt (h : Heap) (c : Addr) (v : Option Value) : Prop := h.IsCell c v
def relS (scope sc : Scope) : Scope :=
  { scope with names := scope.names.map fun (n, k) => if (k == .free && sc.kind == .function && sc.names.lookup n == some .cell) then (n, .cell) else (n, k) }

def cloFrom (cells : List (Str × Addr)) : List (Str × NameKind) → List (Str × Addr) → List (Str × Addr)
  | [], acc => acc
  | (n, k) :: r, acc => if k == .free then cloFrom cells r ((n, (cells.lookup n).getD 0) :: acc) else cloFrom cells r acc

theorem closure_loop (env : Env) (f : Str × NameKind → List (Str × Addr) → Sem (ForInStep (List (Str × Addr))))
    (hf : ∀ n k c, f (n, k) c = if k == .free then (do let a ← cellOf env n; pure (.yield ((n, a) :: c))) else pure (.yield c)) :
    ∀ (names : List (Str × NameKind)) (acc : List (Str × Addr)), (∀ y ∈ names, y.2 = .free → ∃ c, env.cells.lookup y.1 = some c) → forIn names acc f = pure (cloFrom env.cells names acc)
  | [], acc, _ => by rw [List.forIn_nil]; rfl
  | (n, k) :: r, acc, h => by
    rw [List.forIn_cons, hf]
    have ih := fun acc => closure_loop env f hf r acc fun y hy => h y (List.mem_cons_of_mem _ hy)
    unfold cloFrom
    by_cases hk : (k == NameKind.free) = true
    · rw [if_pos hk, if_pos hk]
      obtain ⟨c, hc⟩ := h (n, k) List.mem_cons_self (by simpa using hk)
      have e : cellOf env n = pure c := by unfold cellOf; rw [hc]
      rw [e]
      have e2 : (env.cells.lookup n).getD 0 = c := by rw [hc]; rfl
      rw [e2]
      exact ih _
    · rw [if_neg hk, if_neg hk]
      exact ih _
theorem closure_ok {scope : Scope} {env : Env} (h : ∀ y ∈ scope.names, y.2 = .free → ∃ c, env.cells.lookup y.1 = some c) : closureFor scope env = pure (cloFrom env.cells scope.names []) := by
  simp only [closureFor]
  rw [closure_loop env _ (fun n k c => rfl) scope.names [] h]
  rfl

theorem mem_lookup {α : Type} : ∀ {l : List (Str × α)} {n : Str} {c : α}, (n, c) ∈ l → ∃ c', l.lookup n = some c'
  | (k, v) :: r, n, c, h => by
    rw [List.lookup_cons]
    cases hb : n == k with
    | true => exact ⟨_, rfl⟩
    | false =>
      rcases List.mem_cons.mp h with e | h
      · cases e; simp at hb
      · exact mem_lookup h

theorem cloFrom_mem {cells : List (Str × Addr)} : ∀ {names : List (Str × NameKind)} {acc : List (Str × Addr)} {n : Str} {c : Addr}, (n, c) ∈ cloFrom cells names acc → (n, c) ∈ acc ∨ ((n, .free) ∈ names ∧ c = (cells.lookup n).getD 0)
  | [], _, _, _, h => .inl h
  | (m, k) :: r, acc, n, c, h => by
    unfold cloFrom at h
    split at h
    · rename_i hk
      have hk : k = .free := by simpa using hk
      rcases cloFrom_mem h with h | ⟨h1, h2⟩
      · rcases List.mem_cons.mp h with e | h
        · cases e; exact .inr ⟨hk ▸ List.mem_cons_self, rfl⟩
        · exact .inl h
      · exact .inr ⟨List.mem_cons_of_mem _ h1, h2⟩
    · rcases cloFrom_mem h with h | ⟨h1, h2⟩
      · exact .inl h
      · exact .inr ⟨List.mem_cons_of_mem _ h1, h2⟩
theorem cloFrom_acc {cells : List (Str × Addr)} : ∀ {names : List (Str × NameKind)} {acc : List (Str × Addr)} {p : Str × Addr}, p ∈ acc → p ∈ cloFrom cells names acc
  | [], _, _, h => h
  | (m, k) :: r, acc, p, h => by
    unfold cloFrom
    split
    · exact cloFrom_acc (List.mem_cons_of_mem _ h)
    · exact cloFrom_acc h
theorem cloFrom_has {cells : List (Str × Addr)} : ∀ {names : List (Str × NameKind)} {acc : List (Str × Addr)} {n : Str}, (n, .free) ∈ names → (n, (cells.lookup n).getD 0) ∈ cloFrom cells names acc
  | (m, k) :: r, acc, n, h => by
    unfold cloFrom
    rcases List.mem_cons.mp h with e | h
    · cases e
      exact cloFrom_acc List.mem_cons_self
    · split
      · exact cloFrom_has h
      · exact cloFrom_has h

theorem cells_mem : ∀ {names : List (Str × NameKind)} {h : Heap} {acc : List (Str × Addr)} {x : Str} {c : Addr}, (x, c) ∈ cellsFrom h.objs.size names acc →
    (x, c) ∈ acc ∨ ((x, .cell) ∈ names ∧ h.objs.size ≤ c ∧ CellAt (pushCells h names) c none)
  | [], _, _, _, _, h => .inl h
  | (n, k) :: r, h, acc, x, c, hm => by
    unfold cellsFrom at hm
    unfold pushCells
    split at hm
    · rename_i hk
      rw [if_pos hk]
      have hk : k = .cell := by simpa using hk
      rw [← Heap.size_push h { cls := .type "cell", data := .cell none }] at hm
      rcases cells_mem hm with hm | ⟨h1, h2, h3⟩
      · rcases List.mem_cons.mp hm with e | hm
        · cases e
          exact .inr ⟨hk ▸ List.mem_cons_self, Nat.le_refl _, _, pushCells_keeps r _ _ _ (Heap.get?_push_size _ rfl), rfl⟩
        · exact .inl hm
      · rw [Heap.size_push] at h2
        exact .inr ⟨List.mem_cons_of_mem _ h1, Nat.le_of_succ_le h2, h3⟩
    · rename_i hk
      rw [if_neg hk]
      rcases cells_mem hm with hm | ⟨h1, h2, h3⟩
      · exact .inl hm
      · exact .inr ⟨List.mem_cons_of_mem _ h1, h2, h3⟩
theorem cells_acc : ∀ {names : List (Str × NameKind)} {n : Nat} {acc : List (Str × Addr)} {p : Str × Addr}, p ∈ acc → p ∈ cellsFrom n names acc
  | [], _, _, _, h => h
  | (m, k) :: r, n, acc, p, h => by
    unfold cellsFrom
    split
    · exact cells_acc (List.mem_cons_of_mem _ h)
    · exact cells_acc h
theorem cells_has : ∀ {names : List (Str × NameKind)} {n : Nat} {acc : List (Str × Addr)} {x : Str}, (x, .cell) ∈ names → ∃ c, (x, c) ∈ cellsFrom n names acc
  | (m, k) :: r, n, acc, x, h => by
    unfold cellsFrom
    rcases List.mem_cons.mp h with e | h
    · cases e
      exact ⟨n, cells_acc List.mem_cons_self⟩
    · split
      · exact cells_has h
      · exact cells_has h
theorem cells_inj : ∀ {names : List (Str × NameKind)} {h : Heap} {acc : List (Str × Addr)} {x y : Str} {c : Addr}, (∀ p ∈ acc, p.2 < h.objs.size) → (∀ x y c, (x, c) ∈ acc → (y, c) ∈ acc → x = y) →
    (x, c) ∈ cellsFrom h.objs.size names acc → (y, c) ∈ cellsFrom h.objs.size names acc → x = y
  | [], _, _, _, _, _, _, hi, h1, h2 => hi _ _ _ h1 h2
  | (n, k) :: r, h, acc, x, y, c, hl, hi, h1, h2 => by
    unfold cellsFrom at h1 h2
    split at h1
    · rename_i hk
      rw [if_pos hk] at h2
      rw [← Heap.size_push h { cls := .type "cell", data := .cell none }] at h1 h2
      refine cells_inj (h := h.push _) (fun p hp => ?_) (fun x y c a b => ?_) h1 h2
      · rw [Heap.size_push]
        rcases List.mem_cons.mp hp with rfl | hp
        · exact Nat.lt_succ_self _
        · exact Nat.lt_succ_of_lt (hl p hp)
      · rcases List.mem_cons.mp a with e | a <;> rcases List.mem_cons.mp b with e' | b
        · cases e; cases e'; rfl
        · cases e; exact absurd (hl _ b) (Nat.lt_irrefl _)
        · cases e'; exact absurd (hl _ a) (Nat.lt_irrefl _)
        · exact hi _ _ _ a b
    · rename_i hk
      rw [if_neg hk] at h2
      exact cells_inj hl hi h1 h2

theorem newEnv_comp {M : Model} {A : Around} {E : Value → Shared → Prop} {s : Shared} {scope : Scope} {globals : Addr} {closure : List (Str × Addr)} {qual : Str} {func : Option Addr} {code : Value} {around : Env} {builtins : Addr} {Q : Env → Shared → Prop}
    (h : Q (newEnv scope s.heap.objs.size globals (cellsFrom (s.heap.objs.size + 1) scope.names closure) qual func code (some around) builtins)
      { s with heap := pushCells (s.heap.push { cls := .type "dict", data := .dict #[] }) scope.names }) :
    wpAny M A (newFunctionEnv scope globals closure [] qual func code (some around) builtins) Q E s := by
  simp only [newFunctionEnv, Option.isSome_some, if_true]
  refine wpAny_bind (wpAny_alloc ?_)
  refine wpAny_bind (wpAny_layCells _ (fun n k c => rfl) scope.names closure _ _ ?_)
  rw [show ({ s with heap := s.heap.push { cls := .type "dict", data := .dict #[] } } : Shared).heap.objs.size = s.heap.objs.size + 1 from Heap.size_push ..]
  rw [List.forIn_nil]
  exact wpAny_bind (wpAny_pure (wpAny_pure h))

/-- every name of the written scope, in the scope that runs -/
theorem lookup_relS {sc : Scope} : ∀ {names : List (Str × NameKind)} {x : Str} {k : NameKind},
    (names.map fun (n, k) => if (k == NameKind.free && sc.kind == .function && sc.names.lookup n == some .cell) then (n, NameKind.cell) else (n, k)).lookup x = some k →
    ∃ k', names.lookup x = some k' ∧ (k = k' ∨ (k' = .free ∧ k = .cell))
  | [], _, _, h => by simp at h
  | (n, k₀) :: r, x, k, h => by
    have ih := @lookup_relS sc r x k
    have h' : List.lookup x ((if (k₀ == NameKind.free && sc.kind == .function && sc.names.lookup n == some .cell) = true then (n, NameKind.cell) else (n, k₀)) :: (r.map _)) = some k := h
    cases hx : x == n with
    | true =>
      simp only [List.lookup_cons, hx]
      by_cases hc : (k₀ == NameKind.free && sc.kind == .function && sc.names.lookup n == some .cell) = true
      · rw [if_pos hc] at h'
        simp only [List.lookup_cons, hx] at h'
        cases h'
        simp only [Bool.and_eq_true, beq_iff_eq] at hc
        exact ⟨k₀, rfl, .inr ⟨hc.1.1, rfl⟩⟩
      · rw [if_neg hc] at h'
        simp only [List.lookup_cons, hx] at h'
        cases h'
        exact ⟨_, rfl, .inl rfl⟩
    | false =>
      simp only [List.lookup_cons, hx]
      by_cases hc : (k₀ == NameKind.free && sc.kind == .function && sc.names.lookup n == some .cell) = true
      · rw [if_pos hc] at h'
        simp only [List.lookup_cons, hx] at h'
        exact ih h'
      · rw [if_neg hc] at h'
        simp only [List.lookup_cons, hx] at h'
        exact ih h'
/-- the names of a comprehension's block: its own (with their places in N), or captured -/
structure BlkOk (N : List Str) (sc scope : Scope) (own : List (Str × Nat)) : Prop where
  kind : scope.kind = .function
  uniq : ∀ y ∈ scope.names, scope.names.lookup y.1 = some y.2
  ix : ∀ p ∈ own, N[p.2]? = some p.1
  free : ∀ y ∈ scope.names, y.2 = .free → sc.names.lookup y.1 = some .cell ∨ sc.names.lookup y.1 = some .free
  own : ∀ y ∈ scope.names, y.2 = .local ∨ y.2 = .cell → y.1 ∈ own.map (·.1) ∨ y.1 ∉ N
/-- the slots of the block's own names forgotten -/
def wipe (σ : St) : List Nat → St
  | [] => σ
  | v :: vs => (wipe σ vs).set v none
theorem wipe_length (σ : St) : ∀ vs : List Nat, (wipe σ vs).length = σ.length
  | [] => rfl
  | v :: vs => by unfold wipe; rw [List.length_set, wipe_length σ vs]
theorem wipe_some {σ : St} {i : Nat} {x : V} : ∀ {vs : List Nat}, (wipe σ vs)[i]? = some (some x) → σ[i]? = some (some x) ∧ i ∉ vs
  | [], h => ⟨h, by simp⟩
  | v :: vs, h => by
    unfold wipe at h
    by_cases hi : v = i
    · subst hi
      by_cases hv : v < (wipe σ vs).length
      · rw [List.getElem?_set_self hv] at h; cases h
      · rw [List.getElem?_eq_none (by simpa using hv)] at h; cases h
    · rw [List.getElem?_set_ne hi] at h
      obtain ⟨h1, h2⟩ := wipe_some h
      exact ⟨h1, by simp only [List.mem_cons, not_or]; exact ⟨fun e => hi e.symm, h2⟩⟩

/-- the context of a block that starts at s, its iterator's objects at fp -/
abbrev Cx.blk (X : Cx) (s : Shared) (H : Hp) (scope : Scope) (cenv : Env) (fp : List Addr) : Cx := { X with s_0 := s, H_0 := H, env := cenv, outer := X.stack, ex := fp, fn := fun x => scope.names.lookup x == some .cell, pn := [], xe := fun _ _ => False }
section
variable {X : Cx} {pins : List (Addr × Obj)} {σ : St} {H : Hp} {s : Shared}
theorem block_start {scope : Scope} {own : List (Str × Nat)} {fp : List Addr} (I : Inv X pins σ H s) (ok : BlkOk X.N X.env.scope scope own) (hN : X.N.Nodup) (hfp : ∀ b ∈ fp, FpOk X pins H b ∧ b < s.heap.objs.size) :
    Inv (X.blk s H scope (compEnvC scope (cellsFrom (s.heap.objs.size + 1) scope.names (cloFrom X.env.cells scope.names [])) s.heap.objs.size X.env) fp) [] (wipe σ (own.map (·.2))) H { s with heap := pushCells (s.heap.push { cls := .type "dict", data := .dict #[] }) scope.names } := by
  have hfree : ∀ y ∈ scope.names, y.2 = .free → ∃ c, X.env.cells.lookup y.1 = some c := fun y hy e => by
    rcases ok.free y hy e with k | k
    · exact I.ok.has _ (.inl k)
    · exact I.ok.has _ (.inr k)
  generalize hcenv : compEnvC scope (cellsFrom (s.heap.objs.size + 1) scope.names (cloFrom X.env.cells scope.names [])) s.heap.objs.size X.env = cenv
  have kp : ∀ b o, s.heap.get? b = some o → (pushCells (s.heap.push { cls := .type "dict", data := .dict #[] }) scope.names).get? b = some o := fun b o e => pushCells_keeps _ _ _ _ (Heap.get?_push_of_some _ e)
  have hL : cenv.locals = s.heap.objs.size := by rw [← hcenv]; rfl
  have hcl : cenv.cells = cellsFrom (s.heap.objs.size + 1) scope.names (cloFrom X.env.cells scope.names []) := by rw [← hcenv]; rfl
  have hsc : cenv.scope = relS scope X.env.scope := by rw [← hcenv]; rfl
  rw [← Heap.size_push s.heap { cls := .type "dict", data := .dict #[] }] at hcl
  have cm : ∀ {y c}, (y, c) ∈ cloFrom X.env.cells scope.names [] → X.env.cells.lookup y = some c ∧ c < s.heap.objs.size := fun {y c} hm => by
    rcases cloFrom_mem hm with hm | ⟨h1, rfl⟩
    · cases hm
    · obtain ⟨c, hc⟩ := hfree _ h1 rfl
      rw [hc]
      obtain ⟨w, z⟩ := I.cell _ _ hc
      exact ⟨rfl, z.lt⟩
  have mem : ∀ {y c}, cenv.cells.lookup y = some c → (X.env.cells.lookup y = some c ∧ c < s.heap.objs.size) ∨ (s.heap.objs.size + 1 ≤ c ∧ CellAt (pushCells (s.heap.push { cls := .type "dict", data := .dict #[] }) scope.names) c none) := fun {y c} e => by
    rw [hcl] at e
    rcases cells_mem (PySem.mem_of_lookup e) with hm | ⟨_, h2, h3⟩
    · exact .inl (cm hm)
    · rw [Heap.size_push] at h2; exact .inr ⟨h2, h3⟩
  have look : ∀ {y}, scope.names.lookup y = some .free → ∃ c, cenv.cells.lookup y = some c ∧ X.env.cells.lookup y = some c := fun {y} hl => by
    have hy : (y, NameKind.free) ∈ scope.names := PySem.mem_of_lookup hl
    obtain ⟨c', e'⟩ := mem_lookup (cells_acc (names := scope.names) (n := (s.heap.push { cls := .type "dict", data := .dict #[] }).objs.size) (cloFrom_has (cells := X.env.cells) (acc := []) hy))
    rw [← hcl] at e'
    refine ⟨c', e', ?_⟩
    rw [hcl] at e'
    rcases cells_mem (PySem.mem_of_lookup e') with hm | ⟨h1, _, _⟩
    · exact (cm hm).1
    · have := ok.uniq _ h1
      rw [hl] at this; cases this
  have okB : (X.blk s H scope cenv fp).Ok := by
    refine ⟨I.ok.mod, by show cenv.scope.kind = _; rw [hsc]; exact ok.kind, by show cenv.globals = _; rw [← hcenv]; exact I.ok.glob, by show cenv.builtins = _; rw [← hcenv]; exact I.ok.blt, by show s.heap.objs.size ≤ cenv.locals; rw [hL]; exact Nat.le_refl _,
      fun y z c e1 e2 => ?_, fun y hy => ?_, fun y c z e => ?_, I.ok.hd, I.ok.frames, .inl rfl, fun b hb => ⟨?_, fun y c e z => ?_⟩, I.bs, Nat.le_trans I.ok.bsz I.sz, fun b o e hb => ?_, fun b hb z => ?_, I.stack, I.stkFree⟩
    · have e1 : cenv.cells.lookup y = some c := e1
      have e2 : cenv.cells.lookup z = some c := e2
      rw [hcl] at e1 e2
      refine cells_inj (fun p hp => ?_) (fun y z c a b => I.ok.inj y z c (cm a).1 (cm b).1) (PySem.mem_of_lookup e1) (PySem.mem_of_lookup e2)
      rw [Heap.size_push]
      exact Nat.lt_succ_of_lt (cm (y := p.1) (c := p.2) hp).2
    · show ∃ c, cenv.cells.lookup y = some c
      have key : ∀ k, cenv.kindOf y = some k → (k = .cell ∨ k = .free) → ∃ c, cenv.cells.lookup y = some c := fun k hk hk' => by
        unfold Env.kindOf at hk
        rw [hsc] at hk
        obtain ⟨k', e, r⟩ := lookup_relS hk
        have : k' = .cell ∨ k' = .free := by
          rcases r with rfl | ⟨rfl, _⟩
          · exact hk'
          · exact .inr rfl
        rcases this with rfl | rfl
        · obtain ⟨c, hm⟩ := cells_has (n := (s.heap.push { cls := .type "dict", data := .dict #[] }).objs.size) (acc := cloFrom X.env.cells scope.names []) (PySem.mem_of_lookup e)
          obtain ⟨c', e'⟩ := mem_lookup hm
          exact ⟨c', by rw [hcl]; exact e'⟩
        · obtain ⟨c, h1, _⟩ := look e
          exact ⟨c, h1⟩
      rcases hy with hy | hy
      · exact key _ hy (.inl rfl)
      · exact key _ hy (.inr rfl)
    · have z : (scope.names.lookup y == some NameKind.cell) = true := z
      have z : scope.names.lookup y = some .cell := by simpa using z
      have e : cenv.cells.lookup y = some c := e
      rw [hcl] at e
      rcases cells_mem (PySem.mem_of_lookup e) with hm | ⟨_, h2, _⟩
      · rcases cloFrom_mem hm with hm | ⟨h1, _⟩
        · cases hm
        · have q := ok.uniq _ h1
          rw [z] at q; cases q
      · rw [Heap.size_push] at h2
        exact Nat.le_of_succ_le h2
    · show b ≠ cenv.locals
      rw [hL]; exact Nat.ne_of_lt (hfp b hb).2
    · have e : cenv.cells.lookup y = some c := e
      rcases mem e with ⟨h1, _⟩ | ⟨h1, _⟩
      · exact (hfp b hb).1.2.2.2.2.1 y c h1 z
      · have h2 : s.heap.objs.size + 1 ≤ b := by rw [← z]; exact h1
        exact absurd (Nat.lt_of_lt_of_le (hfp b hb).2 (Nat.le_of_succ_le h2)) (Nat.lt_irrefl _)
    · rcases (hfp b hb).1.2.2.2.1 with z | z
      · exact I.ok.noex b o e z
      · exact absurd (Nat.lt_of_lt_of_le (Heap.lt_size e) (Nat.le_trans I.ok.bsz z)) (Nat.lt_irrefl _)
    · rcases List.mem_cons.mp (I.stkSub b z) with z | z
      · exact (hfp b hb).1.2.1 z
      · exact (hfp b hb).1.2.2.1 z
  refine ⟨okB, rfl, I.bare, Un.kept kp, ⟨fun _ => none, ?_, fun i y av e1 e2 e3 => ?_⟩, fun y c e => ?_, ?_, fun y c e => ?_, fun p hp => ?_, I.hok.kept kp, by rw [wipe_length]; exact I.len⟩
  · show Heap.Ns _ cenv.locals _
    rw [hL]
    exact Heap.Ns.keeps (Heap.Ns.new ..) fun b o e => pushCells_keeps _ _ _ _ e
  · obtain ⟨e2, hne⟩ := wipe_some e2
    have hfr : scope.names.lookup y = some .free ∧ (cenv.kindOf y = some .cell ∨ cenv.kindOf y = some .free) := by
      have key : ∀ k, cenv.scope.names.lookup y = some k → k = .local ∨ k = .cell ∨ k = .free → scope.names.lookup y = some .free ∧ (cenv.kindOf y = some .cell ∨ cenv.kindOf y = some .free) := fun k hk hk' => by
        have hk0 := hk
        rw [hsc] at hk
        obtain ⟨k', e, r⟩ := lookup_relS hk
        have no : ¬ (k' = .local ∨ k' = .cell) := fun hh => by
          rcases ok.own _ (PySem.mem_of_lookup e) hh with e' | e'
          · obtain ⟨p, hp, hpy⟩ := List.mem_map.mp e'
            have e3 := ok.ix p hp
            have : p.1 = y := hpy
            rw [this] at e3
            exact hne (List.mem_map.mpr ⟨p, hp, nodup_ix hN e3 e1⟩)
          · exact e' (List.mem_of_getElem? e1)
        rcases r with rfl | ⟨rfl, rfl⟩
        · rcases hk' with rfl | rfl | rfl
          · exact absurd (.inl rfl) no
          · exact absurd (.inr rfl) no
          · exact ⟨e, .inr hk0⟩
        · exact ⟨e, .inl hk0⟩
      have e3 : Vis cenv.scope y := e3
      rcases e3 with e3 | e3 | e3
      · exact key _ e3 (.inl rfl)
      · exact key _ e3 (.inr (.inl rfl))
      · exact key _ e3 (.inr (.inr rfl))
    obtain ⟨m, hn, hl⟩ := I.loc
    have hvis : Vis X.env.scope y := (ok.free _ (PySem.mem_of_lookup hfr.1) rfl).elim (fun k => .inr (.inl k)) (fun k => .inr (.inr k))
    obtain ⟨w, r, q⟩ := hl i y av e1 e2 hvis
    refine ⟨w, r, .inr ⟨hfr.2, ?_⟩⟩
    obtain ⟨c, h1, h2⟩ := look hfr.1
    rcases q with ⟨k, _⟩ | ⟨_, c', e', z⟩
    · have k : X.env.scope.names.lookup y = some .local := k
      rcases ok.free _ (PySem.mem_of_lookup hfr.1) rfl with k' | k' <;> rw [show X.env.scope.names.lookup y = _ from k'] at k <;> cases k
    · rw [h2] at e'; cases e'
      exact ⟨c, h1, z.keeps kp⟩
  · have e : cenv.cells.lookup y = some c := e
    rcases mem e with ⟨h1, _⟩ | ⟨_, z⟩
    · obtain ⟨w, z⟩ := I.cell y c h1
      exact ⟨w, z.keeps kp⟩
    · exact ⟨_, z⟩
  · show H cenv.locals = none
    rw [hL]; exact I.hok.fresh (Nat.le_refl _)
  · have e : cenv.cells.lookup y = some c := e
    rcases mem e with ⟨h1, _⟩ | ⟨h1, _⟩
    · exact I.freeC y c h1
    · exact I.hok.fresh (Nat.le_of_succ_le h1)
  · exact absurd (show p ∈ ([] : List (Addr × Obj)) ++ [] from hp) (by simp)

/-- an item appended to a tracked list -/
theorem app_ok {E : Value → Shared → Prop} {D : Addr} {xs : List V} {y : V} {v : Value} {Q : Value → Shared → Prop} (I : Inv X pins σ H s) (hD : H D = some (.lst xs)) (hz : xs.length < sizeLine) (r : RelV y v)
    (h : ∀ s', Inv X pins σ (upd H D (.lst (xs ++ [y]))) s' → Q .none s') : wpAny (model X.prog X.w) X.A (call (.builtin "list.append") [.ref D, v]) Q E s := by
  obtain ⟨hz', its, n, ri, e⟩ := I.hok D _ hD
  have hl := ri.length
  refine append_at (hsz := by rw [List.size_toArray]; omega) e fun h' sb ho' => ?_
  refine h { s with heap := h' } (I.write (t' := s.toks) (by rw [hD]; trivial) (.inl rfl) (fun b u hb q => (sb.2 b hb).trans q) ⟨_, ho'⟩ ⟨by rw [List.length_append]; exact hz, its ++ [v], n + 1, ri.append (.cons r .nil), ?_⟩)
  rw [ho']
  simp

/-- a clause's tests -/
def PTs (X : Cx) (ifs : List Expr) (t : TT) : Prop :=
  ∀ (pins : List (Addr × Obj)) (s : Shared) (σ : St) (H : Hp) (Q : Bool → Hp → Prop), Inv X pins σ H s → t σ H Q →
    wpAny (model X.prog X.w) X.A (forIn ifs true fun c r => if r = true then do let ok ← isTrue c X.env (eval c X.env); pure (ForInStep.yield ok) else pure (ForInStep.yield r)) (TP X pins σ Q) X.xe s
def tYes : TT := fun _ H Q => Q true H
theorem pts_nil : PTs X [] tYes := fun _ _ _ H _ I h => wpAny_tests_nil ⟨H, I, h⟩
theorem pts_one {c : Expr} {t : TT} (h : PT X c t) : PTs X [c] t := fun pins s σ H Q I hw => wpAny_tests_one (h pins s σ H Q I hw)
end

theorem thnF {α : Type} {t : Sem α} {Q Q' : α → Shared → Prop} {M : Model} {A : Around} {E : Value → Shared → Prop} {s : Shared} (h : wpAny M A t Q (fun _ _ => False) s) (hQ : ∀ a s, Q a s → Q' a s) : wpAny M A t Q' E s := wpAny_mono h hQ fun _ _ z => False.elim z

/-- the loop of a list comprehension's block, the target of any form (codeAny_compLoop_tests asks a target that no tuple goes to; statement and proof follow it, PyProof/CompMap.lean:41-61, with the step letOwnedTupleGo kept) -/
theorem compLoop_any {prog : Program} {w : World} {A : Around} {R : Result → Shared → Prop} {s : Shared} {elt target iter : Expr} {ifs : List Expr} {scope : Scope} {pos : Pos} {it acc : Value} {env : Env} (I : Nat → Shared → Prop)
    (turn : ∀ n s, I n s → wpAny (model prog w) A (pyNext it) (fun r s₁ => match r with
      | none => R (.ok .next) s₁
      | some v => wpAny (model prog w) A (letOwnedTupleGo target it v) (fun _ s₁' => wpAny (model prog w) A (assign target env v) (fun _ s₂ =>
          wpAny (model prog w) A (forIn ifs true fun c r => if r = true then do let ok ← isTrue c env (eval c env); pure (ForInStep.yield ok) else pure (ForInStep.yield r)) (fun ok s₃ =>
            if ok = true then wpAny (model prog w) A (eval elt env) (fun x s₄ =>
              wpAny (model prog w) A (call (.builtin "list.append") [acc, x]) (fun _ s₅ => ∃ m, m < n ∧ I m s₅) (notedBy (model prog w) A env fun e s' => R (.error e) s') s₄) (notedBy (model prog w) A env fun e s' => R (.error e) s') s₃
            else ∃ m, m < n ∧ I m s₃) (notedBy (model prog w) A env fun e s' => R (.error e) s') s₂) (notedBy (model prog w) A env fun e s' => R (.error e) s') s₁') (notedBy (model prog w) A env fun e s' => R (.error e) s') s₁) (notedBy (model prog w) A env fun e s' => R (.error e) s') s)
    (n : Nat) (h : I n s) :
    codeAny (model prog w) A (.compLoop (.ListComp elt [⟨target, iter, ifs, 0⟩] scope pos) 0 it acc env) R s := by
  refine codeAny_loop rfl I (fun n s hI => ?_) n h
  show wpAny _ A ((compTurn (.ListComp elt [⟨target, iter, ifs, 0⟩] scope pos) 0 it acc env).onRaise (fun x => do noteFrame x env; theTreesLotGoes x)) _ _ s
  refine wpAny_noted ?_
  rw [compTurn_list]
  refine wpAny_bind (wpAny_standAt (wpAny_bind (wpAny_mono (turn n s hI) (fun r s₁ h₁ => ?_) fun _ _ h' => h')))
  cases r with
  | none => exact wpAny_pure h₁
  | some v =>
    refine wpAny_bind (wpAny_mono h₁ (fun _ s₁' h₁' => ?_) fun _ _ h' => h')
    refine wpAny_bind (wpAny_mono h₁' (fun _ s₂ h₂ => wpAny_bind (wpAny_mono h₂ (fun ok s₃ h₃ => ?_) fun _ _ h' => h')) fun _ _ h' => h')
    cases ok with
    | false => exact wpAny_pure ⟨rfl, h₃⟩
    | true =>
      exact wpAny_bind (wpAny_bind (wpAny_mono h₃ (fun x s₄ h₄ => wpAny_bind (wpAny_mono h₄ (fun _ s₅ h₅ => wpAny_pure (wpAny_pure ⟨rfl, h₅⟩)) fun _ _ h' => h')) fun _ _ h' => h'))

section
variable {X : Cx}
/-- [elt for target in iter if ..]: D the new list; W by the turn and a measure, Nx what a turn is to reach -/
def tLc (wi : TI) (g : TG) (tt : TT) (te : TE) (vs : List Nat) : TE := fun σ H Q => wi σ H fun J H1 => ∀ D, H1 D = none → ∃ W : Nat → Nat → Hp → Prop, (∃ m, W 0 m (upd H1 D (.lst []))) ∧ ∀ i m H, W i m H →
  (J.stop i H ∧ Q (.ref D) H) ∨ (J.go i H ∧ ∃ Nx : Hp → Prop, (∀ H', Nx H' → ∃ m', m' < m ∧ W (i + 1) m' H') ∧ ∀ x H', J.yld i H x H' → g x (wipe σ vs) H' fun σ2 H2 => wipe σ2 vs = wipe σ vs ∧ tt σ2 H2 fun b H3 =>
    if b = true then te σ2 H3 fun y H4 => ∃ acc, H4 D = some (.lst acc) ∧ acc.length < sizeLine ∧ Nx (upd H4 D (.lst (acc ++ [y]))) else Nx H3)
theorem lc_core {pins : List (Addr × Obj)} {s : Shared} {σ : St} {H : Hp} {Q : VK} {elt tg iter : Expr} {ifs : List Expr} {scope : Scope} {own : List (Str × Nat)} {pos pos' : Pos} {wi : TI} {g : TG} {tt : TT} {te : TE} {use : Option (Value → Sem Unit)} {Qf : Value → Shared → Prop}
    (hc : X.calm = true) (hN : X.N.Nodup) (I : Inv X pins σ H s) (hi : PI X tg iter wi) (ok : BlkOk X.N X.env.scope scope own)
    (hg : ∀ (s : Shared) (H : Hp) (C : Addr) (cl : List (Str × Addr)) (fp : List Addr), PG (X.blk s H scope (compEnvC scope cl C X.env) fp) tg g) (ht : ∀ (s : Shared) (H : Hp) (C : Addr) (cl : List (Str × Addr)) (fp : List Addr), PTs (X.blk s H scope (compEnvC scope cl C X.env) fp) ifs tt)
    (he : ∀ (s : Shared) (H : Hp) (C : Addr) (cl : List (Str × Addr)) (fp : List Addr), PE (X.blk s H scope (compEnvC scope cl C X.env) fp) elt te) (hs : ∀ x, foldedSetIterable iter X.env x = pure x)
    (h : tLc wi g tt te (own.map (·.2)) σ H Q)
    (hRR : ∀ D C s' m H', Inv X pins σ H' s' → Q (.ref D) H' → s'.heap.Ns C m → FpOk X pins H' C → compPost (model X.prog X.w) X.A X.xe use Qf (.ref D) C (.ok .next) s') :
    wpAny (model X.prog X.w) X.A (comprehension (.ListComp elt [⟨tg, iter, ifs, 0⟩] scope pos) scope X.env pos' (newList []) false (eval iter X.env) use) Qf X.xe s := by
  have hfree : ∀ y ∈ scope.names, y.2 = .free → ∃ c, X.env.cells.lookup y.1 = some c := fun y hy e => by
    rcases ok.free y hy e with k | k
    · exact I.ok.has _ (.inl k)
    · exact I.ok.has _ (.inr k)
  refine wpAny_comprehension_free (use := use) rfl hs (closure_ok hfree) ok.kind (fun y hy e => by rw [ok.uniq y hy, e])
    (thn (hi pins s σ H _ I h) fun xv s1 hx => thn hx fun itv s2 h2 => ?_)
  obtain ⟨it, fp, tn, J, H2, e, I2, T, st2, f2, q⟩ := h2
  subst e
  refine wpAny_newObj_type (newEnv_comp ?_) (by show 0 ≤ sizeLine; decide)
  generalize hD : s2.heap.objs.size = D
  have hDn : H2 D = none := I2.hok.fresh (Nat.le_of_eq hD)
  obtain ⟨W, ⟨m0, w0⟩, turn⟩ := q D hDn
  -- the new list
  generalize hs3 : ({ s2 with heap := s2.heap.push { cls := .type "list", data := .seq ([] : List Value).toArray } } : Shared) = s3
  have I3 : Inv X pins σ (upd H2 D (.lst [])) s3 := by
    rw [← hs3]
    refine I2.laid (t' := s2.toks) (fun b o e => Heap.get?_push_of_some _ e) (Nat.le_of_eq hD) ⟨Nat.zero_le _, [], 0, .nil, ?_⟩
    rw [← hD]
    exact Heap.get?_push_size _ rfl
  have h3 : s3.heap = s2.heap.push { cls := .type "list", data := .seq ([] : List Value).toArray } := by rw [← hs3]
  have sz : ∀ b ∈ fp, b < s2.heap.objs.size := fun b hb => by
    obtain ⟨o, e, _⟩ := T.obj _ _ st2 b hb
    exact Heap.lt_size e
  have f3 : ∀ b ∈ fp, FpOk X pins (upd H2 D (.lst [])) b ∧ b < s3.heap.objs.size := fun b hb => by
    have hlt := sz b hb
    refine ⟨⟨?_, (f2 b hb).2⟩, by rw [h3, Heap.size_push]; exact Nat.lt_succ_of_lt hlt⟩
    rw [upd_ne (by rw [← hD]; exact Nat.ne_of_lt hlt)]
    exact (f2 b hb).1
  have st3 : tn 0 s3.heap := T.keep _ _ _ st2 fun b _ o e => by rw [h3]; exact Heap.get?_push_of_some _ e
  have I4 := block_start I3 ok hN f3
  have pg := hg s3 (upd H2 D (.lst [])) s3.heap.objs.size (cellsFrom (s3.heap.objs.size + 1) scope.names (cloFrom X.env.cells scope.names [])) fp
  have pt := ht s3 (upd H2 D (.lst [])) s3.heap.objs.size (cellsFrom (s3.heap.objs.size + 1) scope.names (cloFrom X.env.cells scope.names [])) fp
  have pe := he s3 (upd H2 D (.lst [])) s3.heap.objs.size (cellsFrom (s3.heap.objs.size + 1) scope.names (cloFrom X.env.cells scope.names [])) fp
  show codeAny _ _ (.compStart (.ListComp elt [⟨tg, iter, ifs, 0⟩] scope pos) 0 (.ref it) (.ref D) (compEnvC scope (cellsFrom (s3.heap.objs.size + 1) scope.names (cloFrom X.env.cells scope.names [])) s3.heap.objs.size X.env)) (compPost (model X.prog X.w) X.A X.xe use Qf (.ref D) s3.heap.objs.size) { s3 with heap := pushCells (s3.heap.push { cls := .type "dict", data := .dict #[] }) scope.names }
  have nfp : ∀ b ∈ fp, (upd H2 D (.lst [])) b = none := fun b hb => (f3 b hb).1.1
  generalize hce : compEnvC scope (cellsFrom (s3.heap.objs.size + 1) scope.names (cloFrom X.env.cells scope.names [])) s3.heap.objs.size X.env = ce at I4 pg pt pe ⊢
  have cL : ce.locals = s3.heap.objs.size := by subst hce; rfl
  generalize hH3 : upd H2 D (.lst []) = H3 at I3 I4 pg pt pe w0 nfp f3
  generalize hs4 : ({ s3 with heap := pushCells (s3.heap.push { cls := .type "dict", data := .dict #[] }) scope.names } : Shared) = s4 at I4 ⊢
  have st4 : tn 0 s4.heap := T.keep _ _ _ st3 fun b _ o e => by rw [← hs4]; exact pushCells_keeps _ _ _ _ (Heap.get?_push_of_some _ e)
  have stat : ∀ {σ' : St} {H' : Hp} {s' : Shared}, Inv (X.blk s3 H3 scope ce fp) [] σ' H' s' → (∀ b ∈ fp, H' b = none) → ∀ b ∈ fp, FpOk (X.blk s3 H3 scope ce fp) [] H' b := fun {σ' H' s'} I' hn b hb =>
    ⟨hn b hb, (I'.ok.exf b hb).1, I'.ok.exfs b hb, .inl hb, fun x c e => (I'.ok.exf b hb).2 x c e, fun p hp => absurd (show p ∈ ([] : List (Addr × Obj)) ++ [] from hp) (by simp)⟩
  have loop : codeAny (model X.prog X.w) X.A (.compLoop (.ListComp elt [⟨tg, iter, ifs, 0⟩] scope pos) 0 (.ref it) (.ref D) ce) (compPost (model X.prog X.w) X.A X.xe use Qf (.ref D) s3.heap.objs.size) s4 := by
    refine compLoop_any (fun n s' => ∃ i H', Inv (X.blk s3 H3 scope ce fp) [] (wipe σ (own.map (·.2))) H' s' ∧ tn i s'.heap ∧ (∀ b ∈ fp, H' b = none) ∧ W i n H') ?_ m0 ⟨0, H3, I4, st4, nfp, w0⟩
    rintro n s5 ⟨i, H5, I5, st5, n5, w5⟩
    rcases turn i n H5 w5 with ⟨stop, qq⟩ | ⟨go, Nx, hNx, step⟩
    · have td := T.done (X.blk s3 H3 scope ce fp) rfl rfl rfl hc i [] s5 _ H5 (fun _ _ => False) I5 (stat I5 n5) st5 stop
      refine thnF td fun r s6 ⟨hr, I6⟩ => ?_
      subst hr
      -- back in the def's context
      have I7 : Inv X pins σ H5 s6 := I3.call' (ch := fp) I6.os I6.base I6.hok I6.bare fun b hb => ⟨(f3 b hb).1.2.2.2.1, (f3 b hb).1.2.1, (f3 b hb).1.2.2.2.2.1, (f3 b hb).1.2.2.2.2.2⟩
      have nC : H5 s3.heap.objs.size = none := by
        have z : H5 ce.locals = none := I6.free
        rw [cL] at z
        exact z
      obtain ⟨m, hn, _⟩ := I6.loc
      have hn : s6.heap.Ns ce.locals m := hn
      rw [cL] at hn
      exact hRR D s3.heap.objs.size s6 m H5 I7 qq hn (I3.fpOk (Nat.le_refl _) nC)
    · have ti := T.item (X.blk s3 H3 scope ce fp) rfl rfl rfl hc i [] s5 _ H5 (fun _ _ => False) I5 (stat I5 n5) st5 go
      refine thnF ti fun r s6 ⟨u, hr, h6⟩ => ?_
      subst hr
      refine thnF h6 fun _ s7 ⟨x, H7, I7, r7, y7, st7, n7⟩ => ?_
      have I7' := I7.pinned (stat I7 n7) (T.obj _ _ st7)
      refine thnF (pg _ s7 _ H7 x u _ I7' r7 (step x H7 y7)) fun _ s8 ⟨σ8, H8, I8, hw8, q8⟩ => ?_
      refine thnF (pt _ s8 σ8 H8 _ I8 q8) fun b s9 ⟨H9, I9, q9⟩ => ?_
      -- the turn's end
      have fin : ∀ {s' : Shared} {H' : Hp}, Inv (X.blk s3 H3 scope ce fp) ([] ++ pinsAt fp s7.heap) σ8 H' s' → Nx H' → ∃ m, m < n ∧ ∃ i H', Inv (X.blk s3 H3 scope ce fp) [] (wipe σ (own.map (·.2))) H' s' ∧ tn i s'.heap ∧ (∀ b ∈ fp, H' b = none) ∧ W i m H' := fun {s' H'} I' nx => by
        obtain ⟨m', hm, w'⟩ := hNx H' nx
        have pin' : ∀ b ∈ fp, ∀ o, s7.heap.get? b = some o → s'.heap.get? b = some o ∧ H' b = none := fun b hb o e =>
          let z := I'.pin (b, o) (List.mem_append_right _ (List.mem_append_right _ (mem_pinsAt hb e)))
          ⟨z.1, z.2.1⟩
        have hl : (wipe σ (own.map (·.2))).length = σ8.length := by rw [← hw8, wipe_length]
        refine ⟨m', hm, i + 1, H', (I'.unpinned (pins := [])).weak hl (fun j v e => ?_), T.keep _ _ _ st7 fun b hb o e => (pin' b hb o e).1, fun b hb => ?_, w'⟩
        · rw [← hw8] at e
          exact (wipe_some e).1
        · obtain ⟨o, e, _⟩ := T.obj _ _ st7 b hb
          exact (pin' b hb o e).2
      cases b with
      | false =>
        simp only [Bool.false_eq_true, if_false] at q9 ⊢
        exact fin I9 q9
      | true =>
        simp only [if_true] at q9 ⊢
        refine thnF (pe _ s9 σ8 H9 _ I9 q9) fun z s10 ⟨yv, H10, I10, r10, acc, hD10, hz10, nx⟩ => ?_
        exact app_ok (X := X.blk s3 H3 scope ce fp) I10 hD10 hz10 r10 fun s11 I11 => fin I11 nx
  exact codeAny_compStart_list loop (T.self X.A 0 _ _ _ st4 loop)
/-- as a value -/
theorem pe_lc {elt tg iter : Expr} {ifs : List Expr} {scope : Scope} {own : List (Str × Nat)} {pos : Pos} {wi : TI} {g : TG} {tt : TT} {te : TE} (hc : X.calm = true) (hN : X.N.Nodup) (hi : PI X tg iter wi) (ok : BlkOk X.N X.env.scope scope own)
    (hg : ∀ (s : Shared) (H : Hp) (C : Addr) (cl : List (Str × Addr)) (fp : List Addr), PG (X.blk s H scope (compEnvC scope cl C X.env) fp) tg g) (ht : ∀ (s : Shared) (H : Hp) (C : Addr) (cl : List (Str × Addr)) (fp : List Addr), PTs (X.blk s H scope (compEnvC scope cl C X.env) fp) ifs tt)
    (he : ∀ (s : Shared) (H : Hp) (C : Addr) (cl : List (Str × Addr)) (fp : List Addr), PE (X.blk s H scope (compEnvC scope cl C X.env) fp) elt te) (hs : ∀ x, foldedSetIterable iter X.env x = pure x := by intro _; rfl) :
    PE X (.ListComp elt [⟨tg, iter, ifs, 0⟩] scope pos) (tLc wi g tt te (own.map (·.2))) := by
  intro pins s σ H Q I h
  rw [eval_ListComp]
  refine lc_core hc hN I hi ok hg ht he hs h fun D C s' m H' I' q hn f => ⟨m, hn, fun h'' sb => ?_⟩
  obtain ⟨f0, f1, f2, f3, f4, f5⟩ := f
  exact ⟨.ref D, H', I'.turned (t' := s'.toks) (fun b o hb e => (sb.2 b hb).trans e) f0 f1 f3 f4 f5, rfl, q⟩
/-- name = [..] on one line, the name a local -/
theorem ps_setLc {i : Nat} {y : Str} {py : Pos} {elt tg iter : Expr} {ifs : List Expr} {scope : Scope} {own : List (Str × Nat)} {pos spos : Pos} {wi : TI} {g : TG} {tt : TT} {te : TE} (hc : X.calm = true) (hN : X.N.Nodup) (hy : X.N[i]? = some y) (hyl : X.env.scope.names.lookup y = some .local)
    (hsw : swapsWith (.ListComp elt [⟨tg, iter, ifs, 0⟩] scope pos) (some (.Name y py)) spos.line X.env = pure true) (hi : PI X tg iter wi) (ok : BlkOk X.N X.env.scope scope own)
    (hg : ∀ (s : Shared) (H : Hp) (C : Addr) (cl : List (Str × Addr)) (fp : List Addr), PG (X.blk s H scope (compEnvC scope cl C X.env) fp) tg g) (ht : ∀ (s : Shared) (H : Hp) (C : Addr) (cl : List (Str × Addr)) (fp : List Addr), PTs (X.blk s H scope (compEnvC scope cl C X.env) fp) ifs tt)
    (he : ∀ (s : Shared) (H : Hp) (C : Addr) (cl : List (Str × Addr)) (fp : List Addr), PE (X.blk s H scope (compEnvC scope cl C X.env) fp) elt te) (hs : ∀ x, foldedSetIterable iter X.env x = pure x := by intro _; rfl) :
    PS X (.Assign [.Name y py] (.ListComp elt [⟨tg, iter, ifs, 0⟩] scope pos) spos) (tAsg (tLc wi g tt te (own.map (·.2))) (gName i)) := by
  intro pins s σ H D I h
  rw [exec_Assign_Name_used _ _ _ _ hsw]
  refine wpAny_bind (wpAny_standAt (wpAny_bind ?_))
  show wpAny _ X.A (do let _ ← comprehension (.ListComp elt [⟨tg, iter, ifs, 0⟩] scope pos) scope X.env (firstIterPos [⟨tg, iter, ifs, 0⟩] pos) (newList []) false (eval iter X.env) (some (assign (.Name y py) X.env))) _ _ s
  have h : tLc wi g tt te (own.map (·.2)) σ H (fun x H1 => gName i x σ H1 D.nx) := h
  refine wpAny_bind (thn (lc_core (Qf := fun _ s' => SP X pins D .next s') hc hN I hi ok hg ht he hs h fun L C s' m H' I' q hn f => ?_) fun _ s' hq => wpAny_pure (wpAny_pure hq))
  show wpAny _ _ (assign (.Name y py) X.env (.ref L)) _ _ _
  refine wpAny_assign_Name (store_ok2 (v := V.ref L) I' hN hy (.inl hyl) rfl (fun s2 I2 ⟨a, sb, ha⟩ => ?_) (.inr hyl))
  obtain ⟨f0, f1, f2, f3, f4, f5⟩ := f
  have haC : C ≠ a := by
    rcases ha with z | z
    · rw [z]; exact f1
    · exact fun e => f4 y a z e.symm
  refine ⟨m, hn.sameBut sb haC, fun h3 sb3 => ?_⟩
  exact ⟨_, H', I2.turned (t' := s2.toks) (fun b o hb e => (sb3.2 b hb).trans e) f0 f1 f3 f4 f5, q⟩
theorem sw_true {elt : Expr} {gs : List Comprehension} {scope : Scope} {pos py : Pos} {y : Str} {l : Nat} {env : Env} (hk : env.scope.kind = .function) (hy : env.scope.names.lookup y = some .local) (hl : (py.line == pos.line) = true)
    (ha : (scope.names.any fun (n, k) => n == y && (k == .local || k == .cell)) = false) : swapsWith (.ListComp elt gs scope pos) (some (.Name y py)) l env = pure true := by
  have ky : env.kindOf y = some .local := hy
  have hb : env.blockKind = .function := by unfold Env.blockKind; rw [hk]; rfl
  unfold swapsWith
  simp only [hb, ky, ha, Expr.pos, hl]
  rfl
end

/-! ### the forms one uses -/
/-- over a range: Pv by the turn and the heap (the new list at D within) -/
theorem lc_range {lo : Int} {n : Nat} {g : TG} {tt : TT} {te : TE} {vs : List Nat} {σ : St} {H1 : Hp} {D : Addr} {Qd : Hp → Prop} (Pv : Nat → Hp → Prop) (h0 : Pv 0 (upd H1 D (.lst [])))
    (hs : ∀ i H, i < n → Pv i H → g (.int (lo + i)) (wipe σ vs) H fun σ2 H2 => wipe σ2 vs = wipe σ vs ∧ tt σ2 H2 fun b H3 =>
      if b = true then te σ2 H3 fun y H4 => ∃ acc, H4 D = some (.lst acc) ∧ acc.length < sizeLine ∧ Pv (i + 1) (upd H4 D (.lst (acc ++ [y]))) else Pv (i + 1) H3) (hd : ∀ H, Pv n H → Qd H) :
    ∃ W : Nat → Nat → Hp → Prop, (∃ m, W 0 m (upd H1 D (.lst []))) ∧ ∀ i m H, W i m H →
      ((Itr lo n).stop i H ∧ Qd H) ∨ ((Itr lo n).go i H ∧ ∃ Nx : Hp → Prop, (∀ H', Nx H' → ∃ m', m' < m ∧ W (i + 1) m' H') ∧ ∀ x H', (Itr lo n).yld i H x H' → g x (wipe σ vs) H' fun σ2 H2 => wipe σ2 vs = wipe σ vs ∧ tt σ2 H2 fun b H3 =>
        if b = true then te σ2 H3 fun y H4 => ∃ acc, H4 D = some (.lst acc) ∧ acc.length < sizeLine ∧ Nx (upd H4 D (.lst (acc ++ [y]))) else Nx H3) := by
  refine ⟨fun i m H => m = n - i ∧ i ≤ n ∧ Pv i H, ⟨n, by simp, Nat.zero_le _, h0⟩, ?_⟩
  rintro i m H ⟨rfl, hi, p⟩
  by_cases hlt : i < n
  · refine .inr ⟨hlt, Pv (i + 1), fun H' p' => ⟨n - (i + 1), by omega, rfl, hlt, p'⟩, fun x H' y => ?_⟩
    obtain ⟨e, y⟩ := y
    subst e y
    exact hs i _ hlt p
  · have e : i = n := by omega
    subst e
    exact .inl ⟨Nat.le_refl _, hd H p⟩
/-- over a list that the block leaves as it is -/
theorem lc_list {K : PySem.W.Frag} {a : Addr} {xs : List V} {g : TG} {tt : TT} {te : TE} {vs : List Nat} {σ : St} {H1 : Hp} {D : Addr} {Qd : Hp → Prop} (Pv : Nat → Hp → Prop) (h0 : Pv 0 (upd H1 D (.lst []))) (hl : ∀ i H, i ≤ xs.length → Pv i H → SqL K H a xs)
    (hs : ∀ i x H, xs[i]? = some x → Pv i H → g x (wipe σ vs) H fun σ2 H2 => wipe σ2 vs = wipe σ vs ∧ tt σ2 H2 fun b H3 =>
      if b = true then te σ2 H3 fun y H4 => ∃ acc, H4 D = some (.lst acc) ∧ acc.length < sizeLine ∧ Pv (i + 1) (upd H4 D (.lst (acc ++ [y]))) else Pv (i + 1) H3) (hd : ∀ H, Pv xs.length H → Qd H) :
    ∃ W : Nat → Nat → Hp → Prop, (∃ m, W 0 m (upd H1 D (.lst []))) ∧ ∀ i m H, W i m H →
      ((Itl K a).stop i H ∧ Qd H) ∨ ((Itl K a).go i H ∧ ∃ Nx : Hp → Prop, (∀ H', Nx H' → ∃ m', m' < m ∧ W (i + 1) m' H') ∧ ∀ x H', (Itl K a).yld i H x H' → g x (wipe σ vs) H' fun σ2 H2 => wipe σ2 vs = wipe σ vs ∧ tt σ2 H2 fun b H3 =>
        if b = true then te σ2 H3 fun y H4 => ∃ acc, H4 D = some (.lst acc) ∧ acc.length < sizeLine ∧ Nx (upd H4 D (.lst (acc ++ [y]))) else Nx H3) := by
  refine ⟨fun i m H => m = xs.length - i ∧ i ≤ xs.length ∧ Pv i H, ⟨xs.length, by simp, Nat.zero_le _, h0⟩, ?_⟩
  rintro i m H ⟨rfl, hi, p⟩
  have q := hl i H hi p
  by_cases hlt : i < xs.length
  · refine .inr ⟨⟨xs, xs[i], q, by simp [hlt]⟩, Pv (i + 1), fun H' p' => ⟨xs.length - (i + 1), by omega, rfl, hlt, p'⟩, fun x H' y => ?_⟩
    obtain ⟨e, y⟩ := y
    subst e
    exact hs i x _ (y xs q) p
  · have e : i = xs.length := by omega
    subst e
    exact .inl ⟨⟨xs, q, Nat.le_refl _⟩, hd H p⟩
def blkC (N : List Str) (sc scope : Scope) (own : List (Str × Nat)) : Bool :=
  (match scope.kind with | .function => true | _ => false) && (scope.names.all fun y => decide (scope.names.lookup y.1 = some y.2)) && (own.all fun p => decide (N[p.2]? = some p.1)) &&
    (scope.names.all fun y => match y.2 with
      | .free => (match sc.names.lookup y.1 with | some .cell => true | some .free => true | _ => false)
      | .local => decide (y.1 ∈ own.map (·.1)) || decide (y.1 ∉ N)
      | .cell => decide (y.1 ∈ own.map (·.1)) || decide (y.1 ∉ N)
      | _ => true)
theorem blkOk_by {N : List Str} {sc scope : Scope} {own : List (Str × Nat)} (h : blkC N sc scope own = true) : BlkOk N sc scope own := by
  unfold blkC at h
  simp only [Bool.and_eq_true, List.all_eq_true, decide_eq_true_eq] at h
  obtain ⟨⟨⟨h1, h2⟩, h3⟩, h4⟩ := h
  refine ⟨?_, h2, h3, fun y hy e => ?_, fun y hy e => ?_⟩
  · split at h1
    · assumption
    · cases h1
  · have q := h4 y hy
    simp only [e] at q
    split at q <;> first | exact .inl (by assumption) | exact .inr (by assumption) | cases q
  · have q := h4 y hy
    rcases e with e | e <;> (simp only [e, Bool.or_eq_true, decide_eq_true_eq] at q; exact q)
end L2

namespace L2
open PySem PySem.Spec PyProof.Rows

section
variable {prog : Program} {w : World} {A : Around} {R : Result → Shared → Prop} {s : Shared} {elt t0 i0 t1 i1 : Expr} {ifs0 ifs1 : List Expr} {scope : Scope} {pos : Pos} {it acc : Value} {env : Env}
end

section
variable {X : Cx}
/-- [elt for tg in iter if .. for tg1 in iter1 if ..]: behind the first clause's store and tests the second source's own loop, from which Nx is reached. vs: the block's names; vs1: those of the second target -/
def tLc2 (wi : TI) (g : TG) (tt : TT) (wi1 : TI) (g1 : TG) (tt1 : TT) (te : TE) (vs vs1 : List Nat) : TE := fun σ H Q => wi σ H fun J H1 => ∀ D, H1 D = none → ∃ W : Nat → Nat → Hp → Prop, (∃ m, W 0 m (upd H1 D (.lst []))) ∧ ∀ i m H, W i m H →
  (J.stop i H ∧ Q (.ref D) H) ∨ (J.go i H ∧ ∃ Nx : Hp → Prop, (∀ H', Nx H' → ∃ m', m' < m ∧ W (i + 1) m' H') ∧ ∀ x H', J.yld i H x H' → g x (wipe σ vs) H' fun σ2 H2 => wipe σ2 vs = wipe σ vs ∧ tt σ2 H2 fun b H3 =>
    if b = true then wi1 σ2 H3 fun J1 H4 => ∃ W1 : Nat → Nat → Hp → Prop, (∃ m, W1 0 m H4) ∧ ∀ j k H, W1 j k H →
      (J1.stop j H ∧ Nx H) ∨ (J1.go j H ∧ ∃ Nx1 : Hp → Prop, (∀ H', Nx1 H' → ∃ k', k' < k ∧ W1 (j + 1) k' H') ∧ ∀ x H', J1.yld j H x H' → g1 x (wipe σ2 vs1) H' fun σ3 H5 => wipe σ3 vs1 = wipe σ2 vs1 ∧ tt1 σ3 H5 fun b H6 =>
        if b = true then te σ3 H6 fun y H7 => ∃ acc, H7 D = some (.lst acc) ∧ acc.length < sizeLine ∧ Nx1 (upd H7 D (.lst (acc ++ [y]))) else Nx1 H6)
    else Nx H3)
end
end L2

namespace L2
open PySem PySem.Spec PyProof.Rows

/-! ### lists of pairs as tables -/
section
variable {κ : Type} [DecidableEq κ]
def valV (kvs : List (κ × V)) (k : κ) : Option V := (kvs.find? fun kv => decide (kv.1 = k)).map (·.2)
/-- in its place, or at the end -/
def putK (kvs : List (κ × V)) (k : κ) (v : V) : List (κ × V) :=
  if (kvs.any fun kv => decide (kv.1 = k)) = true then kvs.map (fun kv => if kv.1 = k then (kv.1, v) else kv) else kvs ++ [(k, v)]
def dropK (kvs : List (κ × V)) (k : κ) : List (κ × V) := kvs.filter fun kv => decide (kv.1 ≠ k)

end


/-! ### a tracked dict, its keys ints and texts or tuples of these -/
/-- raw entries of a dict with tuple keys -/
abbrev KT (H : Hp) : List (List Key × V) → List (List Key × Addr × Value) → Prop := Paired fun p q => p.1 = q.1 ∧ H q.2.1 = some (.tup (p.1.map kV)) ∧ RelV p.2 q.2.2
section
variable {P : Program} {w : World} {H : Hp} {h : Heap} {a : Addr}
end

/-- what the dict at a holds at the key y -/
def DGet (H : Hp) (a : Addr) (y : V) (r : Option V) : Prop :=
  (∃ kvs k, Rd H a (.dK kvs) ∧ y = kV k ∧ r = valV kvs k) ∨ ∃ kvs k b, Rd H a (.dT kvs) ∧ y = .ref b ∧ H b = some (.tup (k.map kV)) ∧ r = valV kvs k
/-- the heap behind a[y] = v -/
def DPut (H : Hp) (a : Addr) (y v : V) (H' : Hp) : Prop :=
  (∃ kvs k, H a = some (.dK kvs) ∧ y = kV k ∧ kvs.length < sizeLine ∧ H' = upd H a (.dK (putK kvs k v))) ∨
  ∃ kvs k b, H a = some (.dT kvs) ∧ y = .ref b ∧ H b = some (.tup (k.map kV)) ∧ kvs.length < sizeLine ∧ H' = upd H a (.dT (putK kvs k v))
section
variable {X : Cx} {pins : List (Addr × Obj)} {σ : St} {H : Hp} {s : Shared} {a : Addr} {y v : V} {u r : Value} {o : Option V} {A : Around} {E : Value → Shared → Prop}

end

section
variable {X : Cx} {pins : List (Addr × Obj)} {σ : St} {H : Hp} {s : Shared} {a : Addr} {kvs : List (Key × V)} {k : Key} {u : Value} {A : Around} {E : Value → Shared → Prop}
end


/-! ### readings and rules -/
/-- the element of a subscription, not a slice -/
def NoSl (i : Expr) : Prop := ∀ ov iv, subscripted i false ov iv = operate [ov, iv] (getItem ov iv)
/-- d[y] -/
def tDGet (td ty : TE) : TE := fun σ H Q => td σ H fun x H1 => ty σ H1 fun y H2 => ∃ a v, x = .ref a ∧ DGet H2 a y (some v) ∧ Q v H2
/-- y in d, y not in d -/
def tDIn (ty td : TE) : TE := fun σ H Q => ty σ H fun y H1 => td σ H1 fun x H2 => ∃ a o, x = .ref a ∧ DGet H2 a y o ∧ Q (.bl o.isSome) H2
def tDNotIn (ty td : TE) : TE := fun σ H Q => ty σ H fun y H1 => td σ H1 fun x H2 => ∃ a o, x = .ref a ∧ DGet H2 a y o ∧ Q (.bl (!o.isSome)) H2
/-- d[y] = v -/
def sDPut (td ty tv : TE) : TS := fun D σ H => tv σ H fun v H1 => td σ H1 fun x H2 => ty σ H2 fun y H3 => ∃ a H4, x = .ref a ∧ DPut H3 a y v H4 ∧ D.nx σ H4
/-- d[y] op= v -/
def sDAug (td ty tv : TE) (rd : V → V → Hp → VK → Prop) : TS := fun D σ H => td σ H fun x H1 => ty σ H1 fun y H2 => ∃ a v, x = .ref a ∧ DGet H2 a y (some v) ∧
  tv σ H2 fun y2 H3 => rd v y2 H3 fun z H4 => ∃ H5, DPut H4 a y z H5 ∧ D.nx σ H5
/-- del d[y] -/
def sDDel (td ty : TE) : TS := fun D σ H => td σ H fun x H1 => ty σ H1 fun y H2 => ∃ a kvs k, x = .ref a ∧ H2 a = some (.dK kvs) ∧ y = kV k ∧ (valV kvs k).isSome = true ∧ D.nx σ (upd H2 a (.dK (dropK kvs k)))

section
variable {X : Cx} {o i e value : Expr} {pos pos' tpos : Pos} {td ty tv : TE}
end


/-! ### displays -/
/-- {}, to be a dict of the kind that is wanted -/
def tDNewK : TE := fun _ H Q => ∀ p, H p = none → Q (.ref p) (upd H p (.dK []))
def tDNewT : TE := fun _ H Q => ∀ p, H p = none → Q (.ref p) (upd H p (.dT []))
section
variable {X : Cx} {pos : Pos}
end

/-- the pairs of a display, from the left -/
def tPairs : List (TE × TE) → St → Hp → (List (V × V) → Hp → Prop) → Prop
  | [], _, H, Q => Q [] H
  | (tk, tv) :: r, σ, H, Q => tk σ H fun x H1 => tv σ H1 fun y H2 => tPairs r σ H2 fun ps H3 => Q ((x, y) :: ps) H3
abbrev VV : List (V × V) → List (Value × Value) → Prop := Paired fun p q => RelV p.1 q.1 ∧ RelV p.2 q.2
def PPs (X : Cx) (pos : Pos) (keys : List (Option Expr)) (values : List Expr) (trs : List (TE × TE)) : Prop :=
  ∀ (pins : List (Addr × Obj)) (s : Shared) (σ : St) (H : Hp) (Q : List (V × V) → Hp → Prop), Inv X pins σ H s → tPairs trs σ H Q →
    wpAny (model X.prog X.w) X.A (evalPairs (pairTrees keys values X.env pos)) (fun vs s' => ∃ ps H', Inv X pins σ H' s' ∧ VV ps vs ∧ Q ps H') X.xe s
def mergeK (kvs more : List (Key × V)) : List (Key × V) := more.foldl (fun acc kv => putK acc kv.1 kv.2) kvs
/-- {k: v, ..} with keys ints and texts; the new dict stands empty while the pairs are made -/
def tDisp (trs : List (TE × TE)) : TE := fun σ H Q => ∀ p, H p = none → tPairs trs σ (upd H p (.dK [])) fun ps H2 => H2 p = some (.dK []) ∧ ∃ kvs : List (Key × V), ps = kvs.map (fun kv => (kV kv.1, kv.2)) ∧ kvs.length ≤ 15 ∧ Q (.ref p) (upd H2 p (.dK (mergeK [] kvs)))
/-! ### methods -/
/-- a method call o.m(e) of a built-in, with one argument: what must be seen of the text -/
structure M1 (X : Cx) (o : Expr) (m : Str) (apos : Pos) (e : Expr) (cpos : Pos) : Prop where
  base : attributeBase o m X.env (eval o X.env) = eval o X.env
  few : ((backTo cpos (starEach [e] X.env)).all (fun x => !x.1) && (backToKw cpos (keywordEach [] X.env)).all (fun x => x.1.isSome)
    && decide (([e] : List Expr).length + ([] : List Keyword).length + (if ([] : List Keyword).isEmpty then 0 else 1) < 30)) = true
  line : (apos.endLine == cpos.line) = true
  trees : backTo cpos (starEach [e] X.env) = [(false, eval e X.env)]
structure M2 (X : Cx) (o : Expr) (m : Str) (apos : Pos) (e f : Expr) (cpos : Pos) : Prop where
  base : attributeBase o m X.env (eval o X.env) = eval o X.env
  few : ((backTo cpos (starEach [e, f] X.env)).all (fun x => !x.1) && (backToKw cpos (keywordEach [] X.env)).all (fun x => x.1.isSome)
    && decide (([e, f] : List Expr).length + ([] : List Keyword).length + (if ([] : List Keyword).isEmpty then 0 else 1) < 30)) = true
  line : (apos.endLine == cpos.line) = true
  trees : backTo cpos (starEach [e, f] X.env) = [(false, eval e X.env), (false, eval f X.env)]

/-- a is a dict, whatever its keys -/
def IsD (H : Hp) (a : Addr) : Prop := (∃ kvs, Rd H a (.dK kvs)) ∨ ∃ kvs, Rd H a (.dT kvs)
section
variable {X : Cx} {pins : List (Addr × Obj)} {σ : St} {H : Hp} {s : Shared} {a : Addr} {y d : V} {u r : Value} {o : Option V} {A : Around} {E : Value → Shared → Prop}
end

def tDGet1 (td ty : TE) : TE := fun σ H Q => td σ H fun x H1 => ∃ a, x = .ref a ∧ IsD H1 a ∧ ty σ H1 fun y H2 => ∃ o, DGet H2 a y o ∧ Q (o.getD .non) H2
def tDGet2 (td ty tx : TE) : TE := fun σ H Q => td σ H fun x H1 => ∃ a, x = .ref a ∧ IsD H1 a ∧ ty σ H1 fun y H2 => tx σ H2 fun z H3 => ∃ o, DGet H3 a y o ∧ Q (o.getD z) H3
/-- d.pop(k): there; d.pop(k, x): there or not -/
def tDPop1 (td ty : TE) : TE := fun σ H Q => td σ H fun x H1 => ∃ a, x = .ref a ∧ IsD H1 a ∧ ty σ H1 fun y H2 => ∃ kvs k v, H2 a = some (.dK kvs) ∧ y = kV k ∧ valV kvs k = some v ∧ Q v (upd H2 a (.dK (dropK kvs k)))
def tDPop2 (td ty tx : TE) : TE := fun σ H Q => td σ H fun x H1 => ∃ a, x = .ref a ∧ IsD H1 a ∧ ty σ H1 fun y H2 => tx σ H2 fun z H3 => ∃ kvs k, H3 a = some (.dK kvs) ∧ y = kV k ∧
  (∀ v, valV kvs k = some v → Q v (upd H3 a (.dK (dropK kvs k)))) ∧ (valV kvs k = none → Q z H3)
section
variable {X : Cx} {o e f : Expr} {apos cpos : Pos} {td ty tx : TE}
end

/-! ### dict(d): a copy -/
section
variable {X : Cx} {pins : List (Addr × Obj)} {σ : St} {H : Hp} {s : Shared} {a : Addr} {kvs : List (Key × V)} {A : Around} {E : Value → Shared → Prop}
end


section
variable {X : Cx} {pins : List (Addr × Obj)} {σ : St} {H : Hp} {s : Shared} {a : Addr} {y : V} {u : Value} {A : Around} {E : Value → Shared → Prop}
end
end L2

namespace L2
open PySem PySem.Spec PyProof.Rows

section
variable {prog : Program} {w : World} {A : Around} {E : Value → Shared → Prop}
end

section
variable {X : Cx}
end
end L2

namespace L2
open PySem PySem.Spec PyProof.Rows

section
variable {X : Cx} {pins : List (Addr × Obj)} {σ : St} {H : Hp} {s : Shared} {h' : Heap}
/-! ### locking a thing while a statement runs -/
end
/-- the statement runs while the thing at d is locked (read, not written); d and what stands there are the reading's choice -/
def tLock (t : TS) : TS := fun D σ H => ∃ d u, H d = some u ∧ Mut (some u) ∧ ∀ od, t ⟨fun σ' H' => H' d = some (.frz od u) ∧ D.nx σ' (upd H' d u), fun v H' => H' d = some (.frz od u) ∧ D.rt v (upd H' d u), fun σ' H' => H' d = some (.frz od u) ∧ D.bk σ' (upd H' d u), fun σ' H' => H' d = some (.frz od u) ∧ D.ct σ' (upd H' d u)⟩ σ (upd H d (.frz od u))
def tLockE (t : TE) : TE := fun σ H Q => ∃ d u, H d = some u ∧ Mut (some u) ∧ ∀ od, t σ (upd H d (.frz od u)) fun v H' => H' d = some (.frz od u) ∧ Q v (upd H' d u)
section
variable {X : Cx}
/-! ### one iterator just laid -/
theorem pi_one {tg : Expr} {pins : List (Addr × Obj)} {σ : St} {H : Hp} {s : Shared} {R : It → Hp → Prop} {J : It} {tn : Nat → Heap → Prop} {tk : Nat} (I : Inv X pins σ H s) (o : Obj)
    (T : Turn X.prog X.w X.K tg J [s.heap.objs.size] s.heap.objs.size tn) (st : tn 0 (s.heap.push o)) (q : R J H) : PIE X pins σ tg R (.ref s.heap.objs.size) { s with heap := s.heap.push o, toks := tk } := by
  refine ⟨s.heap.objs.size, [s.heap.objs.size], tn, J, H, rfl, I.kept fun b ob e => Heap.get?_push_of_some _ e, T, st, fun b hb => ?_, q⟩
  have e : b = s.heap.objs.size := by simpa using hb
  subst e
  exact I.fpOk (Nat.le_refl _) (I.hok.fresh (Nat.le_refl _))
end

/-! ### range with a step -/
/-- lo, lo + c, .. (n of them) -/
def Itc (lo c : Int) (n : Nat) : It := ⟨fun i _ => i < n, fun i H x H' => H' = H ∧ x = .int (lo + (i : Nat) * c), fun i _ => n ≤ i⟩
/-- range(i, j, c): small bounds, n items -/
def RgC (i j c : Int) (n : Nat) : Prop := c ≠ 0 ∧ c.natAbs < 1073741824 ∧ Builtin.Range.small i j c = true ∧ Builtin.Range.rangeSize i j c = n
def iRng3 (ta : TA) : TI := fun σ H R => ta σ H fun vs H1 => ∃ (i j c : Int) (n : Nat), vs = [.int i, .int j, .int c] ∧ RgC i j c n ∧ R (Itc i c n) H1
section
variable {X : Cx} {tg : Expr}
end
/-! ### reversed(list) -/
/-- the list at a (n items at the start, which the loop leaves there), from its end -/
def Itv (K : PySem.W.Frag) (a : Addr) (n : Nat) : It :=
  ⟨fun i H => i < n ∧ ∃ (xs : List V) (x : V), SqL K H a xs ∧ xs[n - 1 - i]? = some x, fun i H x H' => H' = H ∧ ∀ xs, SqL K H a xs → xs[n - 1 - i]? = some x, fun i _ => n ≤ i⟩
def iRev (K : PySem.W.Frag) (ta : TA) : TI := fun σ H R => ta σ H fun vs H1 => ∃ (a : Addr) (xs : List V), vs = [.ref a] ∧ SqL K H1 a xs ∧ R (Itv K a xs.length) H1
section
variable {X : Cx} {tg : Expr}
end

/-! ### a str -/
def Its (x : Str) : It := ⟨fun i _ => i < x.cps.size, fun i H v H' => H' = H ∧ ∃ c, x.cps[i]? = some c ∧ v = .str ⟨#[c]⟩, fun i _ => x.cps.size ≤ i⟩
theorem turn_str {P : Program} {w : World} {K : PySem.W.Frag} {tg : Expr} (it : Addr) (x : Str) (t : Tok) (ty : String) (hty : ty = "str_ascii_iterator" ∨ ty = "str_iterator") :
    Turn P w K tg (Its x) [it] it (fun i h => h.IsStrIter it ty x t i) where
  mem := by simp
  obj := fun i h st b hb => by
    have e : b = it := by simpa using hb
    subst e
    obtain ⟨o, e, c, d⟩ := st
    exact ⟨o, e, fun v z => by rw [d] at z; cases z⟩
  keep := fun i h h' st k => let ⟨o, ho, r⟩ := st; ⟨o, k it (by simp) o ho, r⟩
  item := by
    intro X hP hw hK hc i pins s σ H E I hf st hg
    subst hP hw hK
    obtain ⟨f0, f1, f2, f3, f4, f5⟩ := hf it (by simp)
    have W : Walks X.prog X.w X.A it [it] [it] x.cps.size (SignAt x) (fun i h => h.IsStrIter it ty x t i) := by
      rcases hty with e | e
      · rw [e]; exact Walks.strAscii (I.ok.hd hc) it x t
      · rw [e]; exact Walks.strWide (I.ok.hd hc) it x t
    have hno : ["enumerate", "zip", "dict_itemiterator", "dict_reverseitemiterator", "odict_iterator", "itertools.zip_longest", "itertools.pairwise"].contains ty = false := by
      rcases hty with e | e
      · rw [e]; decide
      · rw [e]; decide
    refine W.item i s _ _ hg st fun v h' tk hv st' kk => ?_
    obtain ⟨c, u, hcx, rfl⟩ := hv
    have I1 : Inv X pins σ H { s with heap := h', toks := tk } := I.turned (fun b o hb e => kk b o (by simpa using hb) e) f0 f1 f3 f4 f5
    obtain ⟨oi, e, cc, dd⟩ := id st'
    exact ⟨_, rfl, go_of (s := { s with heap := h', toks := tk }) e cc dd hno ⟨.str ⟨#[c]⟩, H, I1, ⟨u, rfl⟩, ⟨rfl, c, hcx, rfl⟩, st', fun b hb => (hf b hb).1⟩⟩
  done := by
    intro X hP hw hK hc i pins s σ H E I hf st hg
    subst hP hw hK
    obtain ⟨f0, f1, f2, f3, f4, f5⟩ := hf it (by simp)
    have hx : x.cps[i]? = none := Array.getElem?_eq_none hg
    rcases hty with e | e
    · rw [e] at st
      exact wpAny_pyNext_ascii_end (I.ok.hd hc) st hx fun h' eb => ⟨rfl, I.turned (t' := s.toks) (fun b o hb e => eb b o hb e) f0 f1 f3 f4 f5⟩
    · rw [e] at st
      exact wpAny_pyNext_wide_end (I.ok.hd hc) st hx fun h' eb => ⟨rfl, I.turned (t' := s.toks) (fun b o hb e => eb b o hb e) f0 f1 f3 f4 f5⟩
  self := fun A i s Q E st h => by
    rcases hty with e | e
    · rw [e] at st; exact wpAny_pyIter_striter_ascii st h
    · rw [e] at st; exact wpAny_pyIter_striter_wide st h
def iStr (te : TE) : TI := fun σ H R => te σ H fun v H1 => ∃ x, v = .str x ∧ R (Its x) H1
theorem pi_str {X : Cx} {tg e : Expr} {te : TE} (he : PE X e te) : PI X tg e (iStr te) := by
  intro pins s σ H R I h
  refine thn (he pins s σ H _ I h) fun v s1 ⟨y, H1, I1, r1, x, ex, q⟩ => ?_
  subst ex
  obtain ⟨t, rfl⟩ := r1
  cases ha : x.cps.all (· < 128)
  · exact wpAny_pyIter_wide ha (pi_one (tk := s1.toks) I1 _ (turn_str _ x t "str_iterator" (.inr rfl)) ⟨_, Heap.get?_push_size _ rfl, rfl, rfl⟩ q)
  · exact wpAny_pyIter_ascii ha (pi_one (tk := s1.toks) I1 _ (turn_str _ x t "str_ascii_iterator" (.inl rfl)) ⟨_, Heap.get?_push_size _ rfl, rfl, rfl⟩ q)

/-! ### a dict's keys: any dict's entries -/
section
variable {prog : Program} {w : World} {A : Around} {E : Value → Shared → Prop} {s : Shared}
end

/-! ### a locked dict -/
section
variable {X : Cx} {pins : List (Addr × Obj)} {σ : St} {H : Hp} {s : Shared} {d : Addr} {o : Obj}
end

/-- the keys of the locked dict at d, in their order -/
def Itk (d : Addr) (o : Obj) (kvs : List (Key × V)) : It :=
  ⟨fun i H => H d = some (.frz o (.dK kvs)) ∧ i < kvs.length, fun i H x H' => H' = H ∧ ∃ k v, kvs[i]? = some (k, v) ∧ x = kV k, fun i H => H d = some (.frz o (.dK kvs)) ∧ kvs.length ≤ i⟩
/-- .. of tuple keys: the key's own tuple -/
def Itkt (d : Addr) (o : Obj) (kvs : List (List Key × V)) : It :=
  ⟨fun i H => H d = some (.frz o (.dT kvs)) ∧ i < kvs.length, fun i H x H' => H' = H ∧ ∃ (k : List Key) (v : V) (q : Addr), kvs[i]? = some (k, v) ∧ x = .ref q ∧ H q = some (.tup (k.map kV)), fun i H => H d = some (.frz o (.dT kvs)) ∧ kvs.length ≤ i⟩
/-- the values -/
def Itd (d : Addr) (o : Obj) (kvs : List (Key × V)) : It :=
  ⟨fun i H => H d = some (.frz o (.dK kvs)) ∧ i < kvs.length, fun i H x H' => H' = H ∧ ∃ k, kvs[i]? = some (k, x), fun i H => H d = some (.frz o (.dK kvs)) ∧ kvs.length ≤ i⟩
/-- the pairs, each a new tuple -/
def Iti (d : Addr) (o : Obj) (kvs : List (Key × V)) : It :=
  ⟨fun i H => H d = some (.frz o (.dK kvs)) ∧ i < kvs.length, fun i H x H' => ∃ T k v, kvs[i]? = some (k, v) ∧ x = .ref T ∧ H T = none ∧ H' = upd H T (.tup [kV k, v]), fun i H => H d = some (.frz o (.dK kvs)) ∧ kvs.length ≤ i⟩
section
variable {P : Program} {w : World} {K : PySem.W.Frag} {tg : Expr} {d : Addr} {o : Obj} {es : Array DictEntry} {ep : Nat}
end

/-! ### for k in d, d.keys(), d.values(), d.items() -/
/-- the dict is locked (tLock, or by the caller) -/
def iKeys (td : TE) : TI := fun σ H R => td σ H fun x H1 => ∃ d o, x = .ref d ∧ ((∃ kvs, H1 d = some (.frz o (.dK kvs)) ∧ R (Itk d o kvs) H1) ∨ ∃ kvs, H1 d = some (.frz o (.dT kvs)) ∧ R (Itkt d o kvs) H1)
def iVals (td : TE) : TI := fun σ H R => td σ H fun x H1 => ∃ d o kvs, x = .ref d ∧ H1 d = some (.frz o (.dK kvs)) ∧ R (Itd d o kvs) H1
def iItems (td : TE) : TI := fun σ H R => td σ H fun x H1 => ∃ d o kvs, x = .ref d ∧ H1 d = some (.frz o (.dK kvs)) ∧ R (Iti d o kvs) H1
def iKeysM (td : TE) : TI := fun σ H R => td σ H fun x H1 => ∃ d o kvs, x = .ref d ∧ H1 d = some (.frz o (.dK kvs)) ∧ R (Itk d o kvs) H1
section
variable {X : Cx} {tg e : Expr} {td : TE} {apos cpos : Pos}
end

/-! ### enumerate(list) -/
/-- the list at a as it stands at each turn, each item in a new pair -/
def Ite (K : PySem.W.Frag) (a : Addr) : It :=
  ⟨fun i H => ∃ (xs : List V) (x : V), SqL K H a xs ∧ xs[i]? = some x, fun i H v H' => ∃ T x, v = .ref T ∧ H T = none ∧ H' = upd H T (.tup [.int (i : Nat), x]) ∧ ∀ xs, SqL K H a xs → xs[i]? = some x, fun i H => ∃ xs : List V, SqL K H a xs ∧ xs.length ≤ i⟩
def iEnum (K : PySem.W.Frag) (ta : TA) : TI := fun σ H R => ta σ H fun vs H1 => ∃ a xs, vs = [.ref a] ∧ SqL K H1 a xs ∧ R (Ite K a) H1
/-! ### zip(list, list) -/
/-- the lists at a and b as they stand at each turn, the items in new pairs -/
def Itz (K : PySem.W.Frag) (a b : Addr) : It :=
  ⟨fun i H => ∃ (xs ys : List V) (x y : V), SqL K H a xs ∧ SqL K H b ys ∧ xs[i]? = some x ∧ ys[i]? = some y,
    fun i H v H' => ∃ T x y, v = .ref T ∧ H T = none ∧ H' = upd H T (.tup [x, y]) ∧ (∀ xs, SqL K H a xs → xs[i]? = some x) ∧ ∀ ys, SqL K H b ys → ys[i]? = some y,
    fun i H => ∃ xs ys : List V, SqL K H a xs ∧ SqL K H b ys ∧ (xs.length ≤ i ∨ ys.length ≤ i)⟩
def iZip (K : PySem.W.Frag) (ta : TA) : TI := fun σ H R => ta σ H fun vs H1 => ∃ a b xs ys, vs = [.ref a, .ref b] ∧ SqL K H1 a xs ∧ SqL K H1 b ys ∧ R (Itz K a b) H1
end L2

section 
namespace Bits
open PySem PyProof.Rows

end Bits
end 

section 
namespace TL
open PySem PySem.Builtin PySem.Builtin.Str PySem.StrLaws

abbrev tl (x : Str) : List Nat := x.cps.toList
theorem len_tl (x : Str) : x.length = (tl x).length := by simp [tl, Str.length]
theorem ext_tl {x y : Str} (h : tl x = tl y) : x = y := Str.ext' (Array.toList_inj.mp h)
theorem tl_append (x y : Str) : tl (x ++ y) = tl x ++ tl y := by
  show (x ++ y).cps.toList = _
  rw [Str.cps_append, Array.toList_append]
/-! ### the list functions -/
/-- S stands at the head of l -/
def pre (S l : List Nat) : Bool := l.take S.length == S
/-- l cut at each S from the left; k signs are still to be passed over -/
def spl (S : List Nat) : Nat → List Nat → List Nat → List (List Nat)
  | _, acc, [] => [acc]
  | 0, acc, c :: r => if pre S (c :: r) = true then acc :: spl S (S.length - 1) [] r else spl S 0 (acc ++ [c]) r
  | k + 1, acc, _ :: r => spl S k acc r
/-- what stands before the first S, and behind it -/
def par (S : List Nat) : List Nat → List Nat → Option (List Nat × List Nat)
  | _, [] => none
  | acc, c :: r => if pre S (c :: r) = true then some (acc, (c :: r).drop S.length) else par S (acc ++ [c]) r

theorem spl_nil (S : List Nat) (k : Nat) (acc : List Nat) : spl S k acc [] = [acc] := by cases k <;> rfl
theorem spl_hit {S acc r : List Nat} {c : Nat} (h : pre S (c :: r) = true) : spl S 0 acc (c :: r) = acc :: spl S (S.length - 1) [] r := by
  show (if pre S (c :: r) = true then acc :: spl S (S.length - 1) [] r else spl S 0 (acc ++ [c]) r) = _
  rw [if_pos h]
theorem spl_miss {S acc r : List Nat} {c : Nat} (h : pre S (c :: r) = false) : spl S 0 acc (c :: r) = spl S 0 (acc ++ [c]) r := by
  show (if pre S (c :: r) = true then acc :: spl S (S.length - 1) [] r else spl S 0 (acc ++ [c]) r) = _
  rw [if_neg (by rw [h]; exact Bool.false_ne_true)]
theorem spl_pass (S : List Nat) : ∀ (k : Nat) (acc l : List Nat), spl S k acc l = spl S 0 acc (l.drop k)
  | 0, _, _ => by rw [List.drop_zero]
  | k + 1, acc, [] => by rw [List.drop_nil, spl_nil, spl_nil]
  | k + 1, acc, c :: r => by
    show spl S k acc r = spl S 0 acc (r.drop k)
    exact spl_pass S k acc r
theorem pre_nil {S : List Nat} (hS : S ≠ []) : pre S [] = false := by
  cases S with
  | nil => exact absurd rfl hS
  | cons s S => rfl
theorem getElem_drop_cons {L : List Nat} {a : Nat} (h : a < L.length) : ∃ c, L.drop a = c :: L.drop (a + 1) := ⟨L[a], List.drop_eq_getElem_cons h⟩
theorem spl_run (S L : List Nat) : ∀ (m a : Nat) (acc : List Nat), a + m ≤ L.length → (∀ k, a ≤ k → k < a + m → pre S (L.drop k) = false) →
    spl S 0 acc (L.drop a) = spl S 0 (acc ++ (L.drop a).take m) (L.drop (a + m))
  | 0, a, acc, _, _ => by rw [List.take_zero, List.append_nil, Nat.add_zero]
  | m + 1, a, acc, h, hn => by
    have hlt : a < L.length := by omega
    obtain ⟨c, e⟩ := getElem_drop_cons hlt
    have h0 := hn a (Nat.le_refl _) (by omega)
    have ih := spl_run S L m (a + 1) (acc ++ [c]) (by omega) (fun k h1 h2 => hn k (by omega) (by omega))
    have e2 : a + 1 + m = a + (m + 1) := by omega
    rw [e2] at ih
    rw [e] at h0
    rw [e, spl_miss h0, ih, List.take_succ_cons, List.append_assoc] <;> rfl
theorem drop_two (L : List Nat) (a b : Nat) : (L.drop a).drop b = L.drop (a + b) := by
  first
    | rw [List.drop_drop]
    | rw [List.drop_drop, Nat.add_comm]
theorem spl_at {S L : List Nat} (hS : S ≠ []) {c : Nat} {acc : List Nat} (h : pre S (L.drop c) = true) : spl S 0 acc (L.drop c) = acc :: spl S 0 [] (L.drop (c + S.length)) := by
  rw [← drop_two]
  cases e : L.drop c with
  | nil => rw [e, pre_nil hS] at h; cases h
  | cons d r =>
    rw [e] at h
    rw [spl_hit h, spl_pass]
    cases S with
    | nil => exact absurd rfl hS
    | cons s S => rfl
/-! ### the model's split and partition are these -/
theorem at_iff {x y : Str} (hy : tl y ≠ []) (i : Nat) : At x y x.length i ↔ pre (tl y) ((tl x).drop i) = true := by
  have hx := len_tl x
  have hl := len_tl y
  constructor
  · intro h
    have h2 := h.2
    rw [subAt_eq, hl] at h2
    exact h2
  · intro h
    have e : ((tl x).drop i).take (tl y).length = tl y := eq_of_beq h
    have e1 := congrArg List.length e
    rw [List.length_take, List.length_drop] at e1
    have e2 : 0 < (tl y).length := List.length_pos_iff.mpr hy
    refine ⟨by omega, ?_⟩
    rw [subAt_eq, hl]
    exact h
theorem no_at {x y : Str} (hy : tl y ≠ []) {i : Nat} (h : ¬ At x y x.length i) : pre (tl y) ((tl x).drop i) = false := by
  cases hp : pre (tl y) ((tl x).drop i) with
  | false => rfl
  | true => exact absurd ((at_iff hy i).mpr hp) h
theorem len1 {y : Str} (hy : tl y ≠ []) : 1 ≤ y.length := by
  have e2 : 0 < (tl y).length := List.length_pos_iff.mpr hy
  rw [len_tl y]
  exact e2
theorem tl_strSub (x : Str) (i j : Nat) : tl (strSub x i j) = ((tl x).drop i).take (j - i) := strSub_toList x i j
theorem tl_strSub_end (x : Str) (i : Nat) : tl (strSub x i x.length) = (tl x).drop i := by
  rw [tl_strSub, len_tl x]
  exact List.take_of_length_le (by rw [List.length_drop] <;> omega)

theorem parts_spl {x y : Str} (hy : tl y ≠ []) : ∀ (cuts : List Nat) (a f : Nat), a ≤ (tl x).length → ChainG x y x.length a cuts f → (∀ k, f ≤ k → ¬ At x y x.length k) →
    (partsFrom x y.length a cuts).map tl = spl (tl y) 0 [] ((tl x).drop a)
  | [], a, f, ha, h, hn => by
    have e : f = a := h
    subst e
    show [tl (strSub x f x.length)] = _
    have run := spl_run (tl y) (tl x) ((tl x).length - f) f [] (by omega) (fun k h1 _ => no_at hy (hn k h1))
    have e2 : f + ((tl x).length - f) = (tl x).length := by omega
    rw [e2, List.drop_length, spl_nil, List.nil_append, List.take_of_length_le (by rw [List.length_drop] <;> omega)] at run
    rw [run, tl_strSub_end]
  | c :: r, a, f, ha, h, hn => by
    obtain ⟨h1, h2, h3, h4⟩ := h
    have hc : c + y.length ≤ x.length := h2.1
    have hx := len_tl x
    have hl := len_tl y
    have ih := parts_spl hy r (c + y.length) f (by omega) h4 hn
    show tl (strSub x a c) :: (partsFrom x y.length (c + y.length) r).map tl = _
    have run := spl_run (tl y) (tl x) (c - a) a [] (by omega) (fun k k1 k2 => no_at hy (h3 k k1 (by omega)))
    have e2 : a + (c - a) = c := by omega
    rw [e2, List.nil_append, spl_at hy ((at_iff hy c).mp h2)] at run
    rw [run, ih, tl_strSub, hl]

/-- hk: by kind_ok where the separator is plain -/
theorem split_spl (x y : Str) (hy : tl y ≠ []) (hk : ¬ Builtin.Str.strKind x < Builtin.Str.strKind y) : (Txt.split x y).map tl = spl (tl y) 0 [] (tl x) := by
  obtain ⟨f, g, hn⟩ := occ_tight x y (len1 hy)
  have key := parts_spl hy _ 0 f (Nat.zero_le _) g hn
  rw [List.drop_zero] at key
  have none_case : occurrences x y 0 x.length (x.length + 1) = [] → [x].map tl = spl (tl y) 0 [] (tl x) := fun ho => by
    rw [ho] at key
    rw [← key]
    show [tl x] = [tl (strSub x 0 x.length)]
    rw [sub_whole]
  unfold Txt.split
  by_cases h1 : (decide (x.length < y.length) || decide (Builtin.Str.strKind x < Builtin.Str.strKind y)) = true
  · rw [if_pos h1]
    have hlt : x.length < y.length := by
      simp only [Bool.or_eq_true, decide_eq_true_eq] at h1
      rcases h1 with h | h
      · exact h
      · exact absurd h hk
    refine none_case ?_
    cases ho : occurrences x y 0 x.length (x.length + 1) with
    | nil => rfl
    | cons c r =>
      rw [ho] at g
      have hc : c + y.length ≤ x.length := g.2.1.1
      omega
  · rw [if_neg h1]
    by_cases h2 : (occurrences x y 0 x.length (x.length + 1)).isEmpty = true
    · rw [if_pos h2]
      exact none_case (List.isEmpty_iff.mp h2)
    · rw [if_neg h2, partsBetween_eq]
      exact key
theorem kind_ok {x y : Str} (h : y.cps.all (· < 256) = true) : ¬ Builtin.Str.strKind x < Builtin.Str.strKind y := by
  have e : Builtin.Str.strKind y = 1 := by unfold PySem.Builtin.Str.strKind; rw [if_pos h]
  rw [e]
  unfold PySem.Builtin.Str.strKind
  split
  · omega
  · split <;> omega

/-! ### computing spl and par -/
/-- joined lists -/
def joinL (S : List Nat) : List (List Nat) → List Nat
  | [] => []
  | [p] => p
  | p :: q :: r => p ++ (S ++ joinL S (q :: r))
theorem tl_join (y : Str) : ∀ parts : List Str, tl (Str.join y parts) = joinL (tl y) (parts.map tl)
  | [] => rfl
  | [_] => rfl
  | x :: z :: r => by
    show tl (x ++ y ++ Str.join y (z :: r)) = tl x ++ (tl y ++ joinL (tl y) ((z :: r).map tl))
    rw [tl_append, tl_append, tl_join y (z :: r), List.append_assoc]
theorem join_eq (y : Str) (parts : List Str) : Txt.join y parts = Str.join y parts := glued_eq_join y parts
/-! ### digits -/
/-- the signs of a number -/
def numL (n : Nat) : List Nat := (Nat.toDigits 10 n).map Char.toNat
/-! ### words: x.split() -/
def wstep (st : List (List Nat) × List Nat) (c : Nat) : List (List Nat) × List Nat :=
  if Unicode.isSpace c = true then (if st.2 = [] then st else (st.1 ++ [st.2], [])) else (st.1, st.2 ++ [c])
def wfin (st : List (List Nat) × List Nat) : List (List Nat) := if st.2 = [] then st.1 else st.1 ++ [st.2]
end TL
end 

namespace L2
open PySem PySem.Spec PyProof.Rows

/-- a list of texts, of numbered texts -/
theorem vals_strs : ∀ l : List (Str × Tok), Vals ((l.map (·.1)).map V.str) (strValues l)
  | [] => .nil
  | p :: r => .cons ⟨p.2, rfl⟩ (vals_strs r)
theorem strs_of_vals : ∀ {ys : List Str} {us : List Value}, Vals (ys.map V.str) us → StrsAre us ys
  | [], _, .nil => .nil
  | y :: ys, _, .cons r t => by
    obtain ⟨k, rfl⟩ := r
    exact .cons y k (strs_of_vals t)

/-- a new list of texts, tracked -/
def rNewStrs (ys : List Str) : Hp → VK → Prop := fun H Q => ∀ p, H p = none → Q (.ref p) (upd H p (.lst (ys.map V.str)))

section
variable {X : Cx} {pins : List (Addr × Obj)} {σ : St} {H : Hp} {s : Shared} {Q : VK}
theorem laid_strs {l : List (Str × Tok)} {ys : List Str} {k : Nat} (I : Inv X pins σ H s) (e : l.map (·.1) = ys) (hz : ys.length ≤ sizeLine) (h : rNewStrs ys H Q) :
    EP X pins σ Q (.ref s.heap.objs.size) { s with toks := k, heap := s.heap.push { cls := .type "list", data := .seq (strValues l).toArray } } := by
  have hp := I.hok.fresh (Nat.le_refl _)
  refine ⟨.ref s.heap.objs.size, upd H s.heap.objs.size (.lst (ys.map V.str)), I.laid (fun b u q => Heap.get?_push_of_some _ q) (Nat.le_refl _) ⟨by rw [List.length_map]; exact hz, strValues l, _, ?_, Heap.get?_push_size _ rfl⟩, rfl, h _ hp⟩
  rw [← e]
  exact vals_strs l
end

section
variable {X : Cx}

/-- x.split(sep) -/
theorem mt_split : MtR X "str.split" (fun x xs H Q => ∃ a b, x = .str a ∧ xs = [.str b] ∧ (b.length == 0) = false ∧ a.length + 2 ≤ sizeLine ∧ rNewStrs (Txt.split a b) H Q) := by
  intro pins s σ H x xs v us Q I rx rs h
  obtain ⟨a, b, rfl, rfl, hb, hz, h⟩ := h
  obtain ⟨t, rfl⟩ := rx
  cases rs with
  | cons r1 rs =>
    cases rs
    obtain ⟨u, rfl⟩ := r1
    have hl : (Txt.split a b).length ≤ sizeLine := Nat.le_trans (PyProof.Rows.split_le a b) hz
    have hn : (Builtin.Str.partsBetween a (Builtin.Str.occurrences a b 0 a.length (a.length + 1)) b.length).length ≤ sizeLine := by
      have e1 := StrLaws.occ_length_le a b 0 a.length (a.length + 1)
      rw [length_partsBetween]; omega
    cases h1 : (decide (a.length < b.length) || decide (Builtin.Str.strKind a < Builtin.Str.strKind b))
    · cases hf : (Builtin.Str.occurrences a b 0 a.length (a.length + 1)).isEmpty
      · refine call_meets F.slot_str_split (typeIs_str _ _ _) F.entry_str_split (F.args_str_split_2 _ _) (meets_str_split_sep a b t u h1 hb hf (by omega) hn) ?_
        show EP X pins σ Q (.ref s.heap.objs.size) { s with toks := _, heap := s.heap.push { cls := .type "list", data := .seq (strsFrom s.toks (Builtin.Str.partsBetween a (Builtin.Str.occurrences a b 0 a.length (a.length + 1)) b.length)).toArray } }
        rw [strsFrom_eq]
        exact laid_strs (ys := Txt.split a b) I ((numbered_texts _ _).trans ((if_neg (ne_true_of_eq_false h1)).trans (if_neg (ne_true_of_eq_false hf))).symm) hl h
      · refine call_meets F.slot_str_split (typeIs_str _ _ _) F.entry_str_split (F.args_str_split_2 _ _) (meets_str_split_not_found a b t u h1 hb hf) ?_
        exact laid_strs (l := [(a, t)]) (ys := Txt.split a b) (k := s.toks) I ((if_neg (ne_true_of_eq_false h1)).trans (if_pos hf)).symm hl h
    · refine call_meets F.slot_str_split (typeIs_str _ _ _) F.entry_str_split (F.args_str_split_2 _ _) (meets_str_split_cannot_occur a b t u h1) ?_
      exact laid_strs (l := [(a, t)]) (ys := Txt.split a b) (k := s.toks) I (if_pos h1).symm hl h

/-- sep.join(a list | a tuple of texts) -/
theorem mt_join : MtR X "str.join" (fun x xs H Q => ∃ a p, ∃ ys : List Str, x = .str a ∧ xs = [.ref p] ∧ (SqL X.K H p (ys.map V.str) ∨ SqT X.K H p (ys.map V.str)) ∧
    (ys.map (·.length)).sum + ys.length * a.length ≤ 16777216 ∧ Q (.str (Txt.join a ys)) H) := by
  intro pins s σ H x xs v us Q I rx rs h
  obtain ⟨a, p, ys, rfl, rfl, hp, hz, h⟩ := h
  obtain ⟨t, rfl⟩ := rx
  cases rs with
  | cons r1 rs =>
    cases rs
    cases r1
    rcases hp with hp | hp
    · obtain ⟨its, r, ⟨o, n, ho, hc, _, hd⟩, _⟩ := I.list hp
      exact PyProof.Rows.join_list (items := its.toArray) ⟨o, ho, hc, n, hd⟩ (by rw [List.toList_toArray]; exact strs_of_vals r) hz fun t' k => ⟨.str _, H, I.tok k, ⟨t', rfl⟩, h⟩
    · obtain ⟨its, r, ht, _⟩ := I.tuple hp
      exact PyProof.Rows.join_tuple (items := its.toArray) ht (by rw [List.toList_toArray]; exact strs_of_vals r) hz fun t' k => ⟨.str _, H, I.tok k, ⟨t', rfl⟩, h⟩

/-! ### of a text alone -/
/-! ### of a text and a text -/
/-- int(text) -/
theorem call_int_str : CallR X (.type "int") (fun xs H Q => ∃ a n, xs = [.str a] ∧ PySem.intText? a = some n ∧ a.length ≤ 640 ∧ Q (.int n) H) := by
  intro pins s σ H xs us Q I rs h
  obtain ⟨a, n, rfl, hn, hl, h⟩ := h
  cases rs with
  | cons r1 rs =>
    cases rs
    obtain ⟨t, rfl⟩ := r1
    exact PySem.W.KIN.call_text hn hl ⟨.int n, H, I.tok _, ⟨_, rfl⟩, h⟩
end

section
variable {X : Cx} {o e : Expr} {to te : TE}
def tM0 (r : V → List V → Hp → VK → Prop) (to : TE) : TE := fun σ H Q => to σ H fun x H1 => (∃ a, x = .str a) ∧ r x [] H1 Q
def tM1 (r : V → List V → Hp → VK → Prop) (to te : TE) : TE := fun σ H Q => to σ H fun x H1 => (∃ a, x = .str a) ∧ te σ H1 fun y H2 => r x [y] H2 Q
theorem pe_m1 {id : String} {name : Str} {apos pos : Pos} {r : V → List V → Hp → VK → Prop} (slot : Slot "str" name id) (ty : typeOf (.builtin id) = pure (.type "method_descriptor")) (rule : MtR X id r) (ho : PE X o to) (he : PE X e te)
    (hs : starEach [e] X.env = [(false, eval e X.env)] := by rfl) (hbase : attributeBase o name X.env (eval o X.env) = eval o X.env := by rfl) (hline : (apos.endLine == pos.line) = true := by rfl) :
    PE X (.Call (.Attribute o name apos) [e] [] pos) (tM1 r to te) := by
  intro pins s σ H Q I h
  refine PySem.Call_method1 hbase hs hline (thn (ho pins s σ H _ I h) fun v s1 ⟨x, H1, I1, r1, q1⟩ => ?_)
  obtain ⟨⟨a, rfl⟩, q1⟩ := q1
  obtain ⟨t, rfl⟩ := _root_.id r1
  refine ⟨"str", _, F.plainAttrs_str, slot, ty, typeIs_str _ _ _, (fun _ e => nomatch e), Calls.callWith_builtin rfl (Calls.evalArgs_plain (Calls.spliced_cons ?_))⟩
  exact thn (he pins s1 σ H1 _ I1 q1) fun u s2 ⟨y, H2, I2, r2, q2⟩ => Calls.spliced_nil (rule pins s2 σ H2 _ [y] _ [u] Q I2 r1 (.cons r2 .nil) q2)

theorem pe_split {apos pos : Pos} (ho : PE X o to) (he : PE X e te) (hs : starEach [e] X.env = [(false, eval e X.env)] := by rfl) (hbase : attributeBase o "split" X.env (eval o X.env) = eval o X.env := by rfl) (hline : (apos.endLine == pos.line) = true := by rfl) :
    PE X (.Call (.Attribute o "split" apos) [e] [] pos) (tM1 (fun x xs H Q => ∃ a b, x = .str a ∧ xs = [.str b] ∧ (b.length == 0) = false ∧ a.length + 2 ≤ sizeLine ∧ rNewStrs (Txt.split a b) H Q) to te) :=
  pe_m1 F.slot_str_split F.type_str_split mt_split ho he hs hbase hline
theorem pe_join {apos pos : Pos} (ho : PE X o to) (he : PE X e te) (hs : starEach [e] X.env = [(false, eval e X.env)] := by rfl) (hbase : attributeBase o "join" X.env (eval o X.env) = eval o X.env := by rfl) (hline : (apos.endLine == pos.line) = true := by rfl) :
    PE X (.Call (.Attribute o "join" apos) [e] [] pos) (tM1 (fun x xs H Q => ∃ a p, ∃ ys : List Str, x = .str a ∧ xs = [.ref p] ∧ (SqL X.K H p (ys.map V.str) ∨ SqT X.K H p (ys.map V.str)) ∧
      (ys.map (·.length)).sum + ys.length * a.length ≤ 16777216 ∧ Q (.str (Txt.join a ys)) H) to te) :=
  pe_m1 F.slot_str_join F.type_str_join mt_join ho he hs hbase hline
end
end L2

namespace L2
open PySem PySem.Spec PyProof.Rows

section
variable {X : Cx}
theorem op_le_str : OpR X (compareOp .LtE) (fun x y H Q => ∃ i j, x = .str i ∧ y = .str j ∧ Q (.bl (!decide (j.cps.toList < i.cps.toList))) H) := by
  intro pins s σ H x y v u Q I rx ry h
  obtain ⟨i, j, rfl, rfl, q⟩ := h
  obtain ⟨t, rfl⟩ := rx
  obtain ⟨t', rfl⟩ := ry
  exact PySem.P.le_str (fin_bl I q rfl)
theorem op_notIn_sign : OpR X (compareOp .NotIn) (fun x y H Q => ∃ (c : Nat) (z : Str), x = .str ⟨#[c]⟩ ∧ y = .str z ∧ Q (.bl (!decide (c ∈ z.cps.toList))) H) := by
  intro pins s σ H x y v u Q I rx ry h
  obtain ⟨c, z, rfl, rfl, q⟩ := h
  obtain ⟨t, rfl⟩ := rx
  obtain ⟨t', rfl⟩ := ry
  exact PyProof.Rows.notIn_str (fin_bl I q (congrArg Bool.not (PySem.StrLaws.found_one z c).symm))
end

/-! ### slices of a text -/
theorem IsPart.raw {v : Value} {o : Option Int} (p : IsPart v o) : ∃ l : Option (Int × Tok), v = partValue l ∧ l.map (·.1) = o := by
  cases p with
  | none => exact ⟨none, rfl, rfl⟩
  | int i t => exact ⟨some (i, t), rfl, rfl⟩

/-- a part, clipped, as the text's slice reckons it -/
def clipS (n d : Nat) : Option Int → Int
  | none => (d : Int)
  | some i => max 0 (min (if i < 0 then i + (n : Int) else i) (n : Int))
theorem clipS_eq (n d : Nat) (o : Option Int) : clipS n d o = ((HT.sIx n d o : Nat) : Int) := by
  cases o with
  | none => rfl
  | some v =>
    show max (0 : Int) (min (if v < 0 then v + (n : Int) else v) (n : Int)) = (((if v < 0 then (v + (n : Int)).toNat else min v.toNat n) : Nat) : Int)
    by_cases hv : v < 0
    · simp only [if_pos hv]
      omega
    · simp only [if_neg hv]
      omega
theorem sidx_clip (a b : Option Int) (n : Nat) : Builtin.Str.strSliceIndices a b 1 n = sliceRange (clipS n 0 a) (clipS n n b) 1 := by
  have h1 : ((1 : Int) > 0) = True := by simp
  cases a <;> cases b <;> first
    | rfl
    | (simp only [Builtin.Str.strSliceIndices, clipS, h1, if_true]; rfl)
    | simp [Builtin.Str.strSliceIndices, clipS]
theorem sidx (a b : Option Int) (n : Nat) : Builtin.Str.strSliceIndices a b 1 n = (List.range (HT.sIx n n b - HT.sIx n 0 a)).map (fun k => HT.sIx n 0 a + k) := by
  rw [sidx_clip, clipS_eq, clipS_eq]
  generalize HT.sIx n 0 a = p
  generalize HT.sIx n n b = q
  simp only [sliceRange, show ((1 : Int) > 0) = True from by simp, if_true]
  by_cases hlt : (p : Int) < q
  · have e3 : (((q : Int) - p + 1 - 1) / 1).toNat = q - p := by first | omega | (simp; done) | (simp; omega)
    simp only [hlt, if_true, e3]
    refine List.map_congr_left fun k _ => ?_
    omega
  · have : q - p = 0 := by omega
    simp [hlt, this]

/-- z[lo:hi] -/
def cutS (z : Str) (lo hi : Option Int) : Str :=
  ⟨((z.cps.toList.drop (HT.sIx z.length 0 lo)).take (HT.sIx z.length z.length hi - HT.sIx z.length 0 lo)).toArray⟩
theorem sliceText_cut (z : Str) (lo hi : Option Int) : PySem.StrLaws.sliceText z lo hi = cutS z lo hi := by
  have h1 : HT.sIx z.length 0 lo ≤ z.length := HT.sIx_le _ _ (Nat.zero_le _) _
  have h2 : HT.sIx z.length z.length hi ≤ z.length := HT.sIx_le _ _ (Nat.le_refl _) _
  have hp : HT.sIx z.length 0 lo ≤ max (HT.sIx z.length 0 lo) (HT.sIx z.length z.length hi) := Nat.le_max_left _ _
  have hq : max (HT.sIx z.length 0 lo) (HT.sIx z.length z.length hi) ≤ z.length := Nat.max_le.mpr ⟨h1, h2⟩
  have hd : max (HT.sIx z.length 0 lo) (HT.sIx z.length z.length hi) - HT.sIx z.length 0 lo = HT.sIx z.length z.length hi - HT.sIx z.length 0 lo := by omega
  have e : Builtin.Str.strSliceIndices lo hi 1 z.length =
      Builtin.Str.strSliceIndices (some ((HT.sIx z.length 0 lo : Nat) : Int)) (some ((max (HT.sIx z.length 0 lo) (HT.sIx z.length z.length hi) : Nat) : Int)) 1 z.length := by
    rw [PySem.StrLaws.strSliceIndices_plain hp hq, hd, sidx]
  have e2 : PySem.StrLaws.sliceText z lo hi =
      PySem.StrLaws.sliceText z (some ((HT.sIx z.length 0 lo : Nat) : Int)) (some ((max (HT.sIx z.length 0 lo) (HT.sIx z.length z.length hi) : Nat) : Int)) := by
    unfold PySem.StrLaws.sliceText
    rw [e]
  rw [e2, PySem.StrLaws.sliceText_nat z hp hq, hd]
  rfl
theorem cutS_length (z : Str) (lo hi : Option Int) : (cutS z lo hi).length ≤ z.length := by
  show (((z.cps.toList.drop (HT.sIx z.length 0 lo)).take (HT.sIx z.length z.length hi - HT.sIx z.length 0 lo)).toArray).size ≤ z.cps.size
  rw [List.size_toArray, List.length_take, List.length_drop, Array.length_toList]
  omega
def rSlS : V → Option Int → Option Int → Hp → VK → Prop := fun x lo hi H Q => ∃ z, x = .str z ∧ z.length ≤ sizeLine ∧ Q (.str (cutS z lo hi)) H
theorem sl_str {X : Cx} : SlR X rSlS := by
  intro pins s σ H x v vl vu lo hi sl Q I rx hs pl pu h
  obtain ⟨z, rfl, hz, q⟩ := h
  obtain ⟨t, rfl⟩ := rx
  obtain ⟨os, hos, hcs, hds⟩ := hs
  obtain ⟨l, rfl, rfl⟩ := IsPart.raw pl
  obtain ⟨u, rfl, rfl⟩ := IsPart.raw pu
  refine ⟨"str", _, F.slot_str_getitem.lookup, typeIs_str _ _ _, ?_⟩
  refine wpAny_getItem_str_slice (l := l) (u := u) (st := none) ⟨os, hos, hcs, hds⟩ rfl ?_
  have hl : (PySem.StrLaws.sliceText z (l.map (·.1)) (u.map (·.1))).length ≤ sizeLine := by
    rw [sliceText_cut]
    exact Nat.le_trans (cutS_length z _ _) hz
  rw [← sliceText_cut] at q
  unfold PySem.StrLaws.sliceText at q hl
  show Made.post (if ((1 : Int) == 1 && (Builtin.Str.strSliceIndices (l.map (·.1)) (u.map (·.1)) 1 z.length).length == z.length) = true then Made.val (.str z t)
    else Made.str ⟨((Builtin.Str.strSliceIndices (l.map (·.1)) (u.map (·.1)) 1 z.length).filterMap (z.cps[·]?)).toArray⟩) (EP X pins σ Q) s
  by_cases c : ((1 : Int) == 1 && (Builtin.Str.strSliceIndices (l.map (·.1)) (u.map (·.1)) 1 z.length).length == z.length) = true
  · rw [if_pos c] at q ⊢
    exact ⟨.str z, H, I, ⟨t, rfl⟩, q⟩
  · rw [if_neg c] at q hl ⊢
    exact ⟨hl, .str _, H, I.tok _, ⟨_, rfl⟩, q⟩
end L2

namespace Att
open PySem PySem.W PySem.Calls PyProof.Rows

/-! ### the script -/
theorem ints_of_wellAll {P : Params} {h : Heap} : ∀ (ns : List Int) (vs : List Value), WellAll P h vs (ns.map WData.int) → IntsAre vs ns := by
  intro ns
  induction ns with
  | nil =>
    intro vs w
    rw [List.map_nil] at w
    cases w
    exact .nil
  | cons n ns ih =>
    intro vs w
    rw [List.map_cons] at w
    cases w with
    | cons a b =>
      cases a
      exact .cons _ _ (ih _ b)

theorem script_of {l : OpenLaw} {n : Nat} (hn : l.most = some n) {P : Params} {h : Heap} {args : List WData} {vals : List Value}
    (hpre : l.row.toRowW.claim.pre args = true) (hwl : WellAll P h vals args) :
    ∃ a vs ns, vals = [Value.ref a] ∧ args = [WData.list (ns.map WData.int)] ∧ h.get? a = some { cls := .type "list", data := .seq vs.toArray } ∧ IntsAre vs ns ∧ ns.length ≤ n := by
  have hsh : WShape.hasAll [] args [.list .int] = true := (pre_splitW hpre).1
  have hc : l.pre.holds [] { args := args } = true := (pre_splitW hpre).2
  obtain ⟨d, r, rfl, h1, h2⟩ := hasAllW_cons hsh
  obtain rfl := hasAllW_nil h2
  obtain ⟨xs, rfl, h3⟩ := hasW_list h1
  obtain ⟨ns, rfl⟩ := items_int h3
  have hlen : ns.length ≤ n := by
    unfold OpenLaw.pre at hc
    have h4 : (WTm.not (.lt (.lit (.int (n : Int))) (.len (.arg 0)))).holds [] { args := [.list (ns.map .int)] } = true := by
      have h4 := (holds_andW hc).1
      rw [hn] at h4
      exact h4
    have h5 := condW_of h4 (w_not (w_lt w_lit (w_len_list (w_arg rfl))))
    rw [List.length_map] at h5
    refine Nat.le_of_not_lt fun q => ?_
    have q' : (n : Int) < ((ns.length : Nat) : Int) := by omega
    first
      | (rw [decide_eq_true q'] at h5; exact absurd h5 (by decide))
      | (simp at h5; omega)
  cases hwl with
  | cons w1 w2 =>
    cases w2
    cases w1 with
    | list ho hall => exact ⟨_, _, ns, rfl, rfl, ho, ints_of_wellAll ns _ hall, hlen⟩

theorem post_true (l : OpenLaw) (args : List WData) : l.row.toRowW.claim.post args (.bool true) args = true :=
  postW_of (r := l.row.toRowW) (X := (true == true))
    (show WShape.has [] (.bool true) .bool = true by first | rfl | decide | simp [WShape.has, WShape.arms, WShape.armsAll])
    (show (WTm.eq .res (.lit (.bool true))).value [] { args := args, res := some (.bool true), after := args } = some (.bool (true == true)) from w_eq_bool (w_res rfl) w_lit) rfl

/-! ### the attachment: holds_open's last premise (the goal 'hc' behind k_head) from a wpAny of the law's body -/
/-- the same from a codeAny of the CALL (for a layer whose function contracts speak of calls) -/
theorem attach_call {l : OpenLaw} {n : Nat} {q : Program} {loose : List Str} {XP : (Str → Option Value) → Heap → Prop} {YP : World → Heap → Prop} {d : DefRec}
    (hn : l.most = some n) (hdf : d.params.defaults = [])
    (call : ∀ (w : World) (s₀ s₁ : Shared) (mg mb : Str → Option Value) (fa : Addr) (o : Obj) (pm cd doc : Value) (a : Addr) (vs : List Value) (ns : List Int),
      Ground q loose [] XP w s₀ mg mb s₁.heap → YP w s₁.heap →
      s₁.heap.get? fa = some o → o.data = .func (docDef d.name d.params d.body d.scope pm cd doc) → s₁.heap.CodeRec cd d.name → mg d.name = some (.ref fa) →
      s₁.heap.get? a = some { cls := .type "list", data := .seq vs.toArray } → IntsAre vs ns → ns.length ≤ n → s₁.gens = #[] →
      codeAny (model l.prog w) callerA (.call (.ref fa) ⟨[.ref a], []⟩) (fun r s' => r = .ok (.ret (.bool true)) ∧ OldK s₁.heap s'.heap ∧ s'.os = s₁.os ∧ AllBare s'.gens) s₁) :
    WalkO q loose XP YP l.row.toRowW d [] (fun f vs => PySem.call f vs) := by
  intro w s₀ s₁ mg mb G Y fa o pm cd doc dV kV ho hd hcd hD hmg hg args vals as hpre hlay hrd hwl hlo
  obtain rfl : dV = .none := Dflts.none hD hdf
  obtain rfl : kV = .none := Dflts.noKw hD
  obtain ⟨a, vs, ns, rfl, rfl, hobj, hints, hlen⟩ := script_of hn hpre hwl
  refine enter_call (codeAny_mono (call w s₀ s₁ mg mb fa o pm cd doc a vs ns G Y ho (fd_plain hd) hcd hmg hobj hints hlen hg) fun r s' hq => ?_)
  obtain ⟨rfl, h2, h3, h4⟩ := hq
  exact ⟨.inl ⟨.bool true, .bool true, [], rfl, fun _ => rfl, .bool true, post_true l _, fun _ => ⟨List.Pairwise.nil, fun _ hm => (nomatch hm)⟩⟩, h2, h3, h4⟩

/-! ### rules over ANY heap (no ledger) from facts about the written part K: the library's own take a ledger (News) for what they write -/
section
variable {prog : Program} {w : World} {A : Around} {E : Value → Shared → Prop} {s : Shared} {K : Frag}

/-! the whole heap as the ledger: makes every rule that writes through a ledger a rule over any heap -/
def noObjs (h : Heap) : Heap := { h with objs := #[] }
def ledger (h : Heap) (L d : Addr) : List (Addr × Obj) := (List.range h.objs.size).filterMap fun a => if a = L ∨ a = d then none else (h.get? a).map fun o => (a, o)
end
end Att

namespace L2
open PySem PySem.Spec PyProof.Rows

theorem vals_ints : ∀ {vs : List Value} {ns : List Int}, IntsAre vs ns → Vals (ns.map V.int) vs
  | _, _, .nil => .nil
  | _, _, .cons n t h => .cons ⟨t, rfl⟩ (vals_ints h)

/-- nothing is tracked but the script, known to the object (or it is an object of the module) -/
def Only (H : Hp) : Prop := ∀ b, H b = none ∨ ∃ o xs, H b = some (.frz o (.lst xs))

/-- THE HEAD: the law's promise, at the heap behind the top. F, the promise of the law's def, may use that base is part of the heap (so K.In base, base.Ns mainGlobals mg stand in Mod) -/
theorem law_call {P : Program} {w : World} {K : PySem.W.Frag} {mg mb : Str → Option Value} {CX : CXT} {k : Nat} {fa a : Addr} {fd : FuncData} {x : Str} {sp : Sp} {s₁ : Shared} {vs : List Value} {ns : List Int}
    (KX : K.In s₁.heap) (hns : s₁.heap.Ns mainGlobals mg) (hb : s₁.heap.Ns builtinsNs mb) (hbb : ∀ x : Str, x ≠ "__name__" → mb x = bootBuiltins x) (hlim : s₁.heap.NoLimit) (hg : s₁.gens = #[])
    (ha : s₁.heap.get? a = some { cls := .type "list", data := .seq vs.toArray }) (hi : IntsAre vs ns) (hl : ns.length ≤ sizeLine) (hr : Room k callerA)
    (F : ∀ base : Heap, K.In base → base.Ns mainGlobals mg → FnOk P w K mg base CX k fa fd [x] sp) (hbind : ∀ (s : Shared) (u : Value), BindsTo s fd ⟨[u], []⟩ [(x, u)])
    (hsp : ∀ H : Hp, Only H → SqL K H a (ns.map V.int) → sp [.ref a] H (fun v _ => v = .bl true) fun _ _ _ => False)
    (hCX : ∀ H e s', CX [] H s₁ (fun _ _ _ => False) e s' → False) :
    codeAny (model P w) callerA (.call (.ref fa) ⟨[.ref a], []⟩) (fun r s' => r = .ok (.ret (.bool true)) ∧ OldK s₁.heap s'.heap ∧ s'.os = s₁.os ∧ AllBare s'.gens) s₁ := by
  have rv := vals_ints hi
  have lenV := hi.length
  -- from an abstract heap in which nothing but the script may be tracked
  have core : ∀ H : Hp, Only H → SqL K H a (ns.map V.int) → HOk P w H s₁.heap → (∀ b, H b ≠ none → b = a) → (H a ≠ none → K.lookup a = none) →
      codeAny (model P w) callerA (.call (.ref fa) ⟨[.ref a], []⟩) (fun r s' => r = .ok (.ret (.bool true)) ∧ OldK s₁.heap s'.heap ∧ s'.os = s₁.os ∧ AllBare s'.gens) s₁ := by
    intro H hO hS hok hA hK
    have base_of : ∀ {b : Addr} {o : Obj}, s₁.heap.get? b = some o → H b = none → (hidT s₁.heap H).get? b = some o := fun e n => hidT_get e n
    have noA : ∀ {b : Addr} {o : Obj} {es : Array DictEntry} {ep : Nat}, s₁.heap.get? b = some o → o.data = .dict es ep → H b = none := fun {b o es ep} e d => by
      cases q : H b with
      | none => rfl
      | some u =>
        have e' : b = a := hA b (by rw [q]; simp)
        subst e'
        rw [ha] at e; cases e
        have d' : Data.seq vs.toArray _ = Data.dict es ep := d
        cases d'
    have nsK : ∀ {b : Addr} {m : Str → Option Value}, s₁.heap.Ns b m → (hidT s₁.heap H).Ns b m := fun {b m} ⟨o, es, ep, e, d, r⟩ => ⟨o, es, ep, base_of e (noA e d), d, r⟩
    have hKb : K.In (hidT s₁.heap H) := fun b o e => base_of (KX b o e) (by
      cases q : H b with
      | none => rfl
      | some u =>
        have e' : b = a := hA b (by rw [q]; simp)
        subst e'
        rw [hK (by rw [q]; simp)] at e; cases e)
    have hM : Mod K mg (hidT s₁.heap H) := ⟨hKb, nsK hns, ⟨mb, nsK hb, hbb⟩, let ⟨mc, h1, h2⟩ := hlim; ⟨mc, nsK h1, h2⟩⟩
    have e0 : Env0 P w K mg (hidT s₁.heap H) callerA [] s₁ H := ⟨rfl, hM, fun b o e => of_hidT e, Nat.le_of_eq (hidT_size _ _), trivial, fun b hb => absurd (show b ∈ ([] : List Addr) from hb) (by simp), hok, .of_eq hg⟩
    refine codeAny_mono ((F _ hKb (nsK hns)).run callerA [] s₁ H ⟨[.ref a], []⟩ [.ref a] [.ref a] _ _ hr e0 (hbind s₁ (.ref a)) (.cons rfl .nil) (hsp H hO hS)) fun r s' h => ?_
    cases r with
    | error e => exact (hCX H e s' h).elim
    | ok fl =>
      cases fl with
      | next => exact False.elim h
      | brk => exact False.elim h
      | cont => exact False.elim h
      | ret u =>
        obtain ⟨v, H', os, bare, un, hok', r', q⟩ := h
        have q' : v = .bl true := q
        subst q'
        obtain rfl : u = Value.bool true := r'
        refine ⟨rfl, OldK.of_keep fun b o e => ?_, os, bare⟩
        cases q : H b with
        | none => exact un.keep b o e q (by intro z; exact absurd (show b ∈ ([] : List Addr) from z) (by simp)) (by simp)
        | some u =>
          rcases hO b with z | ⟨ob, xs, z⟩
          · rw [q] at z; cases z
          · have z2 := un.frzs b ob _ z
            obtain ⟨e1, _⟩ := hok b _ z
            obtain ⟨e2, _⟩ := hok' b _ z2
            rw [e] at e1; cases e1
            exact e2
  cases hk : K.lookup a with
  | some o =>
    -- the script is one of the module's own objects
    have e := KX a o hk
    rw [ha] at e
    cases e
    refine core (fun _ => none) (fun _ => .inl rfl) (.inr ⟨_, vs.toArray, _, hk, rfl, rfl, rfl, by rw [List.size_toArray, lenV]; exact hl, by simpa using rv⟩) (fun b u z => by have z' : (none : Option HO) = some u := z; cases z') (fun b z => absurd rfl z) fun z => absurd rfl z
  | none =>
    refine core (fun b => if b = a then some (.frz { cls := .type "list", data := .seq vs.toArray } (.lst (ns.map V.int))) else none) (fun b => ?_) (.inl (.inr ⟨{ cls := .type "list", data := .seq vs.toArray }, if_pos rfl⟩)) (fun b u z => ?_) (fun b z => ?_) fun _ => hk
    · by_cases hb : b = a
      · exact .inr ⟨_, _, if_pos hb⟩
      · exact .inl (if_neg hb)
    · by_cases hb : b = a
      · have z' := (if_pos hb).symm.trans z
        cases z'
        subst hb
        exact ⟨ha, by rw [List.length_map]; exact hl, vs, _, rv, ha⟩
      · have z' := (if_neg hb).symm.trans z
        cases z'
    · by_cases hb : b = a
      · exact hb
      · exact absurd (if_neg hb) z
end L2

namespace L2
open PySem PySem.Spec PyProof.Rows

abbrev KOf {K : PySem.W.Frag} {h : Heap} (_ : K.In h) : PySem.W.Frag := K

/-- the goal that k_head leaves (case hc), from the law's promise. F gives the function object fd (K's own) once, then the promise over every base -/
theorem walk_of {l : PySem.W.OpenLaw} {n k : Nat} {q : Program} {loose : List Str} {XP : (Str → Option Value) → Heap → Prop} {YP : World → Heap → Prop} {d : DefRec} {K : Params → PySem.W.Frag} {CX : World → CXT} {sp : World → Sp} {x : Str}
    (hn : l.most = some n) (hn2 : n ≤ sizeLine) (hdf : d.params.defaults = []) (hr : Room k callerA)
    (hY : ∀ (w : World) (h : Heap), YP w h → (K w.params).In h)
    (F : ∀ (w : World) (mg : Str → Option Value) (fa : Addr) (h : Heap), (K w.params).In h → h.Ns mainGlobals mg → mg d.name = some (.ref fa) →
      ∃ fd : FuncData, (∀ (s : Shared) (u : Value), BindsTo s fd ⟨[u], []⟩ [(x, u)]) ∧
        ∀ base : Heap, (K w.params).In base → base.Ns mainGlobals mg → FnOk l.prog w (K w.params) mg base (CX w) k fa fd [x] (sp w))
    (hsp : ∀ (w : World) (H : Hp) (a : Addr) (ns : List Int), ns.length ≤ n → Only H → SqL (K w.params) H a (ns.map V.int) → sp w [.ref a] H (fun v _ => v = .bl true) fun _ _ _ => False)
    (hCX : ∀ (w : World) (H : Hp) (s : Shared) (e : Value) (s' : Shared), CX w [] H s (fun _ _ _ => False) e s' → False) :
    PySem.W.WalkO q loose XP YP l.row.toRowW d [] (fun f vs => PySem.call f vs) := by
  refine Att.attach_call hn hdf fun w s₀ s₁ mg mb fa o pm cd doc a vs ns G Y ho hd hcd hmg hobj hints hlen hg => ?_
  have KX := hY w _ Y
  obtain ⟨fd, hb, hF⟩ := F w mg fa _ KX G.T.g hmg
  exact law_call KX G.T.g G.T.b G.T.builtins G.T.nolimit hg hobj hints (Nat.le_trans hlen hn2) hr hF hb (fun H hO hS => hsp w H a ns hlen hO hS) fun H e s' => hCX w H s₁ e s'
end L2

/- THE LAST THEOREM (shape; LID, My.* are yours):
   My.Adr: a structure of the addresses that your layer names (classes, functions); My.Txt K t: a structure (Prop) of the equations over K;
   My.txt_mk : {K} {implicit addresses ..} (e1 : nsIn K mainGlobals "law" = some (some (.ref f))) (e2 : K.lookup f = some ⟨oc, od, .func (fnOf "law" "law" params body scope dV kV doc pm an cdv ct), sl⟩) (e3 : codeIn K cdv "law" = true) .. : ∃ t, My.Txt K t

set_option maxRecDepth 100000 in
set_option maxHeartbeats 0 in
theorem PySem.Challenge.cw_LID_holds : PySem.Challenge.rw_LID.Holds := by
  w_on; o_law; k_head; (case hw => w_witness2)
  k_fill
  refine L2.walk_of (l := PySem.Challenge.rw_LID) (n := 63) (k := 40) (x := "script") (CX := fun w => ..) (sp := fun _ => My.sp_law) rfl (by decide) rfl ⟨rfl, by decide, by decide⟩ (fun w h Y => PySem.W.kIn_of Y) ?F ?S ?C
  case F =>
    intro w mg fa h KX G hmg
    have T : ∃ t, My.Txt (L2.KOf KX) t := by
      dsimp only [L2.KOf]                          -- K must stand as «<heap const> w.params» for k_is
      refine' My.txt_mk ?e1 ?e2 ?e3 ..
      (case e1 => PySem.W.k_is)                    -- in the order: a name -> its address -> its object -> its parts
      (case e2 => PySem.W.k_is)
      ..
    obtain ⟨t, T⟩ := T
    have e0 := hmg.symm.trans (PySem.W.mg_of KX G T.law)
    cases e0                                       -- fa is the law's own address
    exact ⟨_, fun s u => .of_eq rfl, fun base kb nb => My.law_fn T kb nb⟩     -- if «.of_eq rfl» comes too early: refine' ⟨_, ?b, fun base kb nb => My.law_fn T kb nb⟩; exact fun s u => .of_eq rfl
  case S => exact fun w H a ns hl hO hS => ..
  case C => exact ..
(the tactic k_is has no namespace: write k_is) -/

/-! SHORT WORDS over the layer: a def of the text, its body, what a loop and a test want. -/
namespace L2
open PySem PySem.Spec PyProof.Rows

/-! ### the text by places -/
/-- the j-th statement of a class's body -/
def inClass (s : Stmt) (j : Nat) : Stmt := match s with
  | .ClassDef _ _ _ body _ _ _ _ _ _ _ => body.getD j (.Pass ⟨0, 0, 0, 0⟩)
  | _ => .Pass ⟨0, 0, 0, 0⟩
def defArgs (s : Stmt) : Arguments := match s with
  | .FunctionDef _ a _ _ _ _ _ _ _ _ => a
  | _ => { posonlyargs := [], args := [], vararg := none, kwonlyargs := [], kw_defaults := [], kwarg := none, defaults := [] }
def defBody (s : Stmt) : List Stmt := match s with
  | .FunctionDef _ _ b _ _ _ _ _ _ _ => b
  | _ => []
def defScope (s : Stmt) : Scope := match s with
  | .FunctionDef _ _ _ _ _ _ sc _ _ _ => sc
  | _ => { kind := .function, names := [], isGenerator := false, isCoroutine := false }

/-! ### no exception leaves a def -/
abbrev CX0 : CXT := fun _ _ _ _ _ _ => False
abbrev E0 : XK := fun _ _ _ => False
theorem pass0 {X : Cx} : Passes CX0 X E0 := fun _ _ _ _ _ _ _ h => h.elim

/-! ### a def (or method) of the text as it stands behind the top -/
structure Fun (K : PySem.W.Frag) (x qual : Str) (st : Stmt) (f : Addr) (fd : FuncData) : Prop where
  ex : ∃ (oc : Value) (od : Option Addr) (kV doc pm : Value) (an : Option Addr) (cdv ct : Value) (osl : Array (Option Value)),
    fd = PySem.W.fnOf x qual (defArgs st) (defBody st) (defScope st) .none kV doc pm an cdv ct ∧ K.lookup f = some ⟨oc, od, .func fd, osl⟩ ∧ PySem.W.codeIn K cdv qual = true
  kp : PySem.W.keepIn K (.ref f) = true
section
variable {P : Program} {w : World} {K : PySem.W.Frag} {mg : Str → Option Value} {base : Heap}
/-- THE RULE for a def: its body as a term of rules, and the reading of that term -/
theorem Fun.ok {x qual : Str} {st : Stmt} {f : Addr} {fd : FuncData} {N ps : List Str} {k : Nat} {sp : Sp} (F : Fun K x qual st f fd) (S : FnScope N ps (defScope st)) (len : ∀ vs H Q E, sp vs H Q E → vs.length = ps.length)
    (hbody : ∀ (cdv : Value) (A : Around) (outer : List Env) (s : Shared) (H : Hp) (vs : List V) (Q : VK) (E : XK), Room k (A.deeper (envOfC qual (defScope st) s.heap.objs.size f cdv)) → sp vs H Q E →
      ∃ t, PSs (cxOf CX0 P w K mg base N qual (defScope st) f cdv A outer s H E).nox (defBody st) t ∧ t { nx := fun _ H' => Q .non H', rt := Q } (start N vs) H) : FnOk P w K mg base CX0 (k + 1) f fd ps sp := by
  obtain ⟨oc, od, kV, doc, pm, an, cdv, ct, osl, rfl, lk, hcd⟩ := F.ex
  refine fn_of lk hcd S len fun A outer s H vs Q E hr hsp => ?_
  obtain ⟨t, h, q⟩ := hbody cdv A outer s H vs Q E hr hsp
  exact ⟨t, h.nox, q⟩
/-- how its arguments bind (no defaults): h is «fun _ _ _ _ _ _ us hl => match us, hl with | [_, _], _ => rfl», one _ a parameter -/
theorem Fun.binds {x qual : Str} {st : Stmt} {f : Addr} {fd : FuncData} {ps : List Str} (F : Fun K x qual st f fd)
    (h : ∀ (kV doc pm : Value) (an : Option Addr) (cdv ct : Value) (us : List Value), us.length = ps.length → bindArgs (PySem.W.fnOf x qual (defArgs st) (defBody st) (defScope st) .none kV doc pm an cdv ct) ⟨us, []⟩ = pure (ps.zip us)) : Binds K fd ps [] := by
  obtain ⟨oc, od, kV, doc, pm, an, cdv, ct, osl, rfl, lk, hcd⟩ := F.ex
  exact .all (h kV doc pm an cdv ct)
theorem fun_mk {x qual : Str} {st : Stmt} {f : Addr} {oc : Value} {od an : Option Addr} {osl : Array (Option Value)} {kV doc pm cdv ct : Value} (l : K.lookup f = some ⟨oc, od, .func (PySem.W.fnOf x qual (defArgs st) (defBody st) (defScope st) .none kV doc pm an cdv ct), osl⟩)
    (c : PySem.W.codeIn K cdv qual = true) (k : PySem.W.keepIn K (.ref f) = true) : Fun K x qual st f (PySem.W.fnOf x qual (defArgs st) (defBody st) (defScope st) .none kV doc pm an cdv ct) := ⟨⟨oc, od, kV, doc, pm, an, cdv, ct, osl, rfl, l, c⟩, k⟩
end
theorem small1000 {n : Nat} (h : n ≤ 1000) : n < sizeLine := Nat.lt_of_le_of_lt h (by decide)

/-! ### expressions in short: the name that stands in the i-th slot -/
section
variable {X : Cx}
theorem pv (i : Nat) {x : Str} {pos : Pos} (hN : X.N[i]? = some x := by rfl) (hv : Vis X.env.scope x := by first | exact Or.inl rfl | exact Or.inr (Or.inl rfl) | exact Or.inr (Or.inr rfl)) (hd : (x == ("__debug__" : Str)) = false := by decide)
    (hcd : (x == ("__classdict__" : Str)) = false := by decide) : PE X (.Name x pos) (tVar i) := pe_var hN hv hd hcd
end

/-! ### tests -/
theorem iteF {A B : Prop} (h : B) : if false = true then A else B := by
  rw [if_neg Bool.false_ne_true]
  exact h
theorem iteT {A B : Prop} (h : A) : if true = true then A else B := by
  rw [if_pos rfl]
  exact h
theorem ite2 {c A B : Prop} [Decidable c] (h1 : c → A) (h2 : ¬ c → B) : if c then A else B := by
  by_cases h : c
  · rw [if_pos h]
    exact h1 h
  · rw [if_neg h]
    exact h2 h
/-! ### heaps -/
/-- all that was tracked is as it was -/
def Same (H H' : Hp) : Prop := ∀ b o, H b = some o → H' b = some o
theorem Same.refl (H : Hp) : Same H H := fun _ _ h => h
theorem Same.trans {H H1 H2 : Hp} (a : Same H H1) (b : Same H1 H2) : Same H H2 := fun c o h => b c o (a c o h)
theorem Same.free {H H' : Hp} (e : Same H H') {l : Addr} (h : H' l = Option.none) : H l = Option.none := by
  cases q : H l with
  | none => rfl
  | some o =>
    rw [e l o q] at h
    cases h
theorem Same.seq {K : PySem.W.Frag} {H H' : Hp} {a : Addr} {xs : List V} (e : Same H H') (h : SqL K H a xs) : SqL K H' a xs := by
  rcases h with (h | ⟨o, h⟩) | h
  · exact .inl (.inl (e _ _ h))
  · exact .inl (.inr ⟨o, e _ _ h⟩)
  · exact .inr h

/-! ### a dict's pairs: keys that differ -/
section
variable {κ : Type} [DecidableEq κ]
end
/-! ### lists -/
end L2


set_option Elab.async false
set_option linter.all false
set_option maxRecDepth 100000
set_option maxHeartbeats 4000000
namespace L2
open PySem PySem.Spec PyProof.Rows
/-! own rules beside the layer -/
section
variable {X : Cx}
/-- a comprehension over a text, sign by sign -/
theorem lc_str {x : Str} {g : TG} {tt : TT} {te : TE} {vs : List Nat} {σ : St} {H1 : Hp} {D : Addr} {Qd : Hp → Prop} (Pv : Nat → Hp → Prop) (h0 : Pv 0 (upd H1 D (.lst [])))
    (hs : ∀ i c H, x.cps[i]? = some c → Pv i H → g (.str ⟨#[c]⟩) (wipe σ vs) H fun σ2 H2 => wipe σ2 vs = wipe σ vs ∧ tt σ2 H2 fun b H3 =>
      if b = true then te σ2 H3 fun y H4 => ∃ acc, H4 D = some (.lst acc) ∧ acc.length < sizeLine ∧ Pv (i + 1) (upd H4 D (.lst (acc ++ [y]))) else Pv (i + 1) H3) (hd : ∀ H, Pv x.cps.size H → Qd H) :
    ∃ W : Nat → Nat → Hp → Prop, (∃ m, W 0 m (upd H1 D (.lst []))) ∧ ∀ i m H, W i m H →
      ((Its x).stop i H ∧ Qd H) ∨ ((Its x).go i H ∧ ∃ Nx : Hp → Prop, (∀ H', Nx H' → ∃ m', m' < m ∧ W (i + 1) m' H') ∧ ∀ y H', (Its x).yld i H y H' → g y (wipe σ vs) H' fun σ2 H2 => wipe σ2 vs = wipe σ vs ∧ tt σ2 H2 fun b H3 =>
        if b = true then te σ2 H3 fun y H4 => ∃ acc, H4 D = some (.lst acc) ∧ acc.length < sizeLine ∧ Nx (upd H4 D (.lst (acc ++ [y]))) else Nx H3) := by
  refine ⟨fun i m H => m = x.cps.size - i ∧ i ≤ x.cps.size ∧ Pv i H, ⟨x.cps.size, by simp, Nat.zero_le _, h0⟩, ?_⟩
  rintro i m H ⟨rfl, hi, p⟩
  by_cases hlt : i < x.cps.size
  · refine .inr ⟨hlt, Pv (i + 1), fun H' p' => ⟨x.cps.size - (i + 1), by omega, rfl, hlt, p'⟩, fun y H' z => ?_⟩
    obtain ⟨e, c, hc, hv⟩ := z
    subst e hv
    exact hs i c _ hc p
  · have e : i = x.cps.size := by omega
    subst e
    exact .inl ⟨Nat.le_refl _, hd H p⟩

/-- isinstance(x, c) as a call by values -/
def clsV : V → Option Value
  | .ty n => some (.type n)
  | .ref a => some (.ref a)
  | _ => none
def rIsi (K : PySem.W.Frag) : List V → Hp → VK → Prop := fun xs H Q => ∃ (x y : V) (t c : Value) (b : Bool), xs = [x, y] ∧ TyOf K H x t ∧ clsV y = some c ∧ PySem.W.kitOne K t c = some b ∧ Q (.bl b) H
theorem cr_isi : CallR X (.builtin "isinstance") (rIsi X.K) := by
  intro pins s σ H xs us Q I r h
  obtain ⟨x, y, t, c, b, rfl, ty, hy, hk, q⟩ := h
  cases r with
  | cons rx r1 =>
    cases r1 with
    | cons ry r2 =>
      cases r2
      rename_i u v
      have e : v = c := by
        cases y with
        | ty n => cases (show v = Value.type n from ry); exact Option.some.inj hy
        | ref a => cases (show v = Value.ref a from ry); exact Option.some.inj hy
        | non => cases hy
        | bl _ => cases hy
        | int _ => cases hy
        | str _ => cases hy
        | byt _ => cases hy
        | flt _ => cases hy
      subst e
      exact isinst_ok I rx ty hk fun tk => ⟨.bl b, H, I.tok tk, rfl, q⟩

/-- products of any two ints whose bits are few -/
theorem op_mulX : OpR X (binaryOp .Mult) (rI IntMulOk fun i j => .int (i * j)) := opI fun _ _ _ _ _ _ _ hc q => mul_int q hc

/-- a text's slice with a step other than 1 and 0 -/
def cutSt (z : Str) (lo hi : Option Int) (st : Int) : Str := ⟨((Builtin.Str.strSliceIndices lo hi st z.length).filterMap (z.cps[·]?)).toArray⟩
def tSlSt (te : TE) (tl th ts : TO) : TE := fun σ H Q => te σ H fun x H1 => tl σ H1 fun l H2 => th σ H2 fun u H3 => ts σ H3 fun st H4 =>
  ∃ z k, x = .str z ∧ st = some k ∧ (k == 0) = false ∧ (k == 1) = false ∧ (cutSt z l u k).length ≤ sizeLine ∧ Q (.str (cutSt z l u k)) H4
/-- a statement, an expression, a test: what is known behind it, then the rest once -/
def tCut (t : TS) : TS := fun D σ H => ∃ R : St → Hp → Prop, t { D with nx := R } σ H ∧ ∀ σ' H', R σ' H' → D.nx σ' H'
theorem ps_cut {st : Stmt} {t : TS} (h : PS X st t) : PS X st (tCut t) := by
  intro pins s σ H D I hw
  obtain ⟨R, hq, hm⟩ := hw
  refine thn (h pins s σ H _ I hq) fun f s' q => ?_
  cases f with
  | next => obtain ⟨σ', H', I', r⟩ := q; exact ⟨σ', H', I', hm _ _ r⟩
  | brk => exact q
  | cont => exact q
  | ret u => exact q
def tCutE (t : TE) : TE := fun σ H Q => ∃ R : V → Hp → Prop, t σ H R ∧ ∀ v H', R v H' → Q v H'
def tCutT (t : TT) : TT := fun σ H Q => ∃ R : Bool → Hp → Prop, t σ H R ∧ ∀ b H', R b H' → Q b H'
end
end L2

set_option Elab.async false
set_option linter.all false
set_option maxRecDepth 100000
set_option maxHeartbeats 4000000
namespace L2X
open PySem PySem.W PySem.Spec PySem.Calls PyProof.Rows
/-- what of the text a class of exceptions must have -/
structure ExcK (K : Frag) (C : Addr) : Prop where
  ga : findIn K (.ref C) "__getattribute__" = some (some (.builtin "BaseException.__getattribute__"))
  gt : findIn K (.ref C) "__getattr__" = some none
  cl : findIn K (.ref C) "__class__" = some (some (.builtin "object.__class__"))
  get : specialIn K (.builtin "object.__class__") "__get__" = some (some (.builtin "getset_descriptor.__get__"))
  tk : takesIn K (.builtin "object.__class__") = some true
  mo : mroIn K C (.type "object") = some true
  mb : mroIn K C (.type "BaseException") = some true
  cls : (clsIn K C).isSome = true
section
variable {prog : Program} {w : World} {A : Around} {E : Value → Shared → Prop} {s : Shared} {K : Frag} {x C : Addr} {ox : Obj}
theorem exc_entry {tk : Tok} {Q : Fin → Shared → Prop} (Z : ExcK K C) (X : K.In s.heap) (I : InstAt s.heap x ox C none) (hq : Q (.done (.ret (.ref C))) s) :
    wpAny (model prog w) A (Builtin.«object.__getattribute__» ⟨[.ref x, .str "__class__" tk], []⟩) Q E s := by
  have hf : findObj K C none "__class__" = some (.bind (.builtin "getset_descriptor.__get__") (.builtin "object.__class__")) := by
    obtain ⟨cd, hc⟩ := Option.isSome_iff_exists.mp Z.cls
    unfold findObj
    rw [hc, Option.bind_some, Z.cl, Option.bind_some]
    simp [Z.get, Z.tk]
  have L0 := I.type (M := model prog w)
  have L1 := looks_find (M := model prog w) X I hf
  obtain ⟨h, g, d, t, os⟩ := s
  unfold Builtin.«object.__getattribute__»
  repeat (first | (with_reducible refine wpAny_call (class_get (ox := ox) (od := none) X I Z.mo ?_)) | lk)
  exact hq
theorem exc_call {tk : Tok} {R : Result → Shared → Prop} (Z : ExcK K C) (X : K.In s.heap) (I : InstAt s.heap x ox C none) (hq : R (.ok (.ret (.ref C))) s) :
    codeAny (model prog w) A (.call (.builtin "BaseException.__getattribute__") ⟨[.ref x, .str "__class__" tk], []⟩) R s := by
  have hk : builtinKind "BaseException.__getattribute__" = some .slot := by decide +kernel
  have hsplit : splitId "BaseException.__getattribute__" = some ("BaseException", "__getattribute__") := by decide +kernel
  have ha := F.args_bexc_ga (.ref x) (.str "__class__" tk)
  have L0 := I.type (M := model prog w)
  have L2 := looks_mroIn (M := model prog w) X Z.mb
  refine codeAny_call_builtin F.excAttr_ValueError.ga.plain F.entry_bexc_ga ?_
  obtain ⟨h, g, d, t, os⟩ := s
  simp only [checkBuiltinCall, hk, hsplit]
  refine wpAny_bind ?_
  unfold isInstance
  repeat (first | (with_reducible exact exc_entry Z X I hq) | lk)
theorem exc_attr {Q : Option Value → Shared → Prop} (Z : ExcK K C) (X : K.In s.heap) (I : InstAt s.heap x ox C none) (hq : Q (some (.ref C)) { s with toks := s.toks + 1 }) :
    wpAny (model prog w) A (getAttr? (.ref x) "__class__") Q E s := by
  have L0 := I.type (M := model prog w)
  have L1 := looks_findIn (M := model prog w) X Z.ga
  have L2 := looks_findIn (M := model prog w) X Z.gt
  have f3 := F.excAttr_ValueError.ga.bind (.ref x)
  obtain ⟨h, g, d, t, os⟩ := s
  unfold getAttr? getAttrBy? getAttrBy
  refine wpAny_bind (wpAny_mkText (wpAny_bind (wpAny_attempt (wpAny_holding (wpAny_bind (L0.at (wpAny_bind (L1.at ?_))))))))
  have hx2 : (Value.builtin "BaseException.__getattribute__" == Value.builtin "object.__getattribute__") = false := by decide +kernel
  have hx1 : (onTheHeap (Value.ref C) && Value.builtin "BaseException.__getattribute__" == Value.builtin "object.__getattribute__") = false := by rw [hx2]; rfl
  simp only [hx1, Bool.false_eq_true, if_false]
  unfold getAttrByItsOwn hookBefore callGetattribute boundAndCalled
  refine wpAny_bind ?_
  rw [if_pos (show onTheHeap (Value.ref C) = true from rfl)]
  refine L2.at ?_
  refine wpAny_bind (wpAny_attempt (wpAny_holding ?_))
  rw [if_neg (by simp), f3]
  refine wpAny_bind (wpAny_pure ?_)
  show wpAny _ _ (call (.builtin "BaseException.__getattribute__") [.ref x, .str "__class__" t]) _ _ _
  refine wpAny_call (exc_call (s := ⟨h, g, d, t + 1, os⟩) (ox := ox) Z X I ?_)
  exact handed_on (s := ⟨h, g, d, t + 1, os⟩) rfl (wpAny_pure hq)
theorem isType_cls {K : Frag} {M : Model} {h : Heap} {C : Addr} (X : K.In h) (hc : (clsIn K C).isSome = true) : Looks M h (isType (.ref C)) true := by
  obtain ⟨cd, hcD⟩ := Option.isSome_iff_exists.mp hc
  unfold clsIn at hcD
  split at hcD
  · rename_i c' d' cd' sl' ho
    intro A' Q' E' s' k q
    unfold isType loadHead
    exact wpAny_bind (wpAny_loadPart (k _ _ (X _ _ ho)) (wpAny_pure q))
  · cases hcD
theorem kitx_exc (Z : ExcK K C) : KitX K (.ref x) (.ref C) (fun h => InstAt h x ox C none) where
  ty := fun _ _ _ I => I.type
  it := fun _ _ X _ => isType_cls X Z.cls
  ne := fun h tp dd its n sl X htp => by
    obtain ⟨cd, hcD⟩ := Option.isSome_iff_exists.mp Z.cls
    refine Bool.eq_false_iff.mpr fun q => ?_
    have e : C = tp := Value.ref.inj (beq_iff_eq.mp q)
    subst e
    unfold clsIn at hcD
    split at hcD
    · rename_i c' d' cd' sl' ho
      cases (X _ _ ho).symm.trans htp
    · cases hcD
  ca := fun X I k => exc_attr Z X I k
end
end L2X

set_option Elab.async false
set_option linter.all false
set_option maxRecDepth 100000
set_option maxHeartbeats 4000000
namespace L2
open PySem PySem.Spec PyProof.Rows
/-! exceptions in flight -/
/-- objects are kept; at the frames fr the slots may change; of ex nothing is said -/
def Ch (fr ex : List Addr) (h h' : Heap) : Prop :=
  (∀ b o, h.get? b = some o → b ∉ ex → b ∉ fr → h'.get? b = some o) ∧ ∀ b o, h.get? b = some o → b ∉ ex → b ∈ fr → ∃ sl, h'.get? b = some { o with slots := sl }
section
variable {fr ex ex' : List Addr} {h h1 h2 : Heap} {b : Addr} {o : Obj}
theorem Ch.any (c : Ch fr ex h h1) (q : h.get? b = some o) (hx : b ∉ ex) : ∃ sl, h1.get? b = some { o with slots := sl } := by
  by_cases hb : b ∈ fr
  · exact c.2 b o q hx hb
  · exact ⟨o.slots, c.1 b o q hx hb⟩
theorem Ch.same (k : ∀ b o, h.get? b = some o → b ∉ ex → h1.get? b = some o) : Ch fr ex h h1 :=
  ⟨fun b o q hx _ => k b o q hx, fun b o q hx _ => ⟨o.slots, k b o q hx⟩⟩
end
/-- an exception at x, of the class at C, its newest entry at T -/
structure XO (h : Heap) (x C T : Addr) (fl : Value) : Prop where
  ob : ∃ oe vs, h.get? x = some oe ∧ oe.cls = .ref C ∧ oe.dict = none ∧ oe.data = .fields vs ∧ vs[1]? = some (.ref T) ∧ vs[2]? = some .none
  tb : ∃ oT ts, h.get? T = some oT ∧ oT.data = .fields ts ∧ ts[3]? = some fl
  ne : T ≠ x
theorem dict_mapFields {o : Obj} (f : Array Value → Array Value) : (o.mapFields f).dict = o.dict := by
  unfold Obj.mapFields
  split <;> rfl
section
variable {M : Model} {A : Around} {E : Value → Shared → Prop} {s : Shared} {base : Heap} {env : Env} {outer : List Env} {L x C T : Addr} {Q : Unit → Shared → Prop}
theorem not_frame {l : List Env} {o : Obj} {vs : Array Value} (hl : s.heap.FunFrames base l) (he : s.heap.get? x = some o) (hd : o.data = .fields vs) : x ∉ frs l := fun hm => by
  obtain ⟨_, ob, ho, hnf⟩ := hl.mem hm
  rw [he] at ho
  cases ho
  exact hnf vs hd
theorem note_new {oe : Obj} {vs : Array Value} {head : Value} {hadNext : Bool} (hfr : A.frames = some (env :: outer)) (hl : s.heap.FunFrames base (env :: outer)) (hf : env.frame = some L)
    (he : s.heap.get? x = some oe) (hc : oe.cls = .ref C) (hdn : oe.dict = none) (hd : oe.data = .fields vs) (hsz : 1 < vs.size) (h2 : vs[2]? = some .none)
    (k : ∀ h' T, s.heap.objs.size ≤ T → Ch (frs (env :: outer)) [x] s.heap h' → XO h' x C T (rawInt L) → Q () { s with heap := h' }) :
    wpAny M A (do let a ← frameOf env; let pl ← entryPlaceOf L hadNext; let b ← EntryCells.newEntry head a .none (rawInt L) .none pl; setField (.ref x) 1 b) Q E s := by
  have hx : x ∉ frs (env :: outer) := not_frame hl he hd
  refine wpAny_bind (wpAny_frameOf_fun hfr hl hf fun h1 s1 => wpAny_bind (wpAny_entryPlaceOf fun pl hpl => ?_))
  unfold EntryCells.newEntry newFields
  refine wpAny_bind (wpAny_newObj_type ?_ (hpl.sizeOk5 _ _ _ _ _))
  have he1 : h1.get? x = some oe := (s1.2.1 x hx).trans he
  generalize hto : ({ cls := .type "traceback", dict := none, data := .fields ([head, .ref L, .none, rawInt L, .none] ++ (if pl.isEmpty then List.replicate 6 Value.none else pl)).toArray } : Obj) = to
  have htod : to.data = .fields ([head, .ref L, .none, rawInt L, .none] ++ (if pl.isEmpty then List.replicate 6 Value.none else pl)).toArray := by rw [← hto]
  have he2 : (h1.push to).get? x = some oe := Heap.get?_push_of_some _ he1
  have hTx : h1.objs.size ≠ x := Nat.ne_of_gt (Heap.lt_size he1)
  have hd3 := Obj.data_mapFields hd (·.setIfInBounds 1 (Value.ref h1.objs.size))
  refine wpAny_setField he2 hd hsz (k _ h1.objs.size (Nat.le_of_eq s1.1.symm) ⟨fun b o q hb hfb => ?_, fun b o q hb hfb => ?_⟩ ⟨?_, ?_, hTx⟩)
  · rw [Heap.get?_update_other _ _ (by intro z; exact hb (by simp [z]))]
    exact Heap.get?_push_of_some _ ((s1.2.1 b hfb).trans q)
  · obtain ⟨sl, e⟩ := s1.2.2 b o q
    refine ⟨sl, ?_⟩
    rw [Heap.get?_update_other _ _ (by intro z; exact hb (by simp [z]))]
    exact Heap.get?_push_of_some _ e
  · refine ⟨_, _, Heap.get?_update_self _ he2 (Obj.isFreed_of_fields hd3), (Obj.cls_mapFields _ _).trans hc, (dict_mapFields _).trans hdn, hd3, by simp [hsz], ?_⟩
    rw [Array.getElem?_setIfInBounds_ne (by decide)]
    exact h2
  · refine ⟨to, _, ?_, htod, ?_⟩
    · rw [Heap.get?_update_other _ _ (Ne.symm hTx)]
      exact Heap.get?_push_size _ (by rw [← hto]; rfl)
    · first | (simp; done) | (rcases hpl with rfl | ⟨_, _, _, _, _, _, _, rfl⟩ <;> simp)
/-- an exception that lies elsewhere comes by this frame -/
theorem note_on (hfr : A.frames = some (env :: outer)) (hl : s.heap.FunFrames base (env :: outer)) (hf : env.frame = some L) (X : XO s.heap x C T .none)
    (k : ∀ h' T', s.heap.objs.size ≤ T' → Ch (frs (env :: outer)) [x, T] s.heap h' → XO h' x C T' (rawInt L) → Q () { s with heap := h' }) : wpAny M A (noteFrame (.ref x) env) Q E s := by
  obtain ⟨⟨oe, vs, he, hc, hdn, hd, h1, h2⟩, ⟨oT, ts, hT, hdT, h3⟩, ne⟩ := X
  unfold noteFrame
  simp only [hf]
  refine wpAny_bind (wpAny_field he hd h1 ?_)
  rw [if_pos (show (Value.ref T != Value.none) = true by simp)]
  refine wpAny_bind (wpAny_field hT hdT h3 ?_)
  rw [if_neg (show ¬ ((Value.none == rawInt L) = true) by simp [rawInt])]
  refine wpAny_bind (wpAny_setField hT hdT (Array.getElem?_eq_some_iff.mp h3).1 ?_)
  have oth : ∀ b, b ≠ T → (s.heap.update T (Obj.mapFields (·.setIfInBounds 3 Value.none))).get? b = s.heap.get? b := fun b hb => Heap.get?_update_other _ _ (Ne.symm hb)
  have hsz : (s.heap.update T (Obj.mapFields (·.setIfInBounds 3 Value.none))).objs.size = s.heap.objs.size := by simp [Heap.update]
  refine note_new (s := { s with heap := s.heap.update T (Obj.mapFields (·.setIfInBounds 3 Value.none)) }) hfr (hl.of_keeps fun b o hb hnf => ⟨o, (oth b fun z => ?_).trans hb, rfl⟩) hf ((oth x (Ne.symm ne)).trans he) hc hdn hd (Array.getElem?_eq_some_iff.mp h1).1 h2 fun h' T' l c z => ?_
  · rw [z, hT] at hb
    cases hb
    exact hnf ts hdT
  · refine k h' T' (by rw [← hsz]; exact l) ⟨fun b o q hb hfb => c.1 b o ((oth b fun z => hb (by simp [z])).trans q) (fun z => hb (by simp at z; simp [z])) hfb, fun b o q hb hfb => c.2 b o ((oth b fun z => hb (by simp [z])).trans q) (fun z => hb (by simp at z; simp [z])) hfb⟩ z
theorem note_first {oe : Obj} {vs : Array Value} (hfr : A.frames = some (env :: outer)) (hl : s.heap.FunFrames base (env :: outer)) (hf : env.frame = some L)
    (he : s.heap.get? x = some oe) (hc : oe.cls = .ref C) (hdn : oe.dict = none) (hd : oe.data = .fields vs) (h1 : vs[1]? = some .none) (h2 : vs[2]? = some .none)
    (k : ∀ h' T, s.heap.objs.size ≤ T → Ch (frs (env :: outer)) [x] s.heap h' → XO h' x C T (rawInt L) → Q () { s with heap := h' }) : wpAny M A (noteFrame (.ref x) env) Q E s := by
  unfold noteFrame
  simp only [hf]
  refine wpAny_bind (wpAny_field he hd h1 ?_)
  rw [if_neg (by decide)]
  exact note_new hfr hl hf he hc hdn hd (Array.getElem?_eq_some_iff.mp h1).1 h2 k
theorem flight_off {fl : Value} (X : XO s.heap x C T fl) (k : ∀ h' : Heap, (∀ b, b ≠ T → h'.get? b = s.heap.get? b) → h'.objs.size = s.heap.objs.size → XO h' x C T .none → Q () { s with heap := h' }) : wpAny M A (setFlight (.ref x) none) Q E s := by
  obtain ⟨⟨oe, vs, he, hc, hdn, hd, h1, h2⟩, ⟨oT, ts, hT, hdT, h3⟩, ne⟩ := X
  have oth : ∀ b, b ≠ T → (s.heap.update T (Obj.mapFields (·.setIfInBounds 3 Value.none))).get? b = s.heap.get? b := fun b hb => Heap.get?_update_other _ _ (Ne.symm hb)
  have hs3 := (Array.getElem?_eq_some_iff.mp h3).1
  refine wpAny_setFlight_none he hd h1 hT hdT hs3 (k _ oth (by simp [Heap.update]) ⟨⟨oe, vs, (oth x (Ne.symm ne)).trans he, hc, hdn, hd, h1, h2⟩, ⟨_, _, Heap.get?_update_self _ hT (Obj.isFreed_of_fields (Obj.data_mapFields hdT _)), Obj.data_mapFields hdT _, by simp [hs3]⟩, ne⟩)
theorem leave_first {oe : Obj} {vs : Array Value} (hfr : A.frames = some (env :: outer)) (hl : s.heap.FunFrames base (env :: outer)) (hf : env.frame = some L)
    (he : s.heap.get? x = some oe) (hc : oe.cls = .ref C) (hdn : oe.dict = none) (hd : oe.data = .fields vs) (h1 : vs[1]? = some .none) (h2 : vs[2]? = some .none)
    (k : ∀ h' T', s.heap.objs.size ≤ T' → Ch (frs (env :: outer)) [x] s.heap h' → XO h' x C T' .none → Q () { s with heap := h' }) : wpAny M A (leaving env (.ref x)) Q E s := by
  unfold leaving
  refine wpAny_bind (note_first hfr hl hf he hc hdn hd h1 h2 fun h1 T1 l c X1 => ?_)
  refine flight_off (s := { s with heap := h1 }) X1 fun h2 oth sz X2 => k h2 T1 l ?_ X2
  exact ⟨fun b o q hb hfb => (oth b (Nat.ne_of_lt (Nat.lt_of_lt_of_le (Heap.lt_size q) l))).trans (c.1 b o q hb hfb), fun b o q hb hfb => by
    obtain ⟨sl, e⟩ := c.2 b o q hb hfb
    exact ⟨sl, (oth b (Nat.ne_of_lt (Nat.lt_of_lt_of_le (Heap.lt_size q) l))).trans e⟩⟩
end
end L2

set_option Elab.async false
set_option linter.all false
set_option maxRecDepth 100000
set_option maxHeartbeats 4000000
namespace L2
open PySem PySem.Spec PyProof.Rows
section
variable {fs fr ex exU : List Addr} {H H1 : Hp} {h0 h1 h2 h h' : Heap} {P : Program} {w : World}
theorem Un.ch (U : Un fs exU H H1 h0 h1) (c : Ch fr ex h1 h2) (hx : ∀ b o, h0.get? b = some o → b ∉ ex) (hf : ∀ b o, h0.get? b = some o → b ∈ fr → b ∈ fs) : Un fs exU H H1 h0 h2 where
  keep := fun b o q n hb he => c.1 b o (U.keep b o q n hb he) (hx b o q) fun z => hb (hf b o q z)
  slot := fun b o q n hb he => by
    obtain ⟨sl, e⟩ := U.slot b o q n hb he
    obtain ⟨sl2, e2⟩ := c.any e (hx b o q)
    exact ⟨sl2, e2⟩
  free := U.free
  there := fun b o q he => by
    obtain ⟨o', e⟩ := U.there b o q he
    obtain ⟨sl, e2⟩ := c.any e (hx b o q)
    exact ⟨_, e2⟩
  tups := U.tups
  frzs := U.frzs
  tbls := U.tbls
theorem HOk.ch (x : HOk P w H h) (c : Ch fr ex h h') (hf : ∀ b ∈ fr, H b = none) (he : ∀ b ∈ ex, H b = none) : HOk P w H h' := fun a o e =>
  (x a o e).stay (fun b u hb q => by
    have nn : H b ≠ none := by
      rcases hb with z | z
      · rw [z, e]; exact fun z => nomatch z
      · rw [z]; exact fun z => nomatch z
    exact c.1 b u q (fun z => nn (he b z)) fun z => nn (hf b z)) (fun _ q => q) fun _ _ q => q
end
/-- an address that the context does not know -/
structure FB (X : Cx) (pins : List (Addr × Obj)) (H : Hp) (b : Addr) : Prop where
  s0 : X.s_0.heap.get? b = none
  nt : H b = none
  nl : b ≠ X.env.locals
  nc : ∀ y c, X.env.cells.lookup y = some c → c ≠ b
  np : ∀ p ∈ X.pn ++ pins, p.1 ≠ b
section
variable {X : Cx} {pins : List (Addr × Obj)} {σ : St} {H H1 : Hp} {s s' : Shared} {h' : Heap} {ex : List Addr} {b : Addr}
theorem Inv.ch {t' : Nat} (I : Inv X pins σ H s) (c : Ch (frs X.stack) ex s.heap h') (hx : ∀ b ∈ ex, FB X pins H b) : Inv X pins σ H { s with heap := h', toks := t' } := by
  have nL : X.env.locals ∉ ex := fun z => (hx _ z).nl rfl
  have cellK : ∀ x a, X.env.cells.lookup x = some a → ∀ v, s.heap.IsCell a v → h'.IsCell a v := fun x a e v ⟨o, ho, hd⟩ => by
    obtain ⟨sl, q⟩ := c.any ho fun z => (hx _ z).nc x a e rfl
    exact ⟨_, q, hd⟩
  refine ⟨I.ok, I.os, I.bare, I.base.ch c (fun b o q z => ?_) (fun b o q z => ?_), ?_, fun x a e => ?_, I.free, I.freeC, fun p hp => ?_, I.hok.ch c I.stkFree fun b hb => (hx b hb).nt, I.len⟩
  · rw [(hx b z).s0] at q; cases q
  · rcases List.mem_cons.mp (I.stkSub b z) with e | e
    · rw [e] at q
      exact absurd (Nat.lt_of_lt_of_le (Heap.lt_size q) I.ok.above) (Nat.lt_irrefl _)
    · exact e
  · obtain ⟨m, ⟨o, es, ep, ho, r⟩, hl⟩ := I.loc
    obtain ⟨sl, q⟩ := c.any ho nL
    refine ⟨m, ⟨_, es, ep, q, r⟩, fun i x v e1 e2 e3 => ?_⟩
    obtain ⟨u, ru, l⟩ := hl i x v e1 e2 e3
    refine ⟨u, ru, ?_⟩
    rcases l with l | ⟨kk, a, e, z⟩
    · exact .inl l
    · exact .inr ⟨kk, a, e, cellK x a e _ z⟩
  · obtain ⟨v, z⟩ := I.cell x a e
    exact ⟨v, cellK x a e v z⟩
  · obtain ⟨e, n, ne, nf, d⟩ := I.pin p hp
    refine ⟨c.1 p.1 p.2 e (fun z => (hx _ z).np p hp rfl) fun z => ?_, n, ne, nf, d⟩
    rcases List.mem_cons.mp (I.stkSub _ z) with q | q
    · exact ne q
    · exact nf q
/-- what was not there at a call is not known to the caller -/
theorem Inv.fb (I : Inv X pins σ H s) (hex : X.ex = []) (h : s.heap.get? b = none) (hn : H1 b = none) : FB X pins H1 b := by
  refine ⟨?_, hn, ?_, fun y c e z => ?_, fun p hp z => ?_⟩
  · cases q : X.s_0.heap.get? b with
    | none => rfl
    | some o =>
      obtain ⟨o', e⟩ := I.base.there b o q (by rw [hex]; simp)
      rw [h] at e; cases e
  · rintro rfl
    obtain ⟨m, ⟨o, es, ep, ho, r⟩, hl⟩ := I.loc
    rw [h] at ho; cases ho
  · obtain ⟨v, o, ho, hd⟩ := I.cell y c e
    rw [z, h] at ho; cases ho
  · have q := (I.pin p hp).1
    rw [z, h] at q; cases q
theorem Inv.fbSize (I : Inv X pins σ H s) (hb : s.heap.objs.size ≤ b) (hn : H1 b = none) : FB X pins H1 b := by
  obtain ⟨f0, f1, f2, f3, f4, f5⟩ := I.fpOk (H' := H1) hb hn
  exact ⟨Heap.get?_none_of_le (Nat.le_trans I.sz hb), hn, f1, f4, f5⟩
end
/-- how an exception lies behind a call -/
def CX1 (P : Program) (w : World) : CXT := fun outer H s E e s' => ∃ (x C T : Addr) (H1 : Hp), e = .ref x ∧ s'.os = s.os ∧ AllBare s'.gens ∧ Un (frs outer) [] H H1 s.heap s'.heap ∧ HOk P w H1 s'.heap ∧
  XO s'.heap x C T .none ∧ s.heap.get? x = none ∧ s.heap.get? T = none ∧ H1 x = none ∧ H1 T = none ∧ E (.ref C) none H1
section
variable {P : Program} {w : World} {K : PySem.W.Frag} {mg : Str → Option Value} {base : Heap} {N : List Str} {qual : Str} {scope : Scope} {f : Addr} {cd : Value} {A : Around} {outer : List Env} {s0 : Shared} {H0 : Hp} {E : XK}
/-- a def raises -/
def Up (X : Cx) (E : XK) : Prop := ∀ (pins : List (Addr × Obj)) (σ : St) (H : Hp) (s : Shared) (x C : Addr) (args : List Value) (h' : Heap), Inv X pins σ H s → Heap.MadeExcOf s.heap h' x (.ref C) args → E (.ref C) none H → X.xe (.ref x) { s with heap := h' }
theorem up_of : Up (cxOf (CX1 P w) P w K mg base N qual scope f cd A outer s0 H0 E) E := by
  intro pins σ H s x C args h' I hm hE
  have I1 : Inv (cxOf (CX1 P w) P w K mg base N qual scope f cd A outer s0 H0 E) pins σ H { s with heap := h' } := I.kept (t' := s.toks) hm.keeps
  obtain ⟨t, he, _, _⟩ := hm.there
  have nx : H x = none := by
    cases q : H x with
    | none => rfl
    | some u =>
      have z := (I.hok x u q).lt
      cases qq : s.heap.get? x with
      | none => 
        exfalso
        have hk := hm.new
        cases u with
        | lst xs => obtain ⟨_, _, _, _, e⟩ := I.hok x _ q; rw [hk] at e; cases e
        | tup xs => obtain ⟨_, _, _, o, e, _⟩ := I.hok x _ q; rw [hk] at e; cases e
        | dK kvs => obtain ⟨_, _, _, _, o, _, _, e, _⟩ := I.hok x _ q; rw [hk] at e; cases e
        | dT kvs => obtain ⟨_, _, _, _, o, _, _, e, _⟩ := I.hok x _ q; rw [hk] at e; cases e
        | set S n => obtain ⟨o, _, _, _, e, _⟩ := I.hok x _ q; rw [hk] at e; cases e
        | ins C dx fs => obtain ⟨_, _, _, e, _⟩ := I.hok x _ q; rw [hk] at e; cases e
        | own y => obtain ⟨_, e⟩ := I.hok x _ q; rw [hk] at e; cases e
        | xd fs => obtain ⟨_, ⟨_, _, _, e, _⟩, _⟩ := I.hok x _ q; rw [hk] at e; cases e
        | rng lo hi => obtain ⟨_, _, _, e⟩ := I.hok x _ q; rw [hk] at e; cases e
        | frz ob u => obtain ⟨e, _⟩ := I.hok x _ q; rw [hk] at e; cases e
        | tbl ps => have e : s.heap.get? x = some _ := I.hok x _ q; rw [hk] at e; cases e
        | met f y => have e : s.heap.get? x = some _ := I.hok x _ q; rw [hk] at e; cases e
        | ext φ => obtain ⟨_, ⟨_, e⟩, _⟩ := I.hok x _ q; rw [hk] at e; cases e
      | some o => rw [hm.new] at qq; cases qq
  have fx := I.fb (H1 := H) rfl hm.new nx
  show wpAny _ _ (leaving _ (.ref x)) _ _ _
  refine leave_first (s := { s with heap := h' }) (base := base) (outer := outer) (C := C) I1.ok.frames I1.stack rfl he rfl rfl rfl rfl rfl fun h2 T' l c X' => ?_
  have I2 := I1.ch (t' := s.toks) c fun b hb => by rw [List.mem_singleton.mp hb]; exact fx
  exact ⟨x, C, T', H, rfl, I2.os, I2.bare, I2.base, I2.hok, X', fx.s0, (I1.fbSize l (I1.hok.fresh l)).s0, nx, I1.hok.fresh l, hE⟩
end
end L2

set_option Elab.async false
set_option linter.all false
set_option maxRecDepth 100000
set_option maxHeartbeats 4000000
namespace L2
open PySem PySem.Spec PyProof.Rows
/-- nothing is handled, or an exception without a context -/
def HdS (A : Around) (h : Heap) : Prop := A.handled = none ∨ ∃ (e0 : Addr) (oe : Obj) (vs : Array Value), A.handled = some (.ref e0) ∧ h.get? e0 = some oe ∧ oe.data = .fields vs ∧ vs[2]? = some .none
theorem entry_unchain : entryFor table "proto.unchain" = some Builtin.«proto.unchain» := entryFor_of_tree (by kernel_rfl)
section
variable {prog : Program} {w : World} {A : Around} {E : Value → Shared → Prop} {s : Shared}
theorem raise_hd {α : Type} {a : Addr} {o : Obj} {us : Array Value} {Q : α → Shared → Prop} (hd : HdS A s.heap) (ha : s.heap.get? a = some o) (hu : o.data = .fields us) (hsz : 2 < us.size) (hne : ∀ e0, A.handled = some (.ref e0) → e0 ≠ a)
    (h : ∀ h' : Heap, (∀ b, b ≠ a → h'.get? b = s.heap.get? b) → (∃ o', h'.get? a = some o' ∧ o'.cls = o.cls) → E (.ref a) { s with heap := h' }) : wpAny (model prog w) A (raiseNew (.ref a) : Sem α) Q E s := by
  rcases hd with hd | ⟨e0, oe, vs, hh, he, hv, h2⟩
  · exact wpAny_raiseNew_none hd (h s.heap (fun _ _ => rfl) ⟨o, ha, rfl⟩)
  · unfold raiseNew
    refine wpAny_bind (wpAny_handled ?_)
    rw [hh]
    have n1 : (Value.ref e0 != Value.ref a) = true := by
      have := hne e0 hh
      simp [this]
    simp only [n1, if_true]
    refine wpAny_bind (wpAny_holding (wpAny_runValue (codeAny_builtin entry_unchain ?_)))
    unfold Builtin.«proto.unchain»
    dsimp only
    refine wpAny_bind (wpAny_field he hv h2 ?_)
    rw [if_pos (by decide)]
    refine wpAny_bind (wpAny_pure (wpAny_pure ?_))
    refine wpAny_bind ?_
    unfold updateField
    refine wpAny_bind (wpAny_load ha ?_)
    rw [hu]
    dsimp only
    rw [if_pos hsz]
    refine wpAny_update ha (wpAny_throw (h _ (fun b hb => Heap.get?_update_other _ _ (Ne.symm hb)) ⟨_, Heap.get?_update_self _ ha (Obj.isFreed_of_fields (Obj.data_mapFields hu _)), Obj.cls_mapFields _ _⟩))
theorem range_end {it : Addr} {x left step : Int} {Q : Option Value → Shared → Prop} (hd : HdS A s.heap) (hit : IsRangeIter s.heap it x left step) (hleft : left ≤ 0)
    (hQ : ∀ h', Heap.ExtBut it s.heap h' → Q none { s with heap := h' }) : wpAny (model prog w) A (pyNext (.ref it)) Q E s := by
  have hT : s.TypeIs (.ref it) "range_iterator" := ⟨_, hit, rfl⟩
  unfold pyNext
  refine wpAny_bind (wpAny_attempt (wpAny_callSpecial?_slot (name := Str.ofString "__next__") hT F.slot_range_iterator_next (wpAny_call_entry F.slot_range_iterator_next hT F.entry_range_iterator_next ?_ (F.args_range_iterator_next_1 _))))
  (show wpAny _ _ (field (.ref it) 0 >>= _) _ _ s); refine wpAny_bind (wpAny_field hit rfl (x := rawInt x) rfl ?_)
  (show wpAny _ _ (field (.ref it) 1 >>= _) _ _ s); refine wpAny_bind (wpAny_field hit rfl (x := rawInt left) rfl ?_)
  (show wpAny _ _ (field (.ref it) 2 >>= _) _ _ s); refine wpAny_bind (wpAny_field hit rfl (x := rawInt step) rfl ?_)
  (show wpAny _ _ (if left ≤ 0 then _ else _) _ _ s); rw [if_pos hleft]
  refine wpAny_bind (wpAny_rule (wpAny_bind ?_))
  (show wpAny _ _ (newExc (.type "StopIteration") [] >>= _) _ _ _); refine wpAny_bind ?_
  simp only [newExc, newTuple]; refine wpAny_bind (wpAny_newObj_type ?_ (by size_fits))
  refine wpAny_bind (m := firstArgMember _ _) (wpAny_of_eq (a := Value.none) (by first | rfl | (simp only [firstArgMember]; rfl)) ?_); refine wpAny_newObj_type ?_ (by size_fits)
  generalize hg : s.heap.push { cls := Value.type "tuple", data := Data.seq ([] : List Value).toArray } = h1
  have k1 : ∀ b o, s.heap.get? b = some o → h1.get? b = some o := fun b o e => by rw [← hg]; exact Heap.get?_push_of_some _ e
  refine raise_hd (s := { s with heap := h1.push _ }) (a := h1.objs.size) ?_ (Heap.get?_push_size _ rfl) rfl (by first | decide | (simp; omega)) (fun e0 he0 => ?_) fun h' oth hx => ?_
  · rcases hd with hd | ⟨e0, oe, vs, hh, he, hv, h2⟩
    · exact .inl hd
    · exact .inr ⟨e0, oe, vs, hh, Heap.get?_push_of_some _ (k1 _ _ he), hv, h2⟩
  · rcases hd with hd | ⟨e1, oe, vs, hh, he, hv, h2⟩
    · have z : A.handled = some (.ref e0) := he0
      rw [hd] at z; cases z
    · have z : A.handled = some (.ref e0) := he0
      rw [hh] at z
      cases z
      exact Nat.ne_of_lt (Heap.lt_size (k1 _ _ he))
  · obtain ⟨o', e1, e2⟩ := hx
    refine wpAny_bind (wpAny_isInstance (T := "StopIteration") (b := true) ⟨o', e1, e2⟩ isSubtype_stop ?_)
    refine wpAny_pure (hQ _ fun b o hb e => ?_)
    rw [oth b (Nat.ne_of_lt (Heap.lt_size (k1 _ _ e)))]
    exact Heap.get?_push_of_some _ (k1 _ _ e)
end
end L2

set_option Elab.async false
set_option linter.all false
set_option maxRecDepth 100000
set_option maxHeartbeats 4000000
namespace L2
open PySem PySem.Spec PyProof.Rows
/-- the exception that is handled: at x, of the class at C -/
def HdE (A : Around) (x C : Addr) (H : Hp) (h : Heap) : Prop := A.handled = some (.ref x) ∧ H x = none ∧ ∃ (ox : Obj) (vs : Array Value), h.get? x = some ox ∧ ox.cls = .ref C ∧ ox.dict = none ∧ ox.data = .fields vs ∧ vs[2]? = some .none
def HdX (X : Cx) (x C : Addr) : Prop := HdE X.A x C X.H_0 X.s_0.heap ∧ x ∉ X.fs ∧ x ∉ X.ex
theorem HdX.at {X : Cx} {x C : Addr} {pins : List (Addr × Obj)} {σ : St} {H : Hp} {s : Shared} (h : HdX X x C) (I : Inv X pins σ H s) : HdE X.A x C H s.heap := by
  obtain ⟨⟨hh, n, ox, vs, e, r⟩, nf, nx⟩ := h
  exact ⟨hh, I.base.free x ox e n nx, ox, vs, I.base.keep x ox e n nf nx, r⟩
structure TurnR (P : Program) (w : World) (K : PySem.W.Frag) (tg : Expr) (J : It) (fp : List Addr) (it : Addr) (tn : Nat → Heap → Prop) : Prop where
  mem : it ∈ fp
  obj : ∀ i h, tn i h → ∀ b ∈ fp, ∃ o, h.get? b = some o ∧ ∀ v, o.data ≠ .cell v
  keep : ∀ i h h', tn i h → (∀ b ∈ fp, ∀ o, h.get? b = some o → h'.get? b = some o) → tn i h'
  item : ∀ (X : Cx), X.prog = P → X.w = w → X.K = K → ∀ (i : Nat) (pins : List (Addr × Obj)) (s : Shared) (σ : St) (H : Hp) (E : Value → Shared → Prop), Inv X pins σ H s → HdS X.A s.heap → (∀ b ∈ fp, FpOk X pins H b) → tn i s.heap → J.go i H →
    wpAny (model P w) X.A (pyNext (.ref it)) (fun r s1 => ∃ u, r = some u ∧
      wpAny (model P w) X.A (letOwnedTupleGo tg (.ref it) u) (fun _ s2 => ∃ x H', Inv X pins σ H' s2 ∧ RelV x u ∧ J.yld i H x H' ∧ tn (i + 1) s2.heap ∧ ∀ b ∈ fp, H' b = none) E s1) E s
  done : ∀ (X : Cx), X.prog = P → X.w = w → X.K = K → ∀ (i : Nat) (pins : List (Addr × Obj)) (s : Shared) (σ : St) (H : Hp) (E : Value → Shared → Prop), Inv X pins σ H s → HdS X.A s.heap → (∀ b ∈ fp, FpOk X pins H b) → tn i s.heap → J.stop i H →
    wpAny (model P w) X.A (pyNext (.ref it)) (fun r s1 => r = none ∧ Inv X pins σ H s1) E s
  self : ∀ (A : Around) (i : Nat) (s : Shared) (Q : Value → Shared → Prop) (E : Value → Shared → Prop), tn i s.heap → Q (.ref it) s → wpAny (model P w) A (pyIter (.ref it)) Q E s
/-- an iterator has come -/
def PIER (X : Cx) (pins : List (Addr × Obj)) (σ : St) (tg : Expr) (R : It → Hp → Prop) (itv : Value) (s2 : Shared) : Prop :=
  ∃ (it : Addr) (fp : List Addr) (tn : Nat → Heap → Prop) (J : It) (H' : Hp), itv = .ref it ∧ Inv X pins σ H' s2 ∧ TurnR X.prog X.w X.K tg J fp it tn ∧ tn 0 s2.heap ∧ (∀ b ∈ fp, FpOk X pins H' b) ∧ R J H'
def PIR (X : Cx) (tg iter : Expr) (wi : TI) : Prop :=
  ∀ (pins : List (Addr × Obj)) (s : Shared) (σ : St) (H : Hp) (R : It → Hp → Prop), Inv X pins σ H s → wi σ H R →
    wpAny (model X.prog X.w) X.A (eval iter X.env) (fun v s1 => wpAny (model X.prog X.w) X.A (pyIter v) (PIER X pins σ tg R) X.xe s1) X.xe s

theorem turn_rangeR {P : Program} {w : World} {K : PySem.W.Frag} {tg : Expr} (it : Addr) (lo : Int) (n : Nat) : TurnR P w K tg (Itr lo n) [it] it (fun i h => IsRangeIter h it (lo + (i : Nat) * 1) ((n : Int) - (i : Nat)) 1) where
  mem := by simp
  obj := fun i h st b hb => by
    have e : b = it := by simpa using hb
    subst e
    exact ⟨_, st, fun v z => by
      have z' : Data.fields _ = Data.cell v := z
      cases z'⟩
  keep := fun i h h' st k => k it (by simp) _ st
  item := by
    intro X hP hw hK i pins s σ H E I hd hf st hg
    subst hP hw hK
    obtain ⟨f0, f1, f2, f3, f4, f5⟩ := hf it (by simp)
    refine wpAny_pyNext_range_item st (by have : i < n := hg; omega) fun h' st' sb => ?_
    have I1 : Inv X pins σ H { s with heap := h', toks := s.toks + 1 } := I.turned (fun b o hb e => (sb.2 b hb).trans e) f0 f1 f3 f4 f5
    have st2 : IsRangeIter h' it (lo + ((i + 1 : Nat) : Int) * 1) ((n : Int) - ((i + 1 : Nat) : Int)) 1 := by
      have e1 : lo + ((i + 1 : Nat) : Int) * 1 = lo + (i : Int) * 1 + 1 := by omega
      have e2 : (n : Int) - ((i + 1 : Nat) : Int) = (n : Int) - (i : Int) - 1 := by omega
      rw [e1, e2]; exact st'
    refine ⟨_, rfl, go_of (s := { s with heap := h', toks := s.toks + 1 }) (n := "range_iterator") st2 rfl rfl (by decide) ⟨.int (lo + i), H, I1, ⟨s.toks, ?_⟩, ⟨rfl, rfl⟩, st2, fun b hb => (hf b hb).1⟩⟩
    rw [Int.mul_one]
  done := by
    intro X hP hw hK i pins s σ H E I hd hf st hg
    subst hP hw hK
    obtain ⟨f0, f1, f2, f3, f4, f5⟩ := hf it (by simp)
    exact range_end hd st (by have : n ≤ i := hg; omega) fun h' eb => ⟨rfl, I.turned (t' := s.toks) (fun b o hb e => eb b o hb e) f0 f1 f3 f4 f5⟩
  self := fun _ _ _ _ _ st h => wpAny_pyIter_rangeiter st h
section
variable {X : Cx} {tg : Expr}
/-- a range object just made, walked -/
theorem range_itR {pins : List (Addr × Obj)} {σ : St} {H : Hp} {s : Shared} {R : It → Hp → Prop} {E : Value → Shared → Prop} {lo hi : Int} {t u v : Tok} {tk : Nat} (I : Inv X pins σ H s) (h1 : -(2 ^ 62) ≤ lo) (h2 : lo < 2 ^ 62) (h3 : -(2 ^ 62) ≤ hi) (h4 : hi < 2 ^ 62)
    (q : R (Itr lo (hi - lo).toNat) H) : wpAny (model X.prog X.w) X.A (pyIter (.ref s.heap.objs.size)) (PIER X pins σ tg R) E { s with heap := s.heap.push { cls := .type "range", data := .fields #[.int lo t, .int hi u, .int 1 v] }, toks := tk } := by
  refine wpAny_pyIter_range (IsRange.new ..) (small_one h1 h2 h3 h4) ?_
  have I1 : Inv X pins σ H { s with heap := s.heap.push { cls := .type "range", data := .fields #[.int lo t, .int hi u, .int 1 v] }, toks := tk } := I.kept fun b o e => Heap.get?_push_of_some _ e
  refine ⟨(s.heap.push { cls := .type "range", data := .fields #[.int lo t, .int hi u, .int 1 v] }).objs.size, [(s.heap.push { cls := .type "range", data := .fields #[.int lo t, .int hi u, .int 1 v] }).objs.size], _, _, H, rfl,
    I1.kept (t' := tk) fun b o e => Heap.get?_push_of_some _ e, turn_rangeR _ lo (hi - lo).toNat, ?_, fun b hb => ?_, q⟩
  · have e1 : lo + ((0 : Nat) : Int) * 1 = lo := by simp
    have e2 : (((hi - lo).toNat : Nat) : Int) - ((0 : Nat) : Int) = Builtin.Range.rangeSize lo hi 1 := by rw [rangeSize_one]; split <;> omega
    show IsRangeIter _ _ (lo + ((0 : Nat) : Int) * 1) ((((hi - lo).toNat : Nat) : Int) - ((0 : Nat) : Int)) 1
    rw [e1, e2]
    exact Heap.get?_push_size _ rfl
  · have e : b = (s.heap.push { cls := .type "range", data := .fields #[.int lo t, .int hi u, .int 1 v] }).objs.size := by simpa using hb
    subst e
    exact I1.fpOk (Nat.le_refl _) (I1.hok.fresh (Nat.le_refl _))
theorem pi_range1R {a : Expr} {ta : TA} {p pos : Pos} (hg : Gl X "range") (hm : X.mg "range" = none) (ha : PA X [a] ta) (hs : starEach [a] X.env = [(false, eval a X.env)] := by rfl) : PIR X tg (.Call (.Name "range" p) [a] [] pos) (iRng1 ta) := by
  intro pins s σ H R I h
  refine Call_ (ld_blt I hg hm boot_range (PyProof.Rows.callWith_type1 (thn (ha pos pins s σ H _ I h) fun us s1 ⟨vs, H1, I1, r1, q1⟩ => ?_) hs rfl))
  obtain ⟨j, e, q1, q2, q⟩ := q1
  subst e
  cases r1 with
  | cons r rr =>
    cases rr
    obtain ⟨t, rfl⟩ := r
    exact call_range_1 (range_itR I1 (by omega) (by omega) q1 q2 (by simpa using q))
end
section
variable {X : Cx}
theorem lc_coreR {pins : List (Addr × Obj)} {s : Shared} {σ : St} {H : Hp} {Q : VK} {elt tg iter : Expr} {ifs : List Expr} {scope : Scope} {own : List (Str × Nat)} {pos pos' : Pos} {wi : TI} {g : TG} {tt : TT} {te : TE} {use : Option (Value → Sem Unit)} {Qf : Value → Shared → Prop}
    {xe Ce : Addr} (hX : HdX X xe Ce) (hN : X.N.Nodup) (I : Inv X pins σ H s) (hi : PIR X tg iter wi) (ok : BlkOk X.N X.env.scope scope own)
    (hg : ∀ (s : Shared) (H : Hp) (C : Addr) (cl : List (Str × Addr)) (fp : List Addr), PG (X.blk s H scope (compEnvC scope cl C X.env) fp) tg g) (ht : ∀ (s : Shared) (H : Hp) (C : Addr) (cl : List (Str × Addr)) (fp : List Addr), PTs (X.blk s H scope (compEnvC scope cl C X.env) fp) ifs tt)
    (he : ∀ (s : Shared) (H : Hp) (C : Addr) (cl : List (Str × Addr)) (fp : List Addr), PE (X.blk s H scope (compEnvC scope cl C X.env) fp) elt te) (hs : ∀ x, foldedSetIterable iter X.env x = pure x)
    (h : tLc wi g tt te (own.map (·.2)) σ H Q)
    (hRR : ∀ D C s' m H', Inv X pins σ H' s' → Q (.ref D) H' → s'.heap.Ns C m → FpOk X pins H' C → compPost (model X.prog X.w) X.A X.xe use Qf (.ref D) C (.ok .next) s') :
    wpAny (model X.prog X.w) X.A (comprehension (.ListComp elt [⟨tg, iter, ifs, 0⟩] scope pos) scope X.env pos' (newList []) false (eval iter X.env) use) Qf X.xe s := by
  have hfree : ∀ y ∈ scope.names, y.2 = .free → ∃ c, X.env.cells.lookup y.1 = some c := fun y hy e => by
    rcases ok.free y hy e with k | k
    · exact I.ok.has _ (.inl k)
    · exact I.ok.has _ (.inr k)
  refine wpAny_comprehension_free (use := use) rfl hs (closure_ok hfree) ok.kind (fun y hy e => by rw [ok.uniq y hy, e])
    (thn (hi pins s σ H _ I h) fun xv s1 hx => thn hx fun itv s2 h2 => ?_)
  obtain ⟨it, fp, tn, J, H2, e, I2, T, st2, f2, q⟩ := h2
  subst e
  refine wpAny_newObj_type (newEnv_comp ?_) (by show 0 ≤ sizeLine; decide)
  generalize hD : s2.heap.objs.size = D
  have hDn : H2 D = none := I2.hok.fresh (Nat.le_of_eq hD)
  obtain ⟨W, ⟨m0, w0⟩, turn⟩ := q D hDn
  -- the new list
  generalize hs3 : ({ s2 with heap := s2.heap.push { cls := .type "list", data := .seq ([] : List Value).toArray } } : Shared) = s3
  have I3 : Inv X pins σ (upd H2 D (.lst [])) s3 := by
    rw [← hs3]
    refine I2.laid (t' := s2.toks) (fun b o e => Heap.get?_push_of_some _ e) (Nat.le_of_eq hD) ⟨Nat.zero_le _, [], 0, .nil, ?_⟩
    rw [← hD]
    exact Heap.get?_push_size _ rfl
  have h3 : s3.heap = s2.heap.push { cls := .type "list", data := .seq ([] : List Value).toArray } := by rw [← hs3]
  have sz : ∀ b ∈ fp, b < s2.heap.objs.size := fun b hb => by
    obtain ⟨o, e, _⟩ := T.obj _ _ st2 b hb
    exact Heap.lt_size e
  have f3 : ∀ b ∈ fp, FpOk X pins (upd H2 D (.lst [])) b ∧ b < s3.heap.objs.size := fun b hb => by
    have hlt := sz b hb
    refine ⟨⟨?_, (f2 b hb).2⟩, by rw [h3, Heap.size_push]; exact Nat.lt_succ_of_lt hlt⟩
    rw [upd_ne (by rw [← hD]; exact Nat.ne_of_lt hlt)]
    exact (f2 b hb).1
  have st3 : tn 0 s3.heap := T.keep _ _ _ st2 fun b _ o e => by rw [h3]; exact Heap.get?_push_of_some _ e
  have I4 := block_start I3 ok hN f3
  have pg := hg s3 (upd H2 D (.lst [])) s3.heap.objs.size (cellsFrom (s3.heap.objs.size + 1) scope.names (cloFrom X.env.cells scope.names [])) fp
  have pt := ht s3 (upd H2 D (.lst [])) s3.heap.objs.size (cellsFrom (s3.heap.objs.size + 1) scope.names (cloFrom X.env.cells scope.names [])) fp
  have pe := he s3 (upd H2 D (.lst [])) s3.heap.objs.size (cellsFrom (s3.heap.objs.size + 1) scope.names (cloFrom X.env.cells scope.names [])) fp
  show codeAny _ _ (.compStart (.ListComp elt [⟨tg, iter, ifs, 0⟩] scope pos) 0 (.ref it) (.ref D) (compEnvC scope (cellsFrom (s3.heap.objs.size + 1) scope.names (cloFrom X.env.cells scope.names [])) s3.heap.objs.size X.env)) (compPost (model X.prog X.w) X.A X.xe use Qf (.ref D) s3.heap.objs.size) { s3 with heap := pushCells (s3.heap.push { cls := .type "dict", data := .dict #[] }) scope.names }
  have nfp : ∀ b ∈ fp, (upd H2 D (.lst [])) b = none := fun b hb => (f3 b hb).1.1
  generalize hce : compEnvC scope (cellsFrom (s3.heap.objs.size + 1) scope.names (cloFrom X.env.cells scope.names [])) s3.heap.objs.size X.env = ce at I4 pg pt pe ⊢
  have cL : ce.locals = s3.heap.objs.size := by subst hce; rfl
  generalize hH3 : upd H2 D (.lst []) = H3 at I3 I4 pg pt pe w0 nfp f3
  generalize hs4 : ({ s3 with heap := pushCells (s3.heap.push { cls := .type "dict", data := .dict #[] }) scope.names } : Shared) = s4 at I4 ⊢
  have st4 : tn 0 s4.heap := T.keep _ _ _ st3 fun b _ o e => by rw [← hs4]; exact pushCells_keeps _ _ _ _ (Heap.get?_push_of_some _ e)
  have stat : ∀ {σ' : St} {H' : Hp} {s' : Shared}, Inv (X.blk s3 H3 scope ce fp) [] σ' H' s' → (∀ b ∈ fp, H' b = none) → ∀ b ∈ fp, FpOk (X.blk s3 H3 scope ce fp) [] H' b := fun {σ' H' s'} I' hn b hb =>
    ⟨hn b hb, (I'.ok.exf b hb).1, I'.ok.exfs b hb, .inl hb, fun x c e => (I'.ok.exf b hb).2 x c e, fun p hp => absurd (show p ∈ ([] : List (Addr × Obj)) ++ [] from hp) (by simp)⟩
  have hh5 : ∀ {σ' : St} {H' : Hp} {s' : Shared}, Inv (X.blk s3 H3 scope ce fp) [] σ' H' s' → HdS X.A s'.heap := fun {σ' H' s'} I' => by
    obtain ⟨hh, n3, ox, vs, e3, hcl, hdn, hdt, h2⟩ := hX.at I3
    have nf : xe ∉ frs X.stack := not_frame I3.stack e3 hdt
    have nfp : xe ∉ fp := fun z => by
      rcases (f3 xe z).1.2.2.2.1 with q | q
      · exact hX.2.2 q
      · obtain ⟨_, _, _, _, e0, _⟩ := hX.1
        exact absurd (Nat.lt_of_lt_of_le (Heap.lt_size e0) q) (Nat.lt_irrefl _)
    exact .inr ⟨xe, ox, vs, hh, I'.base.keep xe ox e3 n3 nf nfp, hdt, h2⟩
  have loop : codeAny (model X.prog X.w) X.A (.compLoop (.ListComp elt [⟨tg, iter, ifs, 0⟩] scope pos) 0 (.ref it) (.ref D) ce) (compPost (model X.prog X.w) X.A X.xe use Qf (.ref D) s3.heap.objs.size) s4 := by
    refine compLoop_any (fun n s' => ∃ i H', Inv (X.blk s3 H3 scope ce fp) [] (wipe σ (own.map (·.2))) H' s' ∧ tn i s'.heap ∧ (∀ b ∈ fp, H' b = none) ∧ W i n H') ?_ m0 ⟨0, H3, I4, st4, nfp, w0⟩
    rintro n s5 ⟨i, H5, I5, st5, n5, w5⟩
    rcases turn i n H5 w5 with ⟨stop, qq⟩ | ⟨go, Nx, hNx, step⟩
    · have td := T.done (X.blk s3 H3 scope ce fp) rfl rfl rfl i [] s5 _ H5 (fun _ _ => False) I5 (hh5 I5) (stat I5 n5) st5 stop
      refine thnF td fun r s6 ⟨hr, I6⟩ => ?_
      subst hr
      -- back in the def's context
      have I7 : Inv X pins σ H5 s6 := I3.call' (ch := fp) I6.os I6.base I6.hok I6.bare fun b hb => ⟨(f3 b hb).1.2.2.2.1, (f3 b hb).1.2.1, (f3 b hb).1.2.2.2.2.1, (f3 b hb).1.2.2.2.2.2⟩
      have nC : H5 s3.heap.objs.size = none := by
        have z : H5 ce.locals = none := I6.free
        rw [cL] at z
        exact z
      obtain ⟨m, hn, _⟩ := I6.loc
      have hn : s6.heap.Ns ce.locals m := hn
      rw [cL] at hn
      exact hRR D s3.heap.objs.size s6 m H5 I7 qq hn (I3.fpOk (Nat.le_refl _) nC)
    · have ti := T.item (X.blk s3 H3 scope ce fp) rfl rfl rfl i [] s5 _ H5 (fun _ _ => False) I5 (hh5 I5) (stat I5 n5) st5 go
      refine thnF ti fun r s6 ⟨u, hr, h6⟩ => ?_
      subst hr
      refine thnF h6 fun _ s7 ⟨x, H7, I7, r7, y7, st7, n7⟩ => ?_
      have I7' := I7.pinned (stat I7 n7) (T.obj _ _ st7)
      refine thnF (pg _ s7 _ H7 x u _ I7' r7 (step x H7 y7)) fun _ s8 ⟨σ8, H8, I8, hw8, q8⟩ => ?_
      refine thnF (pt _ s8 σ8 H8 _ I8 q8) fun b s9 ⟨H9, I9, q9⟩ => ?_
      -- the turn's end
      have fin : ∀ {s' : Shared} {H' : Hp}, Inv (X.blk s3 H3 scope ce fp) ([] ++ pinsAt fp s7.heap) σ8 H' s' → Nx H' → ∃ m, m < n ∧ ∃ i H', Inv (X.blk s3 H3 scope ce fp) [] (wipe σ (own.map (·.2))) H' s' ∧ tn i s'.heap ∧ (∀ b ∈ fp, H' b = none) ∧ W i m H' := fun {s' H'} I' nx => by
        obtain ⟨m', hm, w'⟩ := hNx H' nx
        have pin' : ∀ b ∈ fp, ∀ o, s7.heap.get? b = some o → s'.heap.get? b = some o ∧ H' b = none := fun b hb o e =>
          let z := I'.pin (b, o) (List.mem_append_right _ (List.mem_append_right _ (mem_pinsAt hb e)))
          ⟨z.1, z.2.1⟩
        have hl : (wipe σ (own.map (·.2))).length = σ8.length := by rw [← hw8, wipe_length]
        refine ⟨m', hm, i + 1, H', (I'.unpinned (pins := [])).weak hl (fun j v e => ?_), T.keep _ _ _ st7 fun b hb o e => (pin' b hb o e).1, fun b hb => ?_, w'⟩
        · rw [← hw8] at e
          exact (wipe_some e).1
        · obtain ⟨o, e, _⟩ := T.obj _ _ st7 b hb
          exact (pin' b hb o e).2
      cases b with
      | false =>
        simp only [Bool.false_eq_true, if_false] at q9 ⊢
        exact fin I9 q9
      | true =>
        simp only [if_true] at q9 ⊢
        refine thnF (pe _ s9 σ8 H9 _ I9 q9) fun z s10 ⟨yv, H10, I10, r10, acc, hD10, hz10, nx⟩ => ?_
        exact app_ok (X := X.blk s3 H3 scope ce fp) I10 hD10 hz10 r10 fun s11 I11 => fin I11 nx
  exact codeAny_compStart_list loop (T.self X.A 0 _ _ _ st4 loop)
/-- as a value -/
theorem pe_lcR {elt tg iter : Expr} {ifs : List Expr} {scope : Scope} {own : List (Str × Nat)} {pos : Pos} {wi : TI} {g : TG} {tt : TT} {te : TE} {xe Ce : Addr} (hX : HdX X xe Ce) (hN : X.N.Nodup) (hi : PIR X tg iter wi) (ok : BlkOk X.N X.env.scope scope own)
    (hg : ∀ (s : Shared) (H : Hp) (C : Addr) (cl : List (Str × Addr)) (fp : List Addr), PG (X.blk s H scope (compEnvC scope cl C X.env) fp) tg g) (ht : ∀ (s : Shared) (H : Hp) (C : Addr) (cl : List (Str × Addr)) (fp : List Addr), PTs (X.blk s H scope (compEnvC scope cl C X.env) fp) ifs tt)
    (he : ∀ (s : Shared) (H : Hp) (C : Addr) (cl : List (Str × Addr)) (fp : List Addr), PE (X.blk s H scope (compEnvC scope cl C X.env) fp) elt te) (hs : ∀ x, foldedSetIterable iter X.env x = pure x := by intro _; rfl) :
    PE X (.ListComp elt [⟨tg, iter, ifs, 0⟩] scope pos) (tLc wi g tt te (own.map (·.2))) := by
  intro pins s σ H Q I h
  rw [eval_ListComp]
  refine lc_coreR hX hN I hi ok hg ht he hs h fun D C s' m H' I' q hn f => ⟨m, hn, fun h'' sb => ?_⟩
  obtain ⟨f0, f1, f2, f3, f4, f5⟩ := f
  exact ⟨.ref D, H', I'.turned (t' := s'.toks) (fun b o hb e => (sb.2 b hb).trans e) f0 f1 f3 f4 f5, rfl, q⟩
end
end L2

set_option Elab.async false
set_option linter.all false
set_option maxRecDepth 100000
set_option maxHeartbeats 4000000
namespace L2
open PySem PySem.Spec PyProof.Rows
abbrev bmVE : List Value := [.type "ValueError", .type "Exception", .type "BaseException", .type "object"]
theorem excCls_of {K : PySem.W.Frag} {h : Heap} {C : Addr} {newId : String} (X : K.In h) (q : PySem.W.excIn K C bmVE newId = true) :
    ∃ bm N nm qn bs hd sn sub ab col dd k0 k1 k2 k3 k5 mN, h.get? C = some (excClassObj nm qn C N bs bm hd sn sub ab col dd k0 k1 k2 k3 k5 newId) ∧ h.Ns N mN ∧ mN "__init__" = none ∧ OwnTail h bmVE bm := by
  unfold PySem.W.excIn at q
  split at q
  case h_2 => cases q
  case h_1 dd cd sl ho =>
    split at q
    case h_2 => cases q
    case h_1 C' bm k0 k1 k2 k3 n k5 hm hs =>
      simp only [Bool.and_eq_true, beq_iff_eq, Bool.not_eq_true'] at q
      obtain ⟨⟨⟨⟨⟨e1, e2⟩, hdel⟩, ht⟩, hok⟩, hni⟩ := q
      subst e1 e2
      obtain ⟨nm, bs, mro, ns, qn, hd, sn, sub, ab, col, del⟩ := cd
      dsimp only at hm hdel hok hni
      subst hm hdel
      obtain ⟨l⟩ := sl
      dsimp only at hs
      subst hs
      exact ⟨bm, ns, nm, qn, bs, hd, sn, sub, ab, col, dd, k0, k1, k2, k3, k5, _, X _ _ ho, .of_isNs (PySem.W.isNs_of_in X hok), PySem.W.nsMap_none_of_in X hok hni, PySem.W.tail_of_in X ht⟩
/-! raise X(..) -/
def tRaise (C : Addr) (E : XK) (t : TA) : TS := fun _ σ H => t σ H fun vs H1 => vs.length ≤ sizeLine ∧ E (.ref C) none H1
theorem ps_raise {X : Cx} {E : XK} {x : Str} {np cpos pos : Pos} {e : Expr} {es : List Expr} {t : TA} {C : Addr} (hup : Up X E) (hcalm : X.calm = true) (hg : Gl X x) (hm : X.mg x = some (.ref C)) (q : PySem.W.excIn X.K C bmVE "ValueError.__new__" = true) (ha : PA X (e :: es) t)
    (hdb : (x == ("__debug__" : Str)) = false := by decide) (he : starEach (e :: es) X.env = (false, eval e X.env) :: starEach es X.env := by rfl) (hpl : (backTo cpos (starEach (e :: es) X.env)).any (·.1) = false := by rfl) :
    PS X (.Raise (some (.Call (.Name x np) (e :: es) [] cpos)) none pos) (tRaise C E t) := by
  intro pins s σ H D I h
  obtain ⟨bm, N, nm, qn, bs, hd, sn, sub, ab, col, dd, k0, k1, k2, k3, k5, mN, hC, hN, hni, hT⟩ := excCls_of I.ok.mod.kin q
  refine wpAny_Raise_call_subT (C := C) (N := N) (nm := nm) (q := qn) (bs := bs) (bm := bm) (hdct := hd) (sn := sn) (sub := sub) (ab := ab) (col := col) (dd := dd) (k0 := k0) (k1 := k1) (k2 := k2) (k3 := k3) (k5 := k5) (mN := mN) F.excBase_ValueError (hT.hasType (by decide)) (I.ok.hd hcalm) hpl hni (ld_glob I hg hm ⟨rfl, ?_⟩ hdb)
  have hA := ha cpos pins s σ H _ I h
  rw [he] at hA ⊢
  refine Calls.evalArgs_plain (thn hA fun us s1 ⟨vs, H1, I1, r, hz, q1⟩ => ?_)
  exact ⟨rfl, by rw [← r.length]; exact hz, I1.bk _ _ hC, hN.keeps I1.bk, hT.keeps I1.bk, fun h' x' hmade => hup pins σ H1 s1 x' C us h' I1 hmade q1⟩
section
variable {P : Program} {w : World} {K : PySem.W.Frag} {mg : Str → Option Value} {base : Heap}
/-- a def that may raise -/
theorem Fun.okX {x qual : Str} {st : Stmt} {f : Addr} {fd : FuncData} {N ps : List Str} {k : Nat} {sp : Sp} (F : Fun K x qual st f fd) (S : FnScope N ps (defScope st)) (len : ∀ vs H Q E, sp vs H Q E → vs.length = ps.length)
    (hbody : ∀ (cdv : Value) (A : Around) (outer : List Env) (s : Shared) (H : Hp) (vs : List V) (Q : VK) (E : XK), Room k (A.deeper (envOfC qual (defScope st) s.heap.objs.size f cdv)) → sp vs H Q E →
      ∃ t, PSs (cxOf (CX1 P w) P w K mg base N qual (defScope st) f cdv A outer s H E) (defBody st) t ∧ t { nx := fun _ H' => Q .non H', rt := Q } (start N vs) H) : FnOk P w K mg base (CX1 P w) (k + 1) f fd ps sp := by
  obtain ⟨oc, od, kV, doc, pm, an, cdv, ct, osl, rfl, lk, hcd⟩ := F.ex
  exact fn_of lk hcd S len fun A outer s H vs Q E hr hsp => hbody cdv A outer s H vs Q E hr hsp
end
/-! statements within a try -/
abbrev EX := St → Addr → Hp → Prop
/-- an exception lies in this frame -/
def XS (X : Cx) (pins : List (Addr × Obj)) (R : EX) (e : Value) (s' : Shared) : Prop := ∃ (x C T : Addr) (σ' : St) (H1 : Hp), e = .ref x ∧ Inv X pins σ' H1 s' ∧ XO s'.heap x C T .none ∧ FB X pins H1 x ∧ FB X pins H1 T ∧ R σ' C H1
abbrev TSx := Ends → EX → St → Hp → Prop
abbrev TEx := St → Hp → VK → EX → Prop
def PEx (X : Cx) (e : Expr) (t : TEx) : Prop :=
  ∀ (pins : List (Addr × Obj)) (s : Shared) (σ : St) (H : Hp) (Q : VK) (R : EX), Inv X pins σ H s → t σ H Q R → wpAny (model X.prog X.w) X.A (eval e X.env) (EP X pins σ Q) (XS X pins R) s
def PSx (X : Cx) (st : Stmt) (t : TSx) : Prop :=
  ∀ (pins : List (Addr × Obj)) (s : Shared) (σ : St) (H : Hp) (D : Ends) (R : EX), Inv X pins σ H s → t D R σ H → wpAny (model X.prog X.w) X.A (exec st X.env) (SP X pins D) (XS X pins R) s
def PSsx (X : Cx) (st : List Stmt) (t : TSx) : Prop :=
  ∀ (pins : List (Addr × Obj)) (s : Shared) (σ : St) (H : Hp) (D : Ends) (R : EX), Inv X pins σ H s → t D R σ H → wpAny (model X.prog X.w) X.A (execs st X.env) (SP X pins D) (XS X pins R) s
section
variable {X : Cx} {st : Stmt} {rest : List Stmt} {e : Expr} {pos : Pos}
def qSeq (t u : TSx) : TSx := fun D R σ H => t { D with nx := u D R } R σ H
def qIf (c : TT) (t u : TSx) : TSx := fun D R σ H => c σ H fun b H1 => if b = true then t D R σ H1 else u D R σ H1
def qSet (te : TEx) (i : Nat) : TSx := fun D R σ H => te σ H (fun x H1 => D.nx (σ.set i (some x)) H1) R
def qCall (sp : Sp) (t : TA) : TEx := fun σ H Q R => t σ H fun vs H1 => sp vs H1 Q fun c _ H2 => ∃ C, c = .ref C ∧ R σ C H2
theorem pxs_one {t : TSx} (h1 : PSx X st t) : PSsx X [st] t := by
  intro pins s σ H D R I h
  refine wpAny_execs_cons (thn (h1 pins s σ H D R I h) fun f s1 q => ?_)
  cases f with
  | next => exact wpAny_execs_nil q
  | ret v => exact q
  | brk => exact q
  | cont => exact q
theorem px_set {i : Nat} {x : Str} {te : TEx} {pos' : Pos} (hN : X.N.Nodup) (hi : X.N[i]? = some x) (hx : Loc X.env.scope x) (he : PEx X e te) (hs : swapsWith e (some (.Name x pos')) pos.line X.env = pure false := by rfl) (hf : X.fn x = true ∨ X.env.scope.names.lookup x = some .local := by first | exact .inl rfl | exact .inr rfl | assumption) :
    PSx X (.Assign [.Name x pos'] e pos) (qSet te i) := by
  intro pins s σ H D R I h
  refine wpAny_Assign_Name (thn (he pins s σ H _ R I h) fun v s1 ⟨y, H1, I1, r1, q1⟩ => ?_) hs
  exact store_ok I1 hN hi hx r1 (fun s2 I2 => ⟨_, H1, I2, q1⟩) hf
/-- a call whose exceptions lie in this frame -/
theorem pex_call {k : Nat} {f : Addr} {fd : FuncData} {ps : List Str} {sp : Sp} {x : Str} {p : Pos} {es : List Expr} {t : TA} (F : FnOk X.prog X.w X.K X.mg X.base (CX1 X.prog X.w) k f fd ps sp) (hr : Room k X.A) (hg : Gl X x) (hm : X.mg x = some (.ref f)) (hk : PySem.W.keepIn X.K (.ref f) = true) (hb : Binds X.K fd ps [])
    (hex : X.ex = []) (ha : PA X.nox (e :: es) t) (hdb : (x == ("__debug__" : Str)) = false := by decide) (he : starEach (e :: es) X.env = (false, eval e X.env) :: starEach es X.env := by rfl) (hpl : (backTo pos (starEach es X.env)).any (·.1) = false := by rfl) :
    PEx X (.Call (.Name x p) (e :: es) [] pos) (qCall sp t) := by
  intro pins s σ H Q R I h
  refine wpAny_Call_Name_kw (ld_glob I hg hm ?_ hdb)
  refine PySem.W.callWith_K (h₀ := X.base) I.ok.mod.kin hk (wpAny_mono (ha pos pins s σ H _ (I.wish _) h) (fun us s1 ⟨vs, H1, I1, r, q⟩ => ⟨I1.unwish.kIn, ?_⟩) fun _ _ z => False.elim z) he hpl
  have I1' := I1.unwish
  have hl : us.length = ps.length := by rw [← r.length]; exact F.len _ _ _ _ q
  have hbb := hb s1 us I1'.kIn (by rw [List.append_nil]; exact hl)
  rw [List.append_nil] at hbb
  refine wpAny_call (codeAny_mono (F.run X.A X.stack s1 H1 ⟨us, []⟩ us vs Q _ hr I1'.env0 hbb r q) fun rr s' hq => ?_)
  cases rr with
  | error e =>
    obtain ⟨x, C, T, H2, rfl, os, bare, un, hok, XX, hx, hT, nx, nT, C', hc, hR⟩ := hq
    cases hc
    exact ⟨x, C, T, σ, H2, rfl, I1'.call' (ch := []) os un hok bare (fun b z => absurd z (by simp)), XX, I1'.fb hex hx nx, I1'.fb hex hT nT, hR⟩
  | ok fl =>
    cases fl with
    | ret u => exact I1'.after hq
    | next => exact False.elim hq
    | brk => exact False.elim hq
    | cont => exact False.elim hq
end
end L2

set_option Elab.async false
set_option linter.all false
set_option maxRecDepth 100000
set_option maxHeartbeats 4000000
namespace L2
open PySem PySem.Spec PyProof.Rows
/-! the except suite -/
/-- the context of an except suite: the exception at x is handled, its object pinned -/
abbrev Cx.hdl (X : Cx) (x : Addr) (ox : Obj) : Cx := { X with A := X.A.mark (some (.ref x)), calm := false, pn := (x, ox) :: X.pn, xe := fun _ _ => False }
section
variable {X : Cx} {pins : List (Addr × Obj)} {σ : St} {H : Hp} {s : Shared} {x : Addr} {ox : Obj}
theorem Cx.Ok.hdl (ok : X.Ok) : (X.hdl x ox).Ok :=
  ⟨ok.mod, ok.kind, ok.glob, ok.blt, ok.above, ok.inj, ok.has, ok.cab, (fun z => by cases z), ok.frames, ok.stk, ok.exf, ok.bs, ok.bsz, ok.noex, ok.exfs, ok.funs, ok.frf⟩
theorem Inv.hdl {vs : Array Value} (I : Inv X pins σ H s) (e : s.heap.get? x = some ox) (hd : ox.data = .fields vs) (f : FB X pins H x) : Inv (X.hdl x ox) pins σ H s :=
  ⟨I.ok.hdl, I.os, I.bare, I.base, I.loc, I.cell, I.free, I.freeC, fun p hp => by
    have hp : p ∈ (x, ox) :: (X.pn ++ pins) := hp
    rcases List.mem_cons.mp hp with z | z
    · rw [z]
      refine ⟨e, f.nt, f.nl, fun z => ?_, fun v z => by rw [hd] at z; cases z⟩
      exact not_frame (l := X.outer) I.funs e hd z
    · exact I.pin p z, I.hok, I.len⟩
theorem Inv.unhdl (ok : X.Ok) (I : Inv (X.hdl x ox) pins σ H s) : Inv X pins σ H s :=
  ⟨ok, I.os, I.bare, I.base, I.loc, I.cell, I.free, I.freeC, fun p hp => I.pin p (List.mem_cons_of_mem _ hp), I.hok, I.len⟩
end
/-- what of the text the class in an except clause must have -/
structure CatchK (K : PySem.W.Frag) (Cw : Addr) : Prop where
  cls : (PySem.W.clsIn K Cw).isSome = true
  ty : PySem.W.typeIn K (.ref Cw) = some (.type "type")
  mb : PySem.W.mroIn K Cw (.type "BaseException") = some true
theorem exc_match {K : PySem.W.Frag} {M : Model} {A : Around} {E : Value → Shared → Prop} {Q : Bool → Shared → Prop} {s : Shared} {x C Cw : Addr} {ox : Obj} {b : Bool} (Z : CatchK K Cw) (X : K.In s.heap) (e : s.heap.get? x = some ox) (hc : ox.cls = .ref C)
    (hs : PySem.W.mroIn K C (.ref Cw) = some b) (h : Q b s) : wpAny M A (excMatches (.ref x) (.ref Cw)) Q E s := by
  have L1 := PySem.W.looks_typeIn (M := M) X Z.ty
  have L2 := L2X.isType_cls (M := M) X Z.cls
  have L3 := PySem.W.looks_mroIn (M := M) X Z.mb
  have L4 := PySem.W.looks_mroIn (M := M) X hs
  have L5 : PySem.W.Looks M s.heap (typeOf (.ref x)) (.ref C) := hc ▸ (PySem.W.Looks.ld e).andThen .now
  have L6 : isSubtype (.type "type") (.type "tuple") = pure false := by rw [isSubtype_type]; kernel_rfl
  have LI : PySem.W.Looks M s.heap (isInstance (.ref Cw) (.type "tuple")) false := L1.andThen (PySem.W.Looks.of_pure L6)
  have LE : PySem.W.Looks M s.heap (isExcClass (.ref Cw)) true := by
    unfold isExcClass
    refine L2.andThen ?_
    rw [if_pos rfl]
    exact L3
  obtain ⟨hh, g, d, t, os⟩ := s
  unfold excMatches
  refine wpAny_bind (LI.at ?_)
  dsimp only
  rw [if_neg Bool.false_ne_true]
  refine wpAny_bind (wpAny_pure (wpAny_bind ?_))
  rw [List.forIn_cons]
  refine wpAny_bind (wpAny_bind (LE.at ?_))
  rw [if_neg (by decide)]
  refine wpAny_pure ?_
  show wpAny _ _ (forIn [] _ _) _ _ _
  rw [List.forIn_nil]
  refine wpAny_pure (wpAny_bind (L5.at (wpAny_bind ?_)))
  rw [List.forIn_cons]
  refine wpAny_bind (wpAny_bind (L4.at ?_))
  cases b with
  | true =>
    rw [if_pos rfl]
    exact wpAny_pure (wpAny_pure (wpAny_pure h))
  | false =>
    rw [if_neg Bool.false_ne_true]
    refine wpAny_pure ?_
    show wpAny _ _ (forIn [] _ _) _ _ _
    rw [List.forIn_nil]
    exact wpAny_pure (wpAny_pure h)
end L2

set_option Elab.async false
set_option linter.all false
set_option maxRecDepth 100000
set_option maxHeartbeats 4000000
namespace L2
open PySem PySem.Spec PyProof.Rows
section
variable {X : Cx} {pins : List (Addr × Obj)} {σ : St} {H : Hp} {s : Shared}
/-- a local name is unbound -/
theorem gone_ok {M : Model} {A : Around} {E : Value → Shared → Prop} {i : Nat} {n : Str} {pos : Pos} {Q : Unit → Shared → Prop} (I : Inv X pins σ H s) (hN : X.N.Nodup) (hi : X.N[i]? = some n) (hk : X.env.scope.names.lookup n = some .local)
    (h : ∀ s', Inv X pins (σ.set i none) H s' → Q () s') : wpAny M A (do bindName X.env n .none; unbindBehindTheSuite X.env n pos) Q E s := by
  obtain ⟨m, hn, hl⟩ := id I.loc
  have hcls : (X.env.scope.kind == .class || (X.env.scope.kind == .module && X.env.locals != X.env.globals)) = false := by rw [I.ok.kind]; rfl
  have hiσ : i < σ.length := by rw [I.len]; exact (List.getElem?_eq_some_iff.mp hi).1
  have cne := I.cne
  refine wpAny_nameGoes_keeps hk hn hcls fun h' v hn' hs => ?_
  obtain ⟨oL, _, _, hoL, _⟩ := id hn
  have hok : HOk X.prog X.w H h' := fun b ob e => by
    refine (I.hok b ob e).stay (fun c w' hc q => (hs.2 c ?_).trans q) (fun _ q => q) fun _ _ q => q
    rintro rfl
    rcases hc with rfl | hc
    · rw [I.free] at e; cases e
    · rw [I.free] at hc; cases hc
  refine h _ ⟨I.ok, I.os, I.bare, ⟨fun b o e n hb hx => ?_, fun b o e n hb hx => ?_, I.base.free, fun b o e hx => ?_, I.base.tups, I.base.frzs, I.base.tbls⟩, ⟨_, hn', fun j y v' e1 e2 e3 => ?_⟩, fun y c e => ?_, I.free, I.freeC, fun p hp => ?_, hok, by simpa using I.len⟩
  · exact (hs.2 b (Nat.ne_of_lt (Nat.lt_of_lt_of_le (Heap.lt_size e) I.ok.above))).trans (I.base.keep b o e n hb hx)
  · obtain ⟨sl, e1⟩ := I.base.slot b o e n hb hx
    exact ⟨sl, (hs.2 b (Nat.ne_of_lt (Nat.lt_of_lt_of_le (Heap.lt_size e) I.ok.above))).trans e1⟩
  · obtain ⟨o', e1⟩ := I.base.there b o e hx
    exact ⟨o', (hs.2 b (Nat.ne_of_lt (Nat.lt_of_lt_of_le (Heap.lt_size e) I.ok.above))).trans e1⟩
  · by_cases hj : j = i
    · subst hj
      rw [List.getElem?_set_self hiσ] at e2
      cases e2
    · rw [List.getElem?_set_ne (Ne.symm hj)] at e2
      obtain ⟨u', r', q⟩ := hl j y v' e1 e2 e3
      refine ⟨u', r', ?_⟩
      rcases q with ⟨k, e⟩ | ⟨k, c, e, z⟩
      · refine .inl ⟨k, ?_⟩
        have : y ≠ n := fun e => hj (nodup_ix hN e1 (e ▸ hi))
        simp [this, e]
      · exact .inr ⟨k, c, e, z.sameBut hs (cne y c e)⟩
  · obtain ⟨w', z⟩ := I.cell y c e
    exact ⟨w', z.sameBut hs (cne y c e)⟩
  · obtain ⟨e, n, ne, nf, d⟩ := I.pin p hp
    exact ⟨(hs.2 p.1 ne).trans e, n, ne, nf, d⟩
/-- try: .. except Cls as n: .. -/
def tTry (K : PySem.W.Frag) (Cw : Addr) (i : Nat) (tb : TSx) (th : Addr → Addr → TS) : TS := fun D σ H =>
  tb D (fun σ' C H' => PySem.W.mroIn K C (.ref Cw) = some true ∧ ∀ x, H' x = none →
    th x C { nx := fun σ2 H2 => D.nx (σ2.set i none) H2, rt := D.rt, bk := fun σ2 H2 => D.bk (σ2.set i none) H2, ct := fun σ2 H2 => D.ct (σ2.set i none) H2 } (σ'.set i (some (.ref x))) H') σ H
theorem ps_try {body : List Stmt} {tb : TSx} {cls n : Str} {np hpos pos : Pos} {b0 : Stmt} {suite : List Stmt} {Cw : Addr} {i : Nat} {th : Addr → Addr → TS} (hstk : X.stack = X.env :: X.outer) (hfr : X.env.frame = some X.env.locals)
    (hb : PSsx X body tb) (hgl : Gl X cls) (hm : X.mg cls = some (.ref Cw)) (Z : CatchK X.K Cw) (nd : X.N.Nodup) (hi : X.N[i]? = some n) (hloc : X.env.scope.names.lookup n = some .local)
    (hs : ∀ (x C : Addr) (ox : Obj) (vs : Array Value), ox.cls = .ref C → ox.dict = none → ox.data = .fields vs → vs[2]? = some .none → PSs (X.hdl x ox) (b0 :: suite) (th x C)) (hdb : (cls == ("__debug__" : Str)) = false := by decide) :
    PS X (.Try body [.ExceptHandler (some (.Name cls np)) (some n) (b0 :: suite) hpos] [] [] pos) (tTry X.K Cw i tb th) := by
  intro pins s σ H D I h
  refine wpAny_Try_except (wpAny_mono (hb pins s σ H D _ I h) (fun f s1 q => ?_) fun e s1 q => ?_)
  · cases f with
    | next => exact wpAny_execs_nil q
    | ret v => exact q
    | brk => exact q
    | cont => exact q
  · obtain ⟨x, C, T, σ1, H1, rfl, I1, XX, fx, fT, hmro, hth⟩ := q
    have hfrm : X.A.frames = some (X.env :: X.outer) := by rw [← hstk]; exact I1.ok.frames
    have hff : s1.heap.FunFrames X.base (X.env :: X.outer) := by rw [← hstk]; exact I1.stack
    refine note_on (base := X.base) hfrm hff hfr XX fun h2 T2 l2 c2 X2 => ?_
    have I2 : Inv X pins σ1 H1 { s1 with heap := h2 } := I1.ch (t' := s1.toks) (by rw [hstk]; exact c2) fun b hb => by
      rcases List.mem_cons.mp hb with z | z
      · rw [z]; exact fx
      · rw [List.mem_singleton.mp z]; exact fT
    have f2 : FB X pins H1 T2 := I1.fbSize l2 (I1.hok.fresh l2)
    refine flight_off (s := { s1 with heap := h2 }) X2 fun h3 oth3 sz3 X3 => ?_
    have I3 : Inv X pins σ1 H1 { s1 with heap := h3 } := I2.ch (ex := [T2]) (t' := s1.toks) (Ch.same fun b o q hb => (oth3 b (by simpa using hb)).trans q) fun b hb => by rw [List.mem_singleton.mp hb]; exact f2
    obtain ⟨ox, vs, e3, hc3, hd3, hdt3, h13, h23⟩ := X3.ob
    have I3h := I3.hdl e3 hdt3 fx
    refine wpAny_handleBy_cons (codeAny_handlers_test (ld_glob (X := X.hdl x ox) I3h hgl hm ?_ hdb)) (by intro q; cases q)
    refine exc_match Z I3.kIn e3 hc3 hmro ?_
    refine codeAny_handlers_suite_as (flight_off (s := { s1 with heap := h3 }) X3 fun h4 oth4 sz4 X4 => ?_)
    have I4 : Inv X pins σ1 H1 { s1 with heap := h4 } := I3.ch (ex := [T2]) (t' := s1.toks) (Ch.same fun b o q hb => (oth4 b (by simpa using hb)).trans q) fun b hb => by rw [List.mem_singleton.mp hb]; exact f2
    obtain ⟨ox4, vs4, e4, hc4, hd4, hdt4, h14, h24⟩ := X4.ob
    have I4h := I4.hdl e4 hdt4 fx
    refine store_ok (X := X.hdl x ox4) (v := V.ref x) I4h nd hi (.inl hloc) rfl (fun s5 I5 => ?_) (.inr hloc)
    refine wpAny_mono (hs x C ox4 vs4 hc4 hd4 hdt4 h24 pins s5 _ H1 _ I5 (hth x fx.nt)) (fun f s6 q6 => ?_) fun _ _ z => False.elim z
    have ok6 : X.Ok := I.ok
    cases f with
    | next =>
      obtain ⟨σ6, H6, I6, q6⟩ := q6
      exact gone_ok (I6.unhdl ok6) nd hi hloc fun s7 I7 => ⟨_, H6, I7, q6⟩
    | brk =>
      obtain ⟨σ6, H6, I6, q6⟩ := q6
      exact gone_ok (I6.unhdl ok6) nd hi hloc fun s7 I7 => ⟨_, H6, I7, q6⟩
    | cont =>
      obtain ⟨σ6, H6, I6, q6⟩ := q6
      exact gone_ok (I6.unhdl ok6) nd hi hloc fun s7 I7 => ⟨_, H6, I7, q6⟩
    | ret u =>
      obtain ⟨v6, σ6, H6, I6, r6, q6⟩ := q6
      exact gone_ok (I6.unhdl ok6) nd hi hloc fun s7 I7 => ⟨v6, _, H6, I7, r6, q6⟩
end
end L2

set_option Elab.async false
set_option linter.all false
set_option maxRecDepth 100000
set_option maxHeartbeats 4000000
namespace L2
open PySem PySem.Spec PyProof.Rows
/-! a def that is called while an exception is handled -/
structure RoomH (k : Nat) (A : Around) : Prop where
  dp : A.depth + 3 * k + 5 < recursionLimit
  un : A.units + 16 * k + 200 < cLine
theorem RoomH.depth {k : Nat} {A : Around} (r : RoomH k A) : A.depth < recursionLimit := by have := r.dp; omega
abbrev SpH := Addr → Addr → List V → Hp → VK → Prop
structure FnOkH (P : Program) (w : World) (K : PySem.W.Frag) (mg : Str → Option Value) (base : Heap) (k : Nat) (f : Addr) (fd : FuncData) (ps : List Str) (sp : SpH) : Prop where
  len : ∀ x C vs H Q, sp x C vs H Q → vs.length = ps.length
  run : ∀ (A : Around) (outer : List Env) (s : Shared) (H : Hp) (args : Args) (us : List Value) (vs : List V) (Q : VK) (x C : Addr), RoomH k A → Env0 P w K mg base A outer s H → HdE A x C H s.heap → BindsTo s fd args (ps.zip us) → Vals vs us → sp x C vs H Q →
    codeAny (model P w) A (.call (.ref f) args) (CR CX0 outer P w H s Q E0) s
abbrev cxH (P : Program) (w : World) (K : PySem.W.Frag) (mg : Str → Option Value) (base : Heap) (N : List Str) (qual : Str) (scope : Scope) (f : Addr) (cd : Value) (A : Around) (outer : List Env) (s : Shared) (H : Hp) : Cx :=
  { cxOf CX0 P w K mg base N qual scope f cd A outer s H E0 with calm := false }
theorem inv_startH {P : Program} {w : World} {K : PySem.W.Frag} {mg : Str → Option Value} {base : Heap} {N ps : List Str} {qual : Str} {scope : Scope} {f : Addr} {cd : Value} {A : Around} {outer : List Env} {s s1 : Shared} {H : Hp} {us : List Value} {vs : List V}
    (S : FnScope N ps scope) (e0 : Env0 P w K mg base A outer s H) (hl : vs.length = ps.length) (r : Vals vs us)
    (x : InCallC s s.heap.objs.size (bindL (envOfC qual scope s.heap.objs.size f cd).kindOf (ps.zip us) fun _ => none) (cellsFrom (s.heap.objs.size + 1) scope.names []) (bindC (envOfC qual scope s.heap.objs.size f cd).kindOf (ps.zip us) fun _ => none) s1) :
    Inv (cxH P w K mg base N qual scope f cd A outer s H) [] (start N vs) H s1 := by
  have hpl : ps.length ≤ N.length := by have := congrArg List.length S.pre; rw [List.length_take] at this; omega
  obtain ⟨h1, tk, rfl, hk⟩ := x.done
  have noA : ∀ b : Addr, b ∉ (cxH P w K mg base N qual scope f cd A outer s H).ex := fun b z => absurd (show b ∈ ([] : List Addr) from z) (by simp)
  refine ⟨⟨e0.mod, S.kind, rfl, rfl, Nat.le_refl _, fun y z c h1 h2 => ?_, fun y hy => ?_, fun y c _ h => ?_, (fun z => by cases z), Around.frames_deeper e0.frames, .inr ⟨rfl, rfl⟩, fun b z => absurd z (noA b), e0.bs, e0.bsz, fun b _ _ => noA b, fun b z => absurd z (noA b), e0.funs, e0.frf⟩,
    rfl, e0.bare, Un.kept hk, ⟨_, x.toInCall.ns, fun i y v h1 h2 h3 => ?_⟩, fun y c h => ⟨_, x.cell y c h⟩, e0.hok.fresh (Nat.le_refl _), fun y c h => ?_, fun p hp => absurd (show p ∈ ([] : List (Addr × Obj)) from hp) (by simp), e0.hok.kept hk, ?_⟩
  · exact name_of_addr x.apart (PySem.mem_of_lookup h1) (PySem.mem_of_lookup h2)
  · have hy : scope.names.lookup y = some .cell ∨ scope.names.lookup y = some .free := hy
    rcases hy with hy | hy
    · exact cell_has hy
    · exact absurd rfl (S.nofree _ (PySem.mem_of_lookup hy))
  · exact Nat.le_of_lt (x.above y c (PySem.mem_of_lookup h))
  · have hi : i < vs.length := by
      unfold start at h2
      by_cases hi : i < vs.length
      · exact hi
      · rw [List.getElem?_append_right (by simpa using hi)] at h2
        rw [List.getElem?_replicate] at h2
        split at h2 <;> cases h2
    have ha : vs[i]? = some v := by
      unfold start at h2
      rw [List.getElem?_append_left (by simpa using hi), List.getElem?_map] at h2
      cases e : vs[i]? with
      | none => rw [e] at h2; cases h2
      | some a => rw [e] at h2; cases h2; rfl
    obtain ⟨u, hu, rv⟩ := r.get ha
    have hp : ps[i]? = some y := by
      rw [← S.pre, List.getElem?_take_of_lt (by omega)]; exact h1
    have ndP : ps.Nodup := by rw [← S.pre]; exact S.nd.sublist (List.take_sublist _ _)
    refine ⟨u, rv, ?_⟩
    rcases S.par y (List.mem_of_getElem? hp) with k | k
    · exact .inl ⟨k, bindL_get ndP hp hu k⟩
    · obtain ⟨c, e⟩ := cell_has (n := s.heap.objs.size + 1) k
      refine .inr ⟨.inl k, c, e, ?_⟩
      have q := x.cell y c e
      rw [bindC_get ndP hp hu (by show scope.names.lookup y ≠ _; rw [k]; decide)] at q
      exact q
  · exact e0.hok.fresh (Nat.le_of_lt (x.above y c (PySem.mem_of_lookup h)))
  · unfold start
    show _ = N.length
    rw [List.length_append, List.length_map, List.length_replicate]
    omega

theorem fn_ofH {P : Program} {w : World} {K : PySem.W.Frag} {mg : Str → Option Value} {base : Heap} {k : Nat} {f : Addr} {name qual : Str} {params : Arguments} {body : List Stmt} {scope : Scope} {dV kV doc pm cdv ct oc : Value} {an od : Option Addr}
    {osl : Array (Option Value)} {N ps : List Str} {sp : SpH} (lk : K.lookup f = some ⟨oc, od, .func (PySem.W.fnOf name qual params body scope dV kV doc pm an cdv ct), osl⟩) (hcd : PySem.W.codeIn K cdv qual = true) (S : FnScope N ps scope)
    (len : ∀ x C vs H Q, sp x C vs H Q → vs.length = ps.length)
    (hbody : ∀ (A : Around) (outer : List Env) (s : Shared) (H : Hp) (vs : List V) (Q : VK) (x C : Addr), HdX (cxH P w K mg base N qual scope f cdv A outer s H) x C → sp x C vs H Q →
      ∃ t, PSs (cxH P w K mg base N qual scope f cdv A outer s H).nox body t ∧ t { nx := fun _ H' => Q .non H', rt := Q } (start N vs) H) :
    FnOkH P w K mg base (k + 1) f (PySem.W.fnOf name qual params body scope dV kV doc pm an cdv ct) ps sp := by
  refine ⟨len, fun A outer s H args us vs Q x C hr e0 hx hb r hsp => ?_⟩
  have hl := len _ _ _ _ _ hsp
  have KX : K.In s.heap := e0.mod.kin.keeps fun b o e => (e0.bs b o e).1
  have lim : s.heap.NoLimit := e0.mod.nolimit.keeps fun b o e => (e0.bs b o e).1
  have hkind : ∀ y ∈ ps.zip us, scope.names.lookup y.1 = some .local ∨ (scope.names.lookup y.1 = some .cell ∧ ((cellsFrom (s.heap.objs.size + 1) scope.names []).lookup y.1).isSome = true) := fun ⟨n, v⟩ hy => by
    rcases S.par n (List.of_mem_zip hy).1 with q | q
    · exact .inl q
    · exact .inr ⟨q, PySem.W.cellsFrom_some _ _ _ (.inl q)⟩
  refine codeAny_call_function hr.depth (KX _ _ lk) rfl S.co S.gen rfl (PySem.W.codeRec_of KX hcd) (hb _ _ _ _ ?_)
  refine wpAny_newFunctionEnv_cells S.kind hkind fun env he s1 y => ?_
  subst he
  refine ⟨lim.keeps y.toInCall.keep, codeAny_func ?_⟩
  have hX : HdX (cxH P w K mg base N qual scope f cdv A outer s H) x C := by
    refine ⟨hx, fun z => ?_, fun z => absurd (show x ∈ ([] : List Addr) from z) (by simp)⟩
    obtain ⟨_, _, ox, vs', e, _, _, hd, _⟩ := hx
    exact not_frame (l := outer) e0.funs e hd z
  obtain ⟨t, ht, hq⟩ := hbody A outer s H vs Q x C hX hsp
  have hnox := ht
  have I : Inv (cxH P w K mg base N qual scope f cdv A outer s H) [] (start N vs) H s1 := inv_startH S e0 hl r y
  refine wpAny_mono (hnox [] s1 (start N vs) H _ (I.wish _) hq) (fun fl s' hs => ?_) fun e s' hs => False.elim hs
  have hs := hs.unwish
  have fin : ∀ {σ' : St} {H' : Hp} {v : V} {u : Value}, Inv (cxH P w K mg base N qual scope f cdv A outer s H) [] σ' H' s' → RelV v u → Q v H' → CE outer P w H s Q u s' :=
    fun {σ' H' v u} J rv q => ⟨v, H', J.os, J.bare, J.base, J.hok, rv, q⟩
  cases fl with
  | ret u =>
    obtain ⟨v, σ', H', J, rv, q⟩ := hs
    exact fin J rv q
  | next =>
    obtain ⟨σ', H', J, q⟩ := hs
    exact fin (v := V.non) (u := Value.none) J rfl q
  | brk =>
    obtain ⟨_, _, _, q⟩ := hs
    exact False.elim q
  | cont =>
    obtain ⟨_, _, _, q⟩ := hs
    exact False.elim q
end L2

set_option Elab.async false
set_option linter.all false
set_option maxRecDepth 100000
set_option maxHeartbeats 4000000
namespace WM
open PySem
/-! wheels as lists of codes -/
def txt (l : List Nat) : Str := ⟨l.toArray⟩
theorem txt_cps (l : List Nat) : (txt l).cps.toList = l := rfl
theorem txt_length (l : List Nat) : (txt l).length = l.length := by show l.toArray.size = _; simp
theorem txt_app (l m : List Nat) : txt l ++ txt m = txt (l ++ m) := by
  show (⟨l.toArray ++ m.toArray⟩ : Str) = ⟨(l ++ m).toArray⟩
  simp
theorem txt_inj {l m : List Nat} (h : txt l = txt m) : l = m := by
  have := congrArg (fun z : Str => z.cps.toList) h
  exact this
def Low (l : List Nat) : Prop := ∀ c ∈ l, 97 ≤ c ∧ c ≤ 122
structure Wheel (l : List Nat) : Prop where
  pos : 1 ≤ l.length
  le : l.length ≤ 30
  low : Low l
def turnL (l : List Nat) (k : Int) : List Nat := l.drop (k % (l.length : Int)).toNat ++ l.take (k % (l.length : Int)).toNat
def glassL (l : List Nat) : List Nat := l.take 1 ++ (l.drop 1).reverse
/-! the program's slices -/
end WM

set_option Elab.async false
set_option linter.all false
set_option maxRecDepth 100000
set_option maxHeartbeats 4000000
namespace L2
open PySem PySem.Spec PyProof.Rows
section
variable {X : Cx} {x C : Addr} {ox : Obj} {vs : Array Value}
/-- a call within an except suite -/
def tCallH (sp : SpH) (x C : Addr) (t : TA) : TE := fun σ H Q => t σ H fun vs H1 => sp x C vs H1 Q
theorem pe_callH {k : Nat} {f : Addr} {fd : FuncData} {ps : List Str} {sp : SpH} {y : Str} {p pos : Pos} {e : Expr} {es : List Expr} {t : TA} (F : FnOkH X.prog X.w X.K X.mg X.base k f fd ps sp) (hr : RoomH k X.A) (hp : (x, ox) ∈ X.pn) (hh : X.A.handled = some (.ref x)) (hc : ox.cls = .ref C) (hdn : ox.dict = none) (hd : ox.data = .fields vs) (h2 : vs[2]? = some .none)
    (hg : Gl X y) (hm : X.mg y = some (.ref f)) (hk : PySem.W.keepIn X.K (.ref f) = true) (hb : Binds X.K fd ps []) (ha : PA X (e :: es) t)
    (hdb : (y == ("__debug__" : Str)) = false := by decide) (he : starEach (e :: es) X.env = (false, eval e X.env) :: starEach es X.env := by rfl) (hpl : (backTo pos (starEach es X.env)).any (·.1) = false := by rfl) :
    PE X (.Call (.Name y p) (e :: es) [] pos) (tCallH sp x C t) := by
  intro pins s σ H Q I h
  refine wpAny_Call_Name_kw (ld_glob I hg hm ?_ hdb)
  refine PySem.W.callWith_K (h₀ := X.base) I.ok.mod.kin hk (thn (ha pos pins s σ H _ I h) fun us s1 ⟨ws, H1, I1, r, q⟩ => ⟨I1.kIn, ?_⟩) he hpl
  have hl : us.length = ps.length := by rw [← r.length]; exact F.len _ _ _ _ _ q
  have hbb := hb s1 us I1.kIn (by rw [List.append_nil]; exact hl)
  rw [List.append_nil] at hbb
  obtain ⟨e1, n1, _⟩ := I1.pin (x, ox) (List.mem_append_left _ hp)
  refine wpAny_call (codeAny_mono (F.run X.A X.stack s1 H1 ⟨us, []⟩ us ws Q x C hr I1.env0 ⟨hh, n1, ox, vs, e1, hc, hdn, hd, h2⟩ hbb r q) fun rr s' hq => ?_)
  cases rr with
  | error e => exact False.elim hq
  | ok fl =>
    cases fl with
    | ret u => exact I1.after hq
    | next => exact False.elim hq
    | brk => exact False.elim hq
    | cont => exact False.elim hq
/-- isinstance(e, c) of the exception that is handled -/
def rIsE (K : PySem.W.Frag) (x C : Addr) : List V → Hp → VK → Prop := fun xs H Q => ∃ (y : V) (c : Value) (b : Bool), xs = [.ref x, y] ∧ clsV y = some c ∧ PySem.W.kitOne K (.ref C) c = some b ∧ Q (.bl b) H
theorem cr_isE (hX : HdX X x C) (Z : L2X.ExcK X.K C) : CallR X (.builtin "isinstance") (rIsE X.K x C) := by
  intro pins s σ H xs us Q I r h
  obtain ⟨y, c, b, rfl, hy, hk, q⟩ := h
  obtain ⟨hh, n, ox, vs, e, hc, hdn, hd, h2⟩ := hX.at I
  cases r with
  | cons rx r1 =>
    cases r1 with
    | cons ry r2 =>
      cases r2
      rename_i u v
      cases (show u = Value.ref x from rx)
      have ev : v = c := by
        cases y with
        | ty n => cases (show v = Value.type n from ry); exact Option.some.inj hy
        | ref a => cases (show v = Value.ref a from ry); exact Option.some.inj hy
        | non => cases hy
        | bl _ => cases hy
        | int _ => cases hy
        | str _ => cases hy
        | byt _ => cases hy
        | flt _ => cases hy
      subst ev
      have J : PySem.W.InstAt s.heap x ox C none := ⟨e, hc, by unfold PySem.W.notCls; rw [hd], by rw [hdn]; trivial⟩
      exact PySem.W.kia_one (L2X.kitx_exc (ox := ox) Z) I.kIn J hk (fun z => nomatch z) fun tk => ⟨.bl b, H, I.tok tk, rfl, q⟩
/-- constants in a row -/
inductive ConsE : List Expr → List V → Prop
  | nil : ConsE [] []
  | str {s : Str} {k pos} {es : List Expr} {vs : List V} : ConsE es vs → ConsE (.Constant (.str s) k pos :: es) (.str s :: vs)
  | int {i : Int} {k pos} {es : List Expr} {vs : List V} : ConsE es vs → ConsE (.Constant (.int i) k pos :: es) (.int i :: vs)
def tCs (vs : List V) : TA := fun _ H Q => Q vs H
theorem pa_consts {es : List Expr} {ws : List V} (h : ConsE es ws) : PA X es (tCs ws) := by
  induction h with
  | nil => exact pa_nil
  | str h ih =>
    intro pos pins s σ H Q I q
    exact (pa_cons pe_str ih) pos pins s σ H Q I q
  | int h ih =>
    intro pos pins s σ H Q I q
    exact (pa_cons pe_int ih) pos pins s σ H Q I q
/-- the same by a reckoning: names of texts stored as a list, or put behind a list -/
def consV : List Expr → Option (List V)
  | [] => some []
  | .Constant (.str s) _ _ :: es => (consV es).map (V.str s :: ·)
  | .Constant (.int i) _ _ :: es => (consV es).map (V.int i :: ·)
  | _ => none
theorem consV_ok : ∀ {es : List Expr} {ws : List V}, consV es = some ws → ConsE es ws := by
  intro es
  induction es with
  | nil => intro ws h; cases h; exact .nil
  | cons e es ih =>
    intro ws h
    unfold consV at h
    split at h
    · rename_i q; cases q
    · rename_i q
      cases q
      obtain ⟨vs, h1, rfl⟩ := Option.map_eq_some_iff.mp h
      exact .str (ih h1)
    · rename_i q
      cases q
      obtain ⟨vs, h1, rfl⟩ := Option.map_eq_some_iff.mp h
      exact .int (ih h1)
    · cases h
def setL : Stmt → Option (Str × List V)
  | .Assign [.Name n _] (.List es _) _ => (consV es).map fun ws => (n, ws)
  | _ => none
def setCat : Stmt → Option (Str × Str × List V)
  | .Assign [.Name n _] (.BinOp (.Name m _) .Add (.List es _) _) _ => (consV es).map fun ws => (n, m, ws)
  | _ => none
theorem ps_setC {st : Stmt} {i : Nat} {n : Str} {ws : List V} (h : setL st = some (n, ws)) (hN : X.N.Nodup) (hi : X.N[i]? = some n) (hx : Loc X.env.scope n) (hf : X.fn n = true ∨ X.env.scope.names.lookup n = some .local := by first | exact .inl rfl | exact .inr rfl | assumption) :
    PS X st (tAsg (tLst (tCs ws)) (gName i)) := by
  unfold setL at h
  split at h
  · obtain ⟨vs, h1, h2⟩ := Option.map_eq_some_iff.mp h
    cases h2
    exact ps_set hN hi hx (pe_lst (pa_consts (consV_ok h1))) (by rfl) hf
  · cases h
theorem ps_catC {st : Stmt} {i j : Nat} {n m : Str} {ws : List V} (h : setCat st = some (n, m, ws)) (hN : X.N.Nodup) (hi : X.N[i]? = some n) (hx : Loc X.env.scope n) (hj : X.N[j]? = some m) (hv : Vis X.env.scope m) (hd : (m == ("__debug__" : Str)) = false) (hcd : (m == ("__classdict__" : Str)) = false) (hf : X.fn n = true ∨ X.env.scope.names.lookup n = some .local := by first | exact .inl rfl | exact .inr rfl | assumption) :
    PS X st (tAsg (tOp rCat (tVar j) (tLst (tCs ws))) (gName i)) := by
  unfold setCat at h
  split at h
  · obtain ⟨vs, h1, h2⟩ := Option.map_eq_some_iff.mp h
    cases h2
    exact ps_set hN hi hx (pe_op op_cat (pv j hj hv hd hcd) (pe_lst (pa_consts (consV_ok h1)))) (by rfl) hf
  · cases h
end
end L2
namespace WM
open PySem
/-- the names that are told -/
def sel : List Str → List Bool → List Str
  | n :: ns, b :: bs => if b then n :: sel ns bs else sel ns bs
  | _, _ => []
theorem sel_take : ∀ (ns : List Str) (bs : List Bool) (i : Nat) {n : Str} {b : Bool}, ns[i]? = some n → bs[i]? = some b → sel (ns.take (i + 1)) (bs.take (i + 1)) = sel (ns.take i) (bs.take i) ++ (if b then [n] else [])
  | [], _, _, _, _, h, _ => by simp at h
  | _ :: _, [], _, _, _, _, h => by simp at h
  | m :: ns, c :: bs, 0, n, b, h1, h2 => by
    simp at h1 h2
    subst h1 h2
    cases c <;> simp [sel]
  | m :: ns, c :: bs, i + 1, n, b, h1, h2 => by
    have := sel_take ns bs i (n := n) (b := b) (by simpa using h1) (by simpa using h2)
    rw [List.take_succ_cons, List.take_succ_cons, List.take_succ_cons, List.take_succ_cons]
    cases c
    · simp only [sel, Bool.false_eq_true, if_false]
      exact this
    · simp only [sel, if_true, List.cons_append]
      rw [this]
theorem sel_len : ∀ (ns : List Str) (bs : List Bool), (sel ns bs).length ≤ ns.length
  | [], _ => by simp [sel]
  | _ :: _, [] => by simp [sel]
  | n :: ns, b :: bs => by
    have := sel_len ns bs
    cases b <;> simp [sel] <;> omega
def kinds : List Str := ["Lacks", "NoBank", "NoBook", "NoDeed", "NoName", "NoOrder", "NoPlace", "NoRow", "NoSlack", "NoText", "NoTurns", "NoWheel", "NoWord", "TooMany", "+"]
def kindS (bs : List Bool) : Str := PySem.Txt.join (txt []) (sel kinds bs)
end WM

set_option Elab.async false
set_option linter.all false
set_option maxRecDepth 100000
set_option maxHeartbeats 4000000
namespace L2
open PySem PySem.Spec PyProof.Rows
/-! enumerate(text) -/
def Ites (x : Str) : It :=
  ⟨fun i _ => i < x.cps.size, fun i H v H' => ∃ T c, v = .ref T ∧ H T = none ∧ x.cps[i]? = some c ∧ H' = upd H T (.tup [.int (i : Nat), .str ⟨#[c]⟩]), fun i _ => i = x.cps.size⟩
def iEnumS (ta : TA) : TI := fun σ H R => ta σ H fun vs H1 => ∃ x, vs = [.str x] ∧ R (Ites x) H1
end L2

set_option Elab.async false
set_option linter.all false
set_option maxRecDepth 100000
set_option maxHeartbeats 4000000
namespace L2
open PySem PyProof.Rows
section
variable {X : Cx}
/-- a callee that may raise, called where it doesn't -/
theorem pass10 {P : Program} {w : World} : Passes (CX1 P w) X E0 := by
  intro pins σ H s e s' I q
  obtain ⟨x, C, T, H1, _, _, _, _, _, _, _, _, _, _, hE⟩ := q
  exact hE.elim
/-! text * n -/
/-! a or b, a text -/
def tOrS (K : PySem.W.Frag) (ta tb : TE) : TE := fun σ H Q => ta σ H fun x H1 => ∃ k, TruV K x H1 k ∧ if k = true then Q x H1 else tb σ H1 Q
theorem pe_orS {a b : Expr} {rest : List Expr} {pos : Pos} {ta tb : TE} (ha : PE X a ta) (hb : PE X (.BoolOp .Or (b :: rest) pos) tb) : PE X (.BoolOp .Or (a :: b :: rest) pos) (tOrS X.K ta tb) := by
  intro pins s σ H Q I h
  refine BoolOp_or (thn (ha pins s σ H _ I h) fun v s1 ⟨x, H1, I1, r1, q1⟩ => ?_)
  obtain ⟨k, tr, q1⟩ := q1
  refine thn (tru_ok pins s1 σ H1 x v (fun c H2 => c = k ∧ H2 = H1) I1 r1 ⟨k, tr, rfl, rfl⟩) fun c s2 ⟨H2, I2, e, e'⟩ => ?_
  subst e e'
  cases c with
  | false => exact hb pins s2 σ H2 Q I2 q1
  | true => exact ⟨x, H2, I2, r1, q1⟩
/-! list(text) -/
/-! min of a list of texts -/
theorem strs_at : ∀ {its : List Value} {xs : List Str}, StrsAre its xs → its.length = xs.length ∧ ∀ (i : Nat) (v : Value), its[i]? = some v → ∃ t : Tok, v = Value.str (xs.getD i ⟨#[]⟩) t
  | _, _, .nil => ⟨rfl, fun i v e => by simp at e⟩
  | _, _, .cons x t h => by
    obtain ⟨h1, h2⟩ := strs_at h
    refine ⟨by simp [h1], fun i v e => ?_⟩
    cases i with
    | zero => simp at e; exact ⟨t, by simp [← e]⟩
    | succ i => simp at e; simpa using h2 i v e
def rMinS (K : PySem.W.Frag) : List V → Hp → VK → Prop := fun vs H Q => ∃ (a : Addr) (xs : List Str), vs = [V.ref a] ∧ SqL K H a (xs.map V.str) ∧ 0 < xs.length ∧ ∀ m, m ∈ xs → (∀ y, y ∈ xs → ¬ y.cps.toList < m.cps.toList) → Q (.str m) H
end
end L2

set_option Elab.async false
set_option linter.all false
namespace WM
def rots (l : List Nat) : List (List Nat) := (List.range l.length).map fun k => turnL l (k : Nat)
def IsMin (xs : List (List Nat)) (m : List Nat) : Prop := m ∈ xs ∧ ∀ y, y ∈ xs → ¬ y < m
def orb (l : List Nat) : List (List Nat) := rots l ++ rots (glassL l)
/-! the first place of a text in a list -/
def ix (xs : List (List Nat)) (o : List Nat) : Option Nat := xs.findIdx? fun m => m == o
def led (l o : List Nat) : Option (Bool × Nat) := match ix (rots l) o with
  | some j => some (false, j)
  | none => match ix (rots (glassL l)) o with
    | some j => some (true, j)
    | none => none
end WM

set_option Elab.async false
set_option linter.all false
namespace WM
open PySem L2
theorem cut_fromA {l : List Nat} {f : Int} (h0 : 0 ≤ f) : L2.cutS (txt l) (some f) none = txt (l.drop f.toNat) := by
  unfold L2.cutS
  rw [txt_length, txt_cps]
  have e1 : HT.sIx l.length 0 (some f) = min f.toNat l.length := by
    show (if f < 0 then _ else min f.toNat l.length) = _
    rw [if_neg (by omega)]
  have e2 : HT.sIx l.length l.length (none : Option Int) = l.length := rfl
  rw [e1, e2]
  by_cases h : f.toNat ≤ l.length
  · rw [Nat.min_eq_left h, List.take_of_length_le (by rw [List.length_drop]; omega)]; rfl
  · rw [Nat.min_eq_right (by omega), List.drop_of_length_le (Nat.le_refl _), List.drop_of_length_le (by omega)]; simp; rfl
theorem cut_toA {l : List Nat} {f : Int} (h0 : 0 ≤ f) : L2.cutS (txt l) none (some f) = txt (l.take f.toNat) := by
  unfold L2.cutS
  rw [txt_length, txt_cps]
  have e1 : HT.sIx l.length l.length (some f) = min f.toNat l.length := by
    show (if f < 0 then _ else min f.toNat l.length) = _
    rw [if_neg (by omega)]
  have e2 : HT.sIx l.length 0 (none : Option Int) = 0 := rfl
  rw [e1, e2]
  show (⟨((l.drop 0).take (min f.toNat l.length - 0)).toArray⟩ : Str) = _
  rw [List.drop_zero, Nat.sub_zero]
  by_cases h : f.toNat ≤ l.length
  · rw [Nat.min_eq_left h]; rfl
  · rw [Nat.min_eq_right (by omega), List.take_of_length_le (l := l) (i := l.length) (Nat.le_refl _), List.take_of_length_le (l := l) (i := f.toNat) (by omega)]; rfl
end WM

set_option Elab.async false
set_option linter.all false
set_option maxRecDepth 100000
set_option maxHeartbeats 4000000
namespace W
open PySem L2 WM
structure Txt (mg : Str → Option Value) : Prop where
  len : mg "len" = none
  str : mg "str" = none
  int : mg "int" = none
  bool : mg "bool" = none
  tuple : mg "tuple" = none
  list : mg "list" = none
  dict : mg "dict" = none
  set : mg "set" = none
  enum : mg "enumerate" = none
  isi : mg "isinstance" = none
  all : mg "all" = none
  any : mg "any" = none
  range : mg "range" = none
  min : mg "min" = none
  max : mg "max" = none
  sum : mg "sum" = none
  abs : mg "abs" = none
  sorted : mg "sorted" = none
  zip : mg "zip" = none
  reversed : mg "reversed" = none
  ve : mg "ValueError" = none
/-- a module's constant -/
def GInt (mg : Str → Option Value) (x : Str) (v : Int) : Prop := ∃ t, mg x = some (.int v t)
theorem pe_gint {X : Cx} {x : Str} {v : Int} {pos : Pos} (hg : Gl X x) (h : GInt X.mg x v) (hd : (x == ("__debug__" : Str)) = false := by decide) : PE X (.Name x pos) (tC (.int v)) := by
  obtain ⟨t, m⟩ := h
  exact pe_glob hg m ⟨t, rfl⟩ hd
/-- a def of the text -/
def Def (K : PySem.W.Frag) (mg : Str → Option Value) (name : Str) (st : Stmt) (ps : List Str) : Prop := ∃ f fd, Fun K name name st f fd ∧ mg name = some (.ref f) ∧ Binds K fd ps []
/-- a def that may be called -/
def Cal (P : Program) (w : World) (K : PySem.W.Frag) (mg : Str → Option Value) (base : Heap) (CX : CXT) (k : Nat) (name : Str) (ps : List Str) (sp : Sp) : Prop :=
  ∃ f fd, FnOk P w K mg base CX k f fd ps sp ∧ PySem.W.keepIn K (.ref f) = true ∧ Binds K fd ps [] ∧ mg name = some (.ref f)
theorem cal_mk {P : Program} {w : World} {K : PySem.W.Frag} {mg : Str → Option Value} {base : Heap} {CX : CXT} {k : Nat} {name : Str} {st : Stmt} {ps : List Str} {sp : Sp} (D : Def K mg name st ps) (h : ∀ f fd, Fun K name name st f fd → FnOk P w K mg base CX k f fd ps sp) : Cal P w K mg base CX k name ps sp := by
  obtain ⟨f, fd, F, m, b⟩ := D
  exact ⟨f, fd, h f fd F, F.kp, b, m⟩
def CalH (P : Program) (w : World) (K : PySem.W.Frag) (mg : Str → Option Value) (base : Heap) (k : Nat) (name : Str) (ps : List Str) (sp : SpH) : Prop :=
  ∃ f fd, FnOkH P w K mg base k f fd ps sp ∧ PySem.W.keepIn K (.ref f) = true ∧ Binds K fd ps [] ∧ mg name = some (.ref f)
/-- the classes of refusals, in the order in which they are asked -/
structure Cls14 where
  (a0 a1 a2 a3 a4 a5 a6 a7 a8 a9 a10 a11 a12 a13 : Addr)
structure Ref (K : PySem.W.Frag) (mg : Str → Option Value) (c : Cls14) : Prop where
  m0 : mg "Lacks" = some (.ref c.a0)
  m1 : mg "NoBank" = some (.ref c.a1)
  m2 : mg "NoBook" = some (.ref c.a2)
  m3 : mg "NoDeed" = some (.ref c.a3)
  m4 : mg "NoName" = some (.ref c.a4)
  m5 : mg "NoOrder" = some (.ref c.a5)
  m6 : mg "NoPlace" = some (.ref c.a6)
  m7 : mg "NoRow" = some (.ref c.a7)
  m8 : mg "NoSlack" = some (.ref c.a8)
  m9 : mg "NoText" = some (.ref c.a9)
  m10 : mg "NoTurns" = some (.ref c.a10)
  m11 : mg "NoWheel" = some (.ref c.a11)
  m12 : mg "NoWord" = some (.ref c.a12)
  m13 : mg "TooMany" = some (.ref c.a13)
structure Kit (K : PySem.W.Frag) (c : Cls14) (C : Addr) (bs : List Bool) : Prop where
  k : ∃ b0 b1 b2 b3 b4 b5 b6 b7 b8 b9 b10 b11 b12 b13 b14 : Bool, bs = [b0, b1, b2, b3, b4, b5, b6, b7, b8, b9, b10, b11, b12, b13, b14] ∧
    PySem.W.kitOne K (.ref C) (.ref c.a0) = some b0 ∧ PySem.W.kitOne K (.ref C) (.ref c.a1) = some b1 ∧ PySem.W.kitOne K (.ref C) (.ref c.a2) = some b2 ∧ PySem.W.kitOne K (.ref C) (.ref c.a3) = some b3 ∧
    PySem.W.kitOne K (.ref C) (.ref c.a4) = some b4 ∧ PySem.W.kitOne K (.ref C) (.ref c.a5) = some b5 ∧ PySem.W.kitOne K (.ref C) (.ref c.a6) = some b6 ∧ PySem.W.kitOne K (.ref C) (.ref c.a7) = some b7 ∧
    PySem.W.kitOne K (.ref C) (.ref c.a8) = some b8 ∧ PySem.W.kitOne K (.ref C) (.ref c.a9) = some b9 ∧ PySem.W.kitOne K (.ref C) (.ref c.a10) = some b10 ∧ PySem.W.kitOne K (.ref C) (.ref c.a11) = some b11 ∧
    PySem.W.kitOne K (.ref C) (.ref c.a12) = some b12 ∧ PySem.W.kitOne K (.ref C) (.ref c.a13) = some b13 ∧ PySem.W.kitOne K (.ref C) (.type "ValueError") = some b14
  x : L2X.ExcK K C
section
variable {P : Program} {w : World} {K : PySem.W.Frag} {mg : Str → Option Value} {base : Heap}
def spKind (K : PySem.W.Frag) (c : Cls14) : SpH := fun x C vs H Q => ∃ bs : List Bool, vs = [.ref x] ∧ Kit K c C bs ∧ ((sel kinds bs).map (·.length)).sum ≤ 1000 ∧ ∀ H', Same H H' → Q (.str (kindS bs)) H'
theorem Same.new {H : Hp} {l : Addr} {o : HO} (h : H l = none) : Same H (upd H l o) := fun b u e => by rw [upd_ne (ne_of_none e h)]; exact e
theorem kinds_at : ∀ i : Nat, i < 15 → ∃ n, kinds[i]? = some n := by
  intro i hi
  exact ⟨_, List.getElem?_eq_getElem (by show i < 15; exact hi)⟩
theorem boot_isi : PySem.bootBuiltins "isinstance" = some (.builtin "isinstance") := by decide +kernel
def okC (c : Nat) : Bool := decide (97 ≤ c) && decide (c ≤ 122)
theorem lt1 (a b : Nat) : ([a] < [b]) = (a < b) := by
  apply propext
  constructor
  · intro h
    cases h with
    | rel h => exact h
    | cons h => cases h
  · intro h; exact List.Lex.rel h
def isW (l : List Nat) : Bool := decide (l.length ≤ 80) && l.all okC
def NoStr (K : PySem.W.Frag) (H : Hp) (v : V) : Prop := ∃ t, TyOf K H v t ∧ PySem.W.kitOne K t (.type "str") = some false
def isWh (l : List Nat) : Bool := isW l && (decide (1 ≤ l.length) && decide (l.length ≤ 30))
def vts (xs : List (List Nat)) : List V := xs.map fun m => V.str (txt m)
structure Dr (a b c : Int) : Prop where
  a0 : 0 ≤ a
  b0 : 0 ≤ b
  b1 : b < 4294967296
  c0 : 0 < c
  c1 : c < 4294967296
def DrAt (H : Hp) (p : Addr) : Prop := ∃ a b c : Int, H p = some (.lst [.int a, .int b, .int c]) ∧ Dr a b c
def But (p : Addr) (H H' : Hp) : Prop := ∀ q o, H q = some o → q ≠ p → H' q = some o
theorem But.trans {p : Addr} {H H1 H2 : Hp} (a : But p H H1) (b : But p H1 H2) : But p H H2 := fun q o h n => b q o (a q o h n) n
theorem But.upd (p : Addr) (H : Hp) (o : HO) : But p H (upd H p o) := fun q u h n => by rw [upd_ne n]; exact h
theorem But.new {p l : Addr} {H : Hp} {o : HO} (h : H l = none) : But p H (L2.upd H l o) := fun q u e n => by rw [upd_ne (ne_of_none e h)]; exact e
theorem DrAt.new {p l : Addr} {H : Hp} {o : HO} (d : DrAt H p) (h : H l = none) : DrAt (L2.upd H l o) p := by
  obtain ⟨a, b, c, e, r⟩ := d
  exact ⟨a, b, c, by rw [upd_ne (ne_of_none e h)]; exact e, r⟩
theorem DrAt.ne {p l : Addr} {H : Hp} (d : DrAt H p) (h : H l = none) : l ≠ p := by
  obtain ⟨a, b, c, e, r⟩ := d
  exact (ne_of_none e h).symm
theorem Same.dr {p : Addr} {H H' : Hp} (s : Same H H') (d : DrAt H p) : DrAt H' p := by
  obtain ⟨a, b, c, e, r⟩ := d
  exact ⟨a, b, c, s _ _ e, r⟩
theorem Same.but {p : Addr} {H H' : Hp} (s : Same H H') : But p H H' := fun q o h _ => s q o h
theorem But.same {p : Addr} {H H3 H4 : Hp} (s : Same H H3) (n : H p = none) (b : But p H3 H4) : Same H H4 := fun q o e => b q o (s q o e) (ne_of_none e n)
theorem join_signs : ∀ l : List Nat, Txt.join (txt []) (l.map fun c => txt [c]) = txt l := by
  intro l
  apply TL.ext_tl
  rw [TL.join_eq, TL.tl_join, List.map_map]
  show TL.joinL [] (l.map fun c => [c]) = l
  induction l with
  | nil => rfl
  | cons a r ih =>
    cases r with
    | nil => rfl
    | cons b r =>
      show [a] ++ ([] ++ TL.joinL [] ((b :: r).map fun c => [c])) = _
      rw [ih]; rfl
def abc : List Nat := [97, 98, 99, 100, 101, 102, 103, 104, 105, 106, 107, 108, 109, 110, 111, 112, 113, 114, 115, 116, 117, 118, 119, 120, 121, 122]
theorem abc_get {z : Int} (h0 : 0 ≤ z) (h1 : z < 26) : atI abc z = some (97 + z.toNat) := by
  obtain ⟨n, rfl⟩ : ∃ n : Nat, z = (n : Int) := ⟨z.toNat, by omega⟩
  have hn : n < 26 := by omega
  have : ∀ n : Nat, n < 26 → abc[n]? = some (97 + n) := by decide
  exact atI_nat (this n hn)
theorem at3 {a b c : V} {z : Int} (h0 : 0 ≤ z) (h1 : z < 3) : ∃ v, atI [a, b, c] z = some v ∧ (v = a ∨ v = b ∨ v = c) := by
  have : z = 0 ∨ z = 1 ∨ z = 2 := by omega
  rcases this with rfl | rfl | rfl
  · exact ⟨a, rfl, .inl rfl⟩
  · exact ⟨b, rfl, .inr (.inl rfl)⟩
  · exact ⟨c, rfl, .inr (.inr rfl)⟩
theorem at2 {a b : V} {z : Int} (h0 : 0 ≤ z) (h1 : z < 2) : ∃ v, atI [a, b] z = some v ∧ (v = a ∨ v = b) := by
  have : z = 0 ∨ z = 1 := by omega
  rcases this with rfl | rfl
  · exact ⟨a, rfl, .inl rfl⟩
  · exact ⟨b, rfl, .inr rfl⟩
def primes : List V := [.int 2147483647, .int 2147483629, .int 2147483587, .int 2147483579, .int 2147483563, .int 2147483549, .int 2147483543, .int 2147483497]
theorem primes_at {z : Int} (h0 : 0 ≤ z) (h1 : z < 8) : ∃ c : Int, atI primes z = some (.int c) ∧ 0 < c ∧ c < 4294967296 := by
  have : z = 0 ∨ z = 1 ∨ z = 2 ∨ z = 3 ∨ z = 4 ∨ z = 5 ∨ z = 6 ∨ z = 7 := by omega
  rcases this with rfl | rfl | rfl | rfl | rfl | rfl | rfl | rfl <;> exact ⟨_, rfl, by decide, by decide⟩
theorem int_at {ns : List Int} {z : Int} (h0 : 0 ≤ z) (h1 : z < ns.length) : ∃ y : Int, atI (ns.map V.int) z = some (.int y) := by
  obtain ⟨j, rfl⟩ : ∃ j : Nat, z = (j : Int) := ⟨z.toNat, by omega⟩
  have hj : j < ns.length := by omega
  exact ⟨ns[j], atI_nat (by rw [List.getElem?_map, List.getElem?_eq_getElem hj]; rfl)⟩
theorem big_ok : PySem.IntMulOk ((10 : Int) ^ (60 : Int).toNat) ((10 : Int) ^ (60 : Int).toNat) := by unfold PySem.IntMulOk; decide +kernel
theorem big_pos : (0 : Int) < (10 : Int) ^ (60 : Int).toNat * (10 : Int) ^ (60 : Int).toNat := by decide +kernel
theorem p15 : (0 : Int) < (10 : Int) ^ (15 : Int).toNat := by decide +kernel
theorem Room.mark {j k : Nat} {A : Around} {v : Option Value} (r : Room k A) (h : j ≤ k) : RoomH j (A.mark v) := ⟨by have := r.dp; show A.depth + 3 * j + 5 < _; omega, by have := r.un; show A.units + 16 * j + 200 < _; omega⟩
def spDraw : Sp := fun vs H Q _ => ∃ (p : Addr) (m : Int), vs = [.ref p, .int m] ∧ DrAt H p ∧ 0 < m ∧ m < 1073741824 ∧ ∀ (r : Int) (H' : Hp), 0 ≤ r → r < m → DrAt H' p → But p H H' → Q (.int r) H'
def spLetters : Sp := fun vs H Q _ => ∃ (p : Addr) (m kd : Int), vs = [.ref p, .int m, .int kd] ∧ DrAt H p ∧ 0 ≤ m ∧ m ≤ 100 ∧ 1 ≤ kd ∧ kd ≤ 26 ∧
  ∀ (l : List Nat) (H' : Hp), l.length = m.toNat → Low l → DrAt H' p → But p H H' → Q (.str (txt l)) H'
def spDraws (K : PySem.W.Frag) : Sp := fun vs H Q _ => ∃ (a : Addr) (ns : List Int) (j : Int), vs = [.ref a, .int j] ∧ SqL K H a (ns.map V.int) ∧ ns.length ≤ 63 ∧ 0 ≤ j ∧ j ≤ 63 ∧
  ∀ (p : Addr) (H' : Hp), H p = none → DrAt H' p → Same H H' → Q (.ref p) H'
def spLWheel : Sp := fun vs H Q _ => ∃ (p : Addr) (m : Int), vs = [.ref p, .int m] ∧ DrAt H p ∧ 1 ≤ m ∧ m ≤ 30 ∧
  ∀ (l : List Nat) (H' : Hp), Wheel l → l.length ≤ m.toNat → DrAt H' p → But p H H' → Q (.str (txt l)) H'
def spFigures : Sp := fun vs H Q _ => ∃ (p : Addr) (m : Int), vs = [.ref p, .int m] ∧ DrAt H p ∧ 1 ≤ m ∧ m ≤ 1000 ∧ ∀ (n : Int) (H' : Hp), DrAt H' p → But p H H' → Q (.int n) H'
def spSign : Sp := fun vs H Q _ => ∃ c : Nat, vs = [.str (txt [c])] ∧ Q (.bl (okC c)) H
def spWord (K : PySem.W.Frag) : Sp := fun vs H Q _ => (∃ l : List Nat, vs = [.str (txt l)] ∧ l.length ≤ 1000 ∧ ∀ H', Same H H' → Q (.bl (isW l)) H') ∨ ∃ v, vs = [v] ∧ NoStr K H v ∧ Q (.bl false) H
def spWheel (K : PySem.W.Frag) : Sp := fun vs H Q _ => (∃ l : List Nat, vs = [.str (txt l)] ∧ l.length ≤ 1000 ∧ ∀ H', Same H H' → Q (.bl (isWh l)) H') ∨ ∃ v, vs = [v] ∧ NoStr K H v ∧ Q (.bl false) H
end
/-- the answers of isinstance for the i-th refusal -/
def bsAt (i : Nat) : List Bool := (List.range 15).map fun j => j == i || j == 14
theorem But.set {p L : Addr} {H H' : Hp} {o : HO} (b : But p H H') (h : H L = none) : But p H (L2.upd H' L o) := fun q u e n => by rw [upd_ne (ne_of_none e h)]; exact b q u e n
theorem DrAt.set {p L : Addr} {H : Hp} {o : HO} (d : DrAt H p) (n : L ≠ p) : DrAt (L2.upd H L o) p := by
  obtain ⟨a, b, c, e, r⟩ := d
  exact ⟨a, b, c, by rw [upd_ne n.symm]; exact e, r⟩
end W

set_option Elab.async false
set_option linter.all false
set_option maxRecDepth 100000
set_option maxHeartbeats 4000000
namespace L2
open PySem PySem.Spec PyProof.Rows
/-! items of displays and calls, by their kind: nothing to unfold -/
section
variable {X : Cx} {es : List Expr} {te : TE} {t : TA} {pos : Pos}
theorem pa_cC {c : Const} {j} (ha : PE X (.Constant c j pos) te) (hr : PA X es t) : PA X (.Constant c j pos :: es) (tCons te t) := pa_cons ha hr (by rfl)
theorem pa_cN {x : Str} (ha : PE X (.Name x pos) te) (hr : PA X es t) : PA X (.Name x pos :: es) (tCons te t) := pa_cons ha hr (by rfl)
theorem pa_cB {a b : Expr} {op} (ha : PE X (.BinOp a op b pos) te) (hr : PA X es t) : PA X (.BinOp a op b pos :: es) (tCons te t) := pa_cons ha hr (by rfl)
theorem pa_cU {a : Expr} {op} (ha : PE X (.UnaryOp op a pos) te) (hr : PA X es t) : PA X (.UnaryOp op a pos :: es) (tCons te t) := pa_cons ha hr (by rfl)
theorem pa_cS {a b : Expr} (ha : PE X (.Subscript a b pos) te) (hr : PA X es t) : PA X (.Subscript a b pos :: es) (tCons te t) := pa_cons ha hr (by rfl)
theorem pa_cK {f : Expr} {as ks} (ha : PE X (.Call f as ks pos) te) (hr : PA X es t) : PA X (.Call f as ks pos :: es) (tCons te t) := pa_cons ha hr (by rfl)
theorem pa_cQ {a : Expr} {os bs} (ha : PE X (.Compare a os bs pos) te) (hr : PA X es t) : PA X (.Compare a os bs pos :: es) (tCons te t) := pa_cons ha hr (by rfl)
theorem pa_cG {a : Expr} {gs sc} (ha : PE X (.ListComp a gs sc pos) te) (hr : PA X es t) : PA X (.ListComp a gs sc pos :: es) (tCons te t) := pa_cons ha hr (by rfl)
end
end L2

set_option Elab.async false
set_option linter.all false
set_option maxRecDepth 100000
set_option maxHeartbeats 4000000
namespace L2
open PySem WM
/-! comprehensions that change nothing: what they tell is a list of values -/
theorem Same.new' {H : Hp} {l : Addr} {o : HO} (h : H l = none) : Same H (upd H l o) := fun b u e => by rw [upd_ne (ne_of_none e h)]; exact e
theorem Same.upd' {H1 H : Hp} {l : Addr} {o : HO} (s : Same H1 H) (h : H1 l = none) : Same H1 (upd H l o) := fun b u e => by rw [upd_ne (ne_of_none e h)]; exact s b u e
inductive All2 {α β : Type} (R : α → β → Prop) : List α → List β → Prop
  | nil : All2 R [] []
  | cons {a : α} {b : β} {as : List α} {bs : List β} : R a b → All2 R as bs → All2 R (a :: as) (b :: bs)
theorem All2.length {α β : Type} {R : α → β → Prop} {as : List α} {bs : List β} (h : All2 R as bs) : as.length = bs.length := by
  induction h with
  | nil => rfl
  | cons _ _ ih => rw [List.length_cons, List.length_cons, ih]
theorem All2.imp {α β : Type} {R S : α → β → Prop} {as : List α} {bs : List β} (h : All2 R as bs) (f : ∀ a b, a ∈ as → R a b → S a b) : All2 S as bs := by
  induction h with
  | nil => exact .nil
  | cons r _ ih => exact .cons (f _ _ List.mem_cons_self r) (ih fun a b m => f a b (List.mem_cons_of_mem _ m))
theorem All2.snoc {α β : Type} {R : α → β → Prop} {as : List α} {bs : List β} {a : α} {b : β} (h : All2 R as bs) (r : R a b) : All2 R (as ++ [a]) (bs ++ [b]) := by
  induction h with
  | nil => exact .cons r .nil
  | cons r' _ ih => exact .cons r' ih
theorem All2.eq_map {α β : Type} {f : α → β} {as : List α} {bs : List β} (h : All2 (fun a b => b = f a) as bs) : bs = as.map f := by
  induction h with
  | nil => rfl
  | cons r _ ih => rw [r, ih, List.map_cons]
theorem filter_take_succ {α : Type} {as : List α} {i : Nat} {x : α} (h : as[i]? = some x) (p : α → Bool) : (as.take (i + 1)).filter p = (as.take i).filter p ++ (if p x = true then [x] else []) := by
  rw [List.take_add_one, h, List.filter_append]
  congr 1
  by_cases e : p x = true
  · rw [if_pos e]; simp [e]
  · rw [if_neg e]; simp [e]
/-- the heap without an address -/
def del (H : Hp) (D : Addr) : Hp := fun b => if b = D then none else H b
theorem del_ne {H : Hp} {D b : Addr} (h : b ≠ D) : del H D b = H b := by unfold del; rw [if_neg h]
theorem del_upd {H : Hp} {D : Addr} {o : HO} : del (upd H D o) D = del H D := by
  funext b
  by_cases h : b = D
  · subst h; unfold del; rw [if_pos rfl, if_pos rfl]
  · rw [del_ne h, del_ne h, upd_ne h]
theorem del_same {H H' : Hp} {D : Addr} (s : Same H H') : Same (del H D) (del H' D) := fun b o e => by
  by_cases h : b = D
  · subst h; unfold del at e; rw [if_pos rfl] at e; cases e
  · rw [del_ne h] at e ⊢; exact s b o e
theorem del_le {H : Hp} {D : Addr} : Same (del H D) H := fun b o e => by
  by_cases h : b = D
  · subst h; unfold del at e; rw [if_pos rfl] at e; cases e
  · rw [del_ne h] at e; exact e
section
variable {K : PySem.W.Frag} {a D : Addr} {g : TG} {tt : TT} {te : TE} {vs : List Nat} {σ : St} {H1 : Hp} {Qd : Hp → Prop} {α : Type}
/-- one turn, a value told: what is asked of it -/
def LcTurnP (g : TG) (tt : TT) (te : TE) (vs : List Nat) (σ : St) (v : V) (H : Hp) (b : Bool) (y : V) : Prop :=
  ∀ (Qy : V → Hp → Prop) (Qn : Hp → Prop), (b = true → ∀ H', Same H H' → Qy y H') → (b = false → ∀ H', Same H H' → Qn H') →
    g v (wipe σ vs) H fun σ2 H2 => wipe σ2 vs = wipe σ vs ∧ tt σ2 H2 fun b H3 => if b = true then te σ2 H3 Qy else Qn H3
/-- one turn, the told thing by a relation (over the heap without the new list) -/
def LcTurnR (D : Addr) (g : TG) (tt : TT) (te : TE) (vs : List Nat) (σ : St) (v : V) (H : Hp) (b : Bool) (R : V → Hp → Prop) : Prop :=
  ∀ (Qy : V → Hp → Prop) (Qn : Hp → Prop), (b = true → ∀ y H', Same H H' → R y (del H' D) → Qy y H') → (b = false → ∀ H', Same H H' → Qn H') →
    g v (wipe σ vs) H fun σ2 H2 => wipe σ2 vs = wipe σ vs ∧ tt σ2 H2 fun b H3 => if b = true then te σ2 H3 Qy else Qn H3
theorem LcTurnP.r {v y : V} {H : Hp} {b : Bool} (h : LcTurnP g tt te vs σ v H b y) : LcTurnR D g tt te vs σ v H b (fun z _ => z = y) := fun Qy Qn ky kn => h Qy Qn (fun e H' s => ky e y H' s rfl) kn
/-- the state of a comprehension between two turns -/
def LcAt (H1 : Hp) (D : Addr) (R : α → V → Hp → Prop) (xs : List α) (H : Hp) : Prop := Same H1 H ∧ ∃ ys, H D = some (.lst ys) ∧ All2 (fun x y => R x y (del H D)) xs ys
theorem LcAt.yes {R : α → V → Hp → Prop} {xs : List α} {x : α} {H H' : Hp} {y : V} (mono : ∀ x y H H', R x y H → Same H H' → R x y H') (hD : H1 D = none) (h : LcAt H1 D R xs H) (hz : xs.length < sizeLine) (s : Same H H') (r : R x y (del H' D)) :
    ∃ acc, H' D = some (.lst acc) ∧ acc.length < sizeLine ∧ LcAt H1 D R (xs ++ [x]) (upd H' D (.lst (acc ++ [y]))) := by
  obtain ⟨s1, ys, hL, ha⟩ := h
  refine ⟨ys, s _ _ hL, by rw [← ha.length]; exact hz, (s1.trans s).upd' hD, _, upd_same, ?_⟩
  rw [del_upd]
  exact (ha.imp fun a b _ q => mono a b _ _ q (del_same s)).snoc r
theorem LcAt.no {R : α → V → Hp → Prop} {xs : List α} {H H' : Hp} (mono : ∀ x y H H', R x y H → Same H H' → R x y H') (h : LcAt H1 D R xs H) (s : Same H H') : LcAt H1 D R xs H' := by
  obtain ⟨s1, ys, hL, ha⟩ := h
  exact ⟨s1.trans s, ys, s _ _ hL, ha.imp fun a b _ q => mono a b _ _ q (del_same s)⟩
theorem lc_turn {as : List α} {i : Nat} {x : α} {v : V} {p : α → Bool} {R : α → V → Hp → Prop} {H : Hp} (mono : ∀ x y H H', R x y H → Same H H' → R x y H') (hD : H1 D = none) (hz : as.length < sizeLine) (hx : as[i]? = some x)
    (hs : (∃ l, H D = some (.lst l)) → Same H1 H → LcTurnR D g tt te vs σ v H (p x) (R x)) (h : LcAt H1 D R ((as.take i).filter p) H) :
    g v (wipe σ vs) H fun σ2 H2 => wipe σ2 vs = wipe σ vs ∧ tt σ2 H2 fun b H3 =>
      if b = true then te σ2 H3 fun y H4 => ∃ acc, H4 D = some (.lst acc) ∧ acc.length < sizeLine ∧ LcAt H1 D R ((as.take (i + 1)).filter p) (upd H4 D (.lst (acc ++ [y]))) else LcAt H1 D R ((as.take (i + 1)).filter p) H3 := by
  have e := filter_take_succ hx p
  refine hs ⟨_, h.2.choose_spec.1⟩ h.1 _ _ (fun ep y H' s r => ?_) (fun ep H' s => ?_)
  · rw [e, if_pos ep]
    refine h.yes mono hD ?_ s r
    have := List.length_filter_le p (as.take i)
    rw [List.length_take] at this
    omega
  · rw [e, if_neg (by rw [ep]; exact Bool.false_ne_true), List.append_nil]
    exact h.no mono s
theorem lc_end {as : List α} {p : α → Bool} {R : α → V → Hp → Prop} (mono : ∀ x y H H', R x y H → Same H H' → R x y H') (hd : ∀ H' ys, Same H1 H' → H' D = some (.lst ys) → All2 (fun x y => R x y H') (as.filter p) ys → Qd H') {n : Nat} (hn : n = as.length) {H : Hp} (h : LcAt H1 D R ((as.take n).filter p) H) : Qd H := by
  obtain ⟨s1, ys, hL, ha⟩ := h
  subst hn
  rw [List.take_length] at ha
  exact hd H ys s1 hL (ha.imp fun a b _ q => mono a b _ _ q del_le)
theorem lc_start {R : α → V → Hp → Prop} (hD : H1 D = none) : LcAt H1 D R ([] : List α) (upd H1 D (.lst [])) := ⟨Same.new' hD, [], upd_same, .nil⟩
/-- over a list, each thing kept by p, the told one related to it -/
theorem lc_listR {as : List α} {vf : α → V} (p : α → Bool) (R : α → V → Hp → Prop) (mono : ∀ x y H H', R x y H → Same H H' → R x y H') (hq : SqL K H1 a (as.map vf)) (hD : H1 D = none) (hz : as.length < sizeLine)
    (hs : ∀ x H, x ∈ as → (∃ l, H D = some (.lst l)) → Same H1 H → LcTurnR D g tt te vs σ (vf x) H (p x) (R x)) (hd : ∀ H' ys, Same H1 H' → H' D = some (.lst ys) → All2 (fun x y => R x y H') (as.filter p) ys → Qd H') :
    ∃ W : Nat → Nat → Hp → Prop, (∃ m, W 0 m (upd H1 D (.lst []))) ∧ ∀ i m H, W i m H →
      ((Itl K a).stop i H ∧ Qd H) ∨ ((Itl K a).go i H ∧ ∃ Nx : Hp → Prop, (∀ H', Nx H' → ∃ m', m' < m ∧ W (i + 1) m' H') ∧ ∀ x H', (Itl K a).yld i H x H' → g x (wipe σ vs) H' fun σ2 H2 => wipe σ2 vs = wipe σ vs ∧ tt σ2 H2 fun b H3 =>
        if b = true then te σ2 H3 fun y H4 => ∃ acc, H4 D = some (.lst acc) ∧ acc.length < sizeLine ∧ Nx (upd H4 D (.lst (acc ++ [y]))) else Nx H3) := by
  refine lc_list (K := K) (a := a) (xs := as.map vf) (fun i H => LcAt H1 D R ((as.take i).filter p) H) (lc_start hD) (fun i H _ h => h.1.seq hq) (fun i v H hv h => ?_) (fun H h => lc_end mono hd (by rw [List.length_map]) h)
  rw [List.getElem?_map] at hv
  cases ex : as[i]? with
  | none => rw [ex] at hv; cases hv
  | some x =>
    rw [ex] at hv
    cases hv
    exact lc_turn mono hD hz ex (hs x H (List.mem_of_getElem? ex)) h
theorem lc_strR {l : List Nat} (p : Nat → Bool) (R : Nat → V → Hp → Prop) (mono : ∀ x y H H', R x y H → Same H H' → R x y H') (hD : H1 D = none) (hz : l.length < sizeLine)
    (hs : ∀ c H, c ∈ l → (∃ l, H D = some (.lst l)) → Same H1 H → LcTurnR D g tt te vs σ (.str ⟨#[c]⟩) H (p c) (R c)) (hd : ∀ H' ys, Same H1 H' → H' D = some (.lst ys) → All2 (fun x y => R x y H') (l.filter p) ys → Qd H') :
    ∃ W : Nat → Nat → Hp → Prop, (∃ m, W 0 m (upd H1 D (.lst []))) ∧ ∀ i m H, W i m H →
      ((Its (txt l)).stop i H ∧ Qd H) ∨ ((Its (txt l)).go i H ∧ ∃ Nx : Hp → Prop, (∀ H', Nx H' → ∃ m', m' < m ∧ W (i + 1) m' H') ∧ ∀ x H', (Its (txt l)).yld i H x H' → g x (wipe σ vs) H' fun σ2 H2 => wipe σ2 vs = wipe σ vs ∧ tt σ2 H2 fun b H3 =>
        if b = true then te σ2 H3 fun y H4 => ∃ acc, H4 D = some (.lst acc) ∧ acc.length < sizeLine ∧ Nx (upd H4 D (.lst (acc ++ [y]))) else Nx H3) := by
  refine lc_str (x := txt l) (fun i H => LcAt H1 D R ((l.take i).filter p) H) (lc_start hD) (fun i c H hc h => ?_) (fun H h => lc_end mono hd (by show l.toArray.size = _; simp) h)
  have hc' : l[i]? = some c := by simpa [txt] using hc
  exact lc_turn mono hD hz hc' (hs c H (List.mem_of_getElem? hc')) h
/-! the same with values -/
theorem lc_listP {as : List α} {vf : α → V} (p : α → Bool) (f : α → V) (hq : SqL K H1 a (as.map vf)) (hD : H1 D = none) (hz : as.length < sizeLine)
    (hs : ∀ x H, x ∈ as → Same H1 H → LcTurnP g tt te vs σ (vf x) H (p x) (f x)) (hd : ∀ H', Same H1 H' → H' D = some (.lst ((as.filter p).map f)) → Qd H') :
    ∃ W : Nat → Nat → Hp → Prop, (∃ m, W 0 m (upd H1 D (.lst []))) ∧ ∀ i m H, W i m H →
      ((Itl K a).stop i H ∧ Qd H) ∨ ((Itl K a).go i H ∧ ∃ Nx : Hp → Prop, (∀ H', Nx H' → ∃ m', m' < m ∧ W (i + 1) m' H') ∧ ∀ x H', (Itl K a).yld i H x H' → g x (wipe σ vs) H' fun σ2 H2 => wipe σ2 vs = wipe σ vs ∧ tt σ2 H2 fun b H3 =>
        if b = true then te σ2 H3 fun y H4 => ∃ acc, H4 D = some (.lst acc) ∧ acc.length < sizeLine ∧ Nx (upd H4 D (.lst (acc ++ [y]))) else Nx H3) :=
  lc_listR p (fun x y _ => y = f x) (fun _ _ _ _ h _ => h) hq hD hz (fun x H m _ s => LcTurnP.r (hs x H m s)) fun H' ys s hL ha => hd H' s (by rw [hL, ha.eq_map])
theorem lc_strP {l : List Nat} (p : Nat → Bool) (f : Nat → V) (hD : H1 D = none) (hz : l.length < sizeLine)
    (hs : ∀ c H, c ∈ l → Same H1 H → LcTurnP g tt te vs σ (.str ⟨#[c]⟩) H (p c) (f c)) (hd : ∀ H', Same H1 H' → H' D = some (.lst ((l.filter p).map f)) → Qd H') :
    ∃ W : Nat → Nat → Hp → Prop, (∃ m, W 0 m (upd H1 D (.lst []))) ∧ ∀ i m H, W i m H →
      ((Its (txt l)).stop i H ∧ Qd H) ∨ ((Its (txt l)).go i H ∧ ∃ Nx : Hp → Prop, (∀ H', Nx H' → ∃ m', m' < m ∧ W (i + 1) m' H') ∧ ∀ x H', (Its (txt l)).yld i H x H' → g x (wipe σ vs) H' fun σ2 H2 => wipe σ2 vs = wipe σ vs ∧ tt σ2 H2 fun b H3 =>
        if b = true then te σ2 H3 fun y H4 => ∃ acc, H4 D = some (.lst acc) ∧ acc.length < sizeLine ∧ Nx (upd H4 D (.lst (acc ++ [y]))) else Nx H3) :=
  lc_strR p (fun x y _ => y = f x) (fun _ _ _ _ h _ => h) hD hz (fun x H m _ s => LcTurnP.r (hs x H m s)) fun H' ys s hL ha => hd H' s (by rw [hL, ha.eq_map])
end
end L2

set_option Elab.async false
set_option linter.all false
set_option maxRecDepth 100000
set_option maxHeartbeats 4000000
namespace WM
open PySem
/-! what turns cost -/
def ab (t : Int) : Int := if t < 0 then -t else t
def tc (w t s : Int) : Int := if t * w < 0 then ab t + s else ab t
def wb (w t : Int) : Int := if 0 < t then 1 else if t < 0 then -1 else w
def okS (n : Int) : Bool := decide (0 ≤ n) && decide (n ≤ 9)
def cf (s : Int) (ts : List Int) : Int × Int := ts.foldl (fun p t => (p.1 + tc p.2 t s, wb p.2 t)) (0, 0)
/-! the same by the turns that are not 0 -/
def gone (ts : List Int) : List Int := ts.filter fun t => decide (t ≠ 0)
def up (g : List Int) (i : Nat) : Bool := decide (0 < g.getD i 0)
def chg (g : List Int) : Nat := ((List.range (g.length - 1)).filter fun i => up g (1 + i) != up g i).length
/-! lists of ints as data -/
def dInts (ts : List Int) : PyData := .list (ts.map .int)
end WM
namespace WM
open PySem
/-! data of few levels: what equality asks -/
structure Sh (n : Nat) (d : PyData) : Prop where
  can : d.canLay0 = true
  dep : d.depth ≤ n
theorem Sh.shaped {n : Nat} {d : PyData} (h : Sh n d) (hn : n ≤ 64 := by decide) : SeqAt.shaped d = true := by
  show (d.canLay0 && decide (d.depth ≤ 64)) = true
  rw [h.can, decide_eq_true (Nat.le_trans h.dep hn)]; rfl
theorem Sh.eqv {n : Nat} {d : PyData} (h : Sh n d) : PyData.eqv d d = true := PySem.SeqAt.eqv_refl _ h.can
theorem Sh.int (i : Int) (n : Nat) : Sh n (.int i) := ⟨rfl, Nat.zero_le _⟩
theorem Sh.all {n : Nat} : ∀ {ds : List PyData}, (∀ d ∈ ds, Sh n d) → PyData.canLayAll0 ds = true ∧ PyData.depthAll ds ≤ n
  | [], _ => ⟨rfl, Nat.zero_le _⟩
  | d :: ds, h => by
    obtain ⟨a, b⟩ := Sh.all (ds := ds) fun e m => h e (List.mem_cons_of_mem _ m)
    have hd := h d List.mem_cons_self
    refine ⟨?_, ?_⟩
    · show (d.canLay0 && PyData.canLayAll0 ds) = true
      rw [hd.can, a]; rfl
    · show max d.depth (PyData.depthAll ds) ≤ n
      exact Nat.max_le.mpr ⟨hd.dep, b⟩
theorem Sh.list {n : Nat} {ds : List PyData} (h : ∀ d ∈ ds, Sh n d) : Sh (n + 1) (.list ds) := by
  obtain ⟨a, b⟩ := Sh.all h
  refine ⟨a, ?_⟩
  show PyData.depthAll ds + 1 ≤ n + 1
  omega
theorem Sh.ints (ts : List Int) : Sh 1 (dInts ts) := Sh.list fun d m => by
  obtain ⟨i, _, rfl⟩ := List.mem_map.mp m
  exact Sh.int i 0
end WM
namespace L2
open PySem WM
theorem Dp.ints {K : PySem.W.Frag} {H : Hp} {a : Addr} {ts : List Int} (h : SqL K H a (ts.map V.int)) : Dp K H (.ref a) (dInts ts) := by
  refine .lst h ?_
  clear h
  induction ts with
  | nil => exact .nil
  | cons t ts ih => exact .cons (.int t) ih
end L2

set_option Elab.async false
set_option linter.all false
set_option maxRecDepth 100000
set_option maxHeartbeats 4000000
namespace L2
open PySem WM
section
variable {K : PySem.W.Frag} {a D : Addr} {g : TG} {tt : TT} {te : TE} {vs : List Nat} {σ : St} {H1 : Hp} {Qd : Hp → Prop} {α : Type}
end
section
variable {K : PySem.W.Frag} {a : Addr} {g : TG} {tb : TS} {D : Ends} {σ : St} {H : Hp}
end
end L2
namespace WM
open PySem
/-! what turns strike -/
def stk (l : List Nat) (ts : List Int) : Int × List Nat := ts.foldl (fun p t => ((p.1 + t) % (l.length : Int), p.2 ++ [l.getD ((p.1 + t) % (l.length : Int)).toNat 0])) (0, [])
/-- is it a plan -/
def pln (l o : List Nat) (ts : List Int) : Bool := ts.all (fun t => decide (ab t < (l.length : Int))) && decide ((stk l ts).2 = o)
end WM

set_option Elab.async false
set_option linter.all false
set_option maxRecDepth 100000
set_option maxHeartbeats 4000000
namespace W
open PySem L2 WM
def Cp (l : List Nat) : Prop := ∀ c ∈ l, c < 1114112
theorem Low.cp {l : List Nat} (h : Low l) : Cp l := fun c hc => by have := h c hc; omega
def dS (c : Nat) : PyData := .str (txt [c])
theorem shaped_signs {l : List Nat} (h : Cp l) : SeqAt.shaped (PyData.list (l.map dS)) = true := by
  have h1 : ∀ l : List Nat, Cp l → PyData.canLayAll0 (l.map dS) = true := by
    intro l
    induction l with
    | nil => intro _; rfl
    | cons a r ih =>
      intro h
      have ha := h a List.mem_cons_self
      show (PyData.canLay0 (dS a) && PyData.canLayAll0 (r.map dS)) = true
      rw [ih fun c hc => h c (List.mem_cons_of_mem _ hc), Bool.and_true]
      show (txt [a]).cps.all (· < 0x110000) = true
      show ([a].toArray.all fun x => decide (x < 0x110000)) = true
      simp
      exact ha
  have h2 : ∀ l : List Nat, PyData.depthAll (l.map dS) = 0 := by
    intro l
    induction l with
    | nil => rfl
    | cons a r ih =>
      show max (PyData.depth (dS a)) (PyData.depthAll (r.map dS)) = 0
      rw [ih]; rfl
  show (PyData.canLay0 (PyData.list (l.map dS)) && decide (PyData.depth (PyData.list (l.map dS)) ≤ 64)) = true
  have e1 : PyData.canLay0 (PyData.list (l.map dS)) = PyData.canLayAll0 (l.map dS) := rfl
  have e2 : PyData.depth (PyData.list (l.map dS)) = PyData.depthAll (l.map dS) + 1 := rfl
  rw [e1, e2, h1 l h, h2]
  rfl
theorem dp_signs {K : PySem.W.Frag} {H : Hp} : ∀ l : List Nat, DpAll K H (l.map fun c => V.str (txt [c])) (l.map dS)
  | [] => .nil
  | a :: r => .cons (.str _) (dp_signs r)
def spLIsWord : Sp := fun vs H Q _ => ∃ l : List Nat, vs = [.str (txt l)] ∧ l.length ≤ 500 ∧ Cp l ∧ ∀ H', Same H H' → Q (.bl (isW l)) H'
def bad (l : List Nat) : List Nat := l.filter fun c => !okC c
def sgA : Str := " !\"#$&'()*+,-./0123456789:;<=>?@"
def sgB : Str := "ABCDEFGHIJKLMNOPQRSTUVWXYZ[\\]^_`abcdefghijklmnopqrstuvwxyz{|}~\n"
theorem sg_len : (sgA ++ sgB).length = 95 := by decide +kernel
theorem sg_pos : (0 : Int) < (((sgA ++ sgB).length : Nat) : Int) := by rw [sg_len]; decide
theorem sg_lt : (((sgA ++ sgB).length : Nat) : Int) < 1073741824 := by rw [sg_len]; decide
theorem sg_cp : ∀ c ∈ (sgA ++ sgB).cps.toList, c < 1114112 := by decide +kernel
def spBent : Sp := fun vs H Q _ => ∃ (l : List Nat) (p : Addr), vs = [.str (txt l), .ref p] ∧ Cp l ∧ l.length ≤ 200 ∧ DrAt H p ∧ ∀ (m : List Nat) (H' : Hp), Cp m → m.length ≤ l.length + 1 → DrAt H' p → But p H H' → Q (.str (txt m)) H'
theorem Cp.take {l : List Nat} (h : Cp l) (n : Nat) : Cp (l.take n) := fun c hc => h c (List.mem_of_mem_take hc)
theorem Cp.drop {l : List Nat} (h : Cp l) (n : Nat) : Cp (l.drop n) := fun c hc => h c (List.mem_of_mem_drop hc)
theorem Cp.app {l m : List Nat} (h : Cp l) (h' : Cp m) : Cp (l ++ m) := fun c hc => (List.mem_append.mp hc).elim (h c) (h' c)
theorem at_some {l : List Nat} {z : Int} (h0 : 0 ≤ z) (h1 : z < l.length) : ∃ c, atI l z = some c ∧ c ∈ l := by
  obtain ⟨j, rfl⟩ : ∃ j : Nat, z = (j : Int) := ⟨z.toNat, by omega⟩
  have hj : j < l.length := by omega
  exact ⟨l[j], atI_nat (List.getElem?_eq_getElem hj), List.getElem_mem hj⟩
end W

set_option Elab.async false
set_option linter.all false
set_option maxRecDepth 100000
set_option maxHeartbeats 4000000
namespace W
open PySem L2 WM
/-- a comprehension over a range whose turns draw: each told value has R -/
theorem lc_rangeD {p D : Addr} {g : TG} {tt : TT} {te : TE} {vs : List Nat} {σ : St} {H1 : Hp} {Qd : Hp → Prop} {lo : Int} {n : Nat} (R : V → Prop) (D1 : DrAt H1 p) (hD : H1 D = none) (hz : n < sizeLine)
    (hs : ∀ i H, i < n → DrAt H p → But p H1 H → (∃ l, H D = some (.lst l)) → ∀ (Qy : V → Hp → Prop), (∀ y H', R y → DrAt H' p → But p H H' → Qy y H') →
      g (.int (lo + i)) (wipe σ vs) H fun σ2 H2 => wipe σ2 vs = wipe σ vs ∧ tt σ2 H2 fun b H3 => b = true ∧ te σ2 H3 Qy)
    (hd : ∀ H' ys, ys.length = n → (∀ y ∈ ys, R y) → DrAt H' p → But p H1 H' → H' D = some (.lst ys) → Qd H')
    (mono : ∀ (σ2 : St) (H2 : Hp) (P Q : Bool → Hp → Prop), (∀ b H, P b H → Q b H) → tt σ2 H2 P → tt σ2 H2 Q) (mono2 : ∀ (v : V) (σ2 : St) (H2 : Hp) (P Q : St → Hp → Prop), (∀ s H, P s H → Q s H) → g v σ2 H2 P → g v σ2 H2 Q) :
    ∃ W : Nat → Nat → Hp → Prop, (∃ m, W 0 m (upd H1 D (.lst []))) ∧ ∀ i m H, W i m H →
      ((Itr lo n).stop i H ∧ Qd H) ∨ ((Itr lo n).go i H ∧ ∃ Nx : Hp → Prop, (∀ H', Nx H' → ∃ m', m' < m ∧ W (i + 1) m' H') ∧ ∀ x H', (Itr lo n).yld i H x H' → g x (wipe σ vs) H' fun σ2 H2 => wipe σ2 vs = wipe σ vs ∧ tt σ2 H2 fun b H3 =>
        if b = true then te σ2 H3 fun y H4 => ∃ acc, H4 D = some (.lst acc) ∧ acc.length < sizeLine ∧ Nx (upd H4 D (.lst (acc ++ [y]))) else Nx H3) := by
  have hDp : D ≠ p := D1.ne hD
  refine lc_range (lo := lo) (n := n) (fun i H => i ≤ n ∧ DrAt H p ∧ But p H1 H ∧ ∃ ys : List V, ys.length = i ∧ (∀ y ∈ ys, R y) ∧ H D = some (.lst ys)) ⟨Nat.zero_le _, D1.new hD, But.new hD, [], rfl, (fun y m => by cases m), upd_same⟩ (fun i H hi h => ?_) (fun H h => ?_)
  · obtain ⟨_, dH, bH, ys, hl, hR, hL⟩ := h
    refine mono2 _ _ _ _ _ ?_ (hs i H hi dH bH ⟨_, hL⟩ (fun y H4 => ∃ acc, H4 D = some (.lst acc) ∧ acc.length < sizeLine ∧ (i + 1 ≤ n ∧ DrAt (upd H4 D (.lst (acc ++ [y]))) p ∧ But p H1 (upd H4 D (.lst (acc ++ [y]))) ∧ ∃ ys : List V, ys.length = i + 1 ∧ (∀ y ∈ ys, R y) ∧ (upd H4 D (.lst (acc ++ [y]))) D = some (.lst ys))) ?_)
    · rintro s H2 ⟨e, h2⟩
      refine ⟨e, mono _ _ _ _ ?_ h2⟩
      rintro b H3 ⟨rfl, h3⟩
      rw [if_pos rfl]
      exact h3
    · intro y H' r d' b'
      refine ⟨ys, b' _ _ hL hDp, by omega, hi, d'.set hDp, (bH.trans b').set hD, ys ++ [y], by rw [List.length_append, hl]; rfl, ?_, upd_same⟩
      intro z hz'
      rcases List.mem_append.mp hz' with m | m
      · exact hR z m
      · rw [List.mem_singleton.mp m]; exact r
  · obtain ⟨_, dH, bH, ys, hl, hR, hL⟩ := h
    exact hd H ys hl hR dH bH hL
theorem yes_mono (σ2 : St) (H2 : Hp) (P Q : Bool → Hp → Prop) (h : ∀ b H, P b H → Q b H) (t : tYes σ2 H2 P) : tYes σ2 H2 Q := h _ _ t
theorem name_mono {i : Nat} (v : V) (σ2 : St) (H2 : Hp) (P Q : St → Hp → Prop) (h : ∀ s H, P s H → Q s H) (t : gName i v σ2 H2 P) : gName i v σ2 H2 Q := h _ _ t
end W

set_option Elab.async false
set_option linter.all false
set_option maxRecDepth 100000
set_option maxHeartbeats 4000000
namespace L2
open PySem PySem.Spec PyProof.Rows
/-! sorting tuples of ints and texts -/
def kItem : Key → Int ⊕ List Nat
  | .inl n => .inl n
  | .inr x => .inr x.cps.toList
def Shaped (shape : Nat → Bool) : Nat → List Key → Prop
  | _, [] => True
  | i, .inl _ :: r => shape i = false ∧ Shaped shape (i + 1) r
  | i, .inr _ :: r => shape i = true ∧ Shaped shape (i + 1) r
def kLe (a b : List Key) : Prop := PyProof.Rows.lexLt PyProof.Rows.itemOrd (b.map kItem) (a.map kItem) = false
/-- tuples of keys at addresses -/
def TupsAt (H : Hp) (qs : List Addr) (kss : List (List Key)) : Prop := All2 (fun q ks => H q = some (.tup (ks.map kV))) qs kss
section
variable {X : Cx} {pins : List (Addr × Obj)} {σ : St} {H : Hp} {s : Shared}
end
section
variable {X : Cx}
/-- sorted(xs), xs a list of tuples of ints and texts, all of one shape -/
def rSortedT (K : PySem.W.Frag) (shape : Nat → Bool) : List V → Hp → VK → Prop := fun vs H Q => ∃ (a : Addr) (qs : List Addr) (kss : List (List Key)), vs = [V.ref a] ∧ SqL K H a (qs.map V.ref) ∧ TupsAt H qs kss ∧ (∀ ks ∈ kss, Shaped shape 0 ks ∧ ks ≠ []) ∧
  ∀ (qs' : List Addr) (kss' : List (List Key)) (p : Addr), kss'.Perm kss → kss'.Pairwise kLe → TupsAt H qs' kss' → H p = none → Q (.ref p) (upd H p (.lst (qs'.map V.ref)))
end
/-! walks over a dict's keys by a built-in: the raw dict -/
section
variable {prog : Program} {w : World} {A : Around} {E : Value → Shared → Prop} {s : Shared} {d : Addr} {od : Obj} {es : Array DictEntry} {ep : Nat}
end
section
variable {X : Cx} {pins : List (Addr × Obj)} {σ : St} {H : Hp} {s : Shared}
end
section
variable {X : Cx}
/-- list(d), d a dict with tuples as keys: the keys' own tuples -/
def rListT : List V → Hp → VK → Prop := fun vs H Q => ∃ (d : Addr) (kvs : List (List Key × V)), vs = [V.ref d] ∧ H d = some (.dT kvs) ∧ ∀ (qs : List Addr) (p : Addr), TupsAt H qs (kvs.map (·.1)) → H p = none → Q (.ref p) (upd H p (.lst (qs.map V.ref)))
/-- sorted(d), d a dict with tuples as keys, all of one shape -/
def rSortedDT (shape : Nat → Bool) : List V → Hp → VK → Prop := fun vs H Q => ∃ (d : Addr) (kvs : List (List Key × V)), vs = [V.ref d] ∧ H d = some (.dT kvs) ∧ (∀ kv ∈ kvs, Shaped shape 0 kv.1 ∧ kv.1 ≠ []) ∧
  ∀ (qs' : List Addr) (kss' : List (List Key)) (p : Addr), kss'.Perm (kvs.map (·.1)) → kss'.Pairwise kLe → TupsAt H qs' kss' → H p = none → Q (.ref p) (upd H p (.lst (qs'.map V.ref)))
end
end L2

set_option Elab.async false
set_option linter.all false
set_option maxRecDepth 100000
set_option maxHeartbeats 4000000
namespace L2
open PySem PySem.Spec PyProof.Rows
/-- {k: v}, k a tuple -/
def tDisp1T (tk tv : TE) : TE := fun σ H Q => ∀ p, H p = none → tPairs [(tk, tv)] σ (upd H p (.dT [])) fun ps H2 => ∃ (k : List Key) (b : Addr) (y : V), ps = [(.ref b, y)] ∧ H2 b = some (.tup (k.map kV)) ∧ H2 p = some (.dT []) ∧ Q (.ref p) (upd H2 p (.dT [(k, y)]))
end L2

set_option Elab.async false
set_option linter.all false
set_option maxRecDepth 100000
set_option maxHeartbeats 4000000
namespace WM
open PySem
/-! tables: stands, least costs -/
abbrev Std := Int × Int
/-- the turns that lead from a place to a sign, rising -/
def tts (l : List Nat) (p : Int) (c : Nat) : List Int :=
  ((List.range (2 * l.length - 1)).filter fun i : Nat => decide (l.getD ((p + (1 - (l.length : Int) + (i : Int))) % (l.length : Int)).toNat 0 = c)).map fun i : Nat => 1 - (l.length : Int) + (i : Int)
/-- one stand's ways on, each with its cost -/
def cnd1 (l : List Nat) (s : Int) (x : Std × Int) (t : Int) : Std × Int := (((x.1.1 + t) % (l.length : Int), wb x.1.2 t), x.2 + tc x.1.2 t s)
def cnd (l : List Nat) (c : Nat) (s : Int) (x : Std × Int) : List (Std × Int) := (tts l x.1.1 c).map (cnd1 l s x)
def stp (l : List Nat) (c : Nat) (s : Int) (X : List (Std × Int)) : List (Std × Int) := X.flatMap (cnd l c s)
/-- all plans of a word: where they lead, what they cost -/
def Xs (l : List Nat) (s : Int) (o : List Nat) : List (Std × Int) := o.foldl (fun X c => stp l c s X) [((0, 0), 0)]
/-- the least cost of a stand -/
def Lst (X : List (Std × Int)) (st : Std) (k : Int) : Prop := (st, k) ∈ X ∧ ∀ k', (st, k') ∈ X → k ≤ k'
/-! assoc lists by stands -/
section
variable {β : Type}
def lk (m : List (Std × β)) (st : Std) : Option β := (m.find? fun x => decide (x.1 = st)).map (·.2)
def pt (m : List (Std × β)) (st : Std) (k : β) : List (Std × β) :=
  if (m.any fun x => decide (x.1 = st)) = true then m.map (fun x => if x.1 = st then (x.1, k) else x) else m ++ [(st, k)]
end
/-- m has the least costs of what was gone through -/
structure MinOf (m xs : List (Std × Int)) : Prop where
  nd : (m.map (·.1)).Nodup
  mem : ∀ st k, (st, k) ∈ m ↔ Lst xs st k
/-! rows, sorted -/
def sLt (a b : Std) : Prop := a.1 < b.1 ∨ (a.1 = b.1 ∧ a.2 < b.2)
structure IsRow (X row : List (Std × Int)) : Prop where
  srt : row.Pairwise fun a b => sLt a.1 b.1
  mem : ∀ st k, (st, k) ∈ row ↔ Lst X st k
/-! where plans lead -/
structure InW (n : Nat) (st : Std) : Prop where
  p0 : 0 ≤ st.1
  p1 : st.1 < n
  w0 : -1 ≤ st.2
  w1 : st.2 ≤ 1
def code (st : Std) : Nat := (st.1 * 3 + st.2 + 1).toNat
/-- the table -/
def Rows (l : List Nat) (s : Int) (o : List Nat) (rows : List (List (Std × Int))) : Prop := rows.length = o.length + 1 ∧ ∀ i row, rows[i]? = some row → IsRow (Xs l s (o.take i)) row
end WM

set_option Elab.async false
set_option linter.all false
set_option maxRecDepth 100000
set_option maxHeartbeats 4000000
namespace W
open PySem L2 WM
/-! tables in the heap -/
def key (st : Std) : List Key := [.inl st.1, .inl st.2]
def rowOf (m : List (Std × Int)) (sts : List Std) : List (Std × Int) := sts.map fun st => (st, (lk m st).getD 0)
/-- a row of a table in the heap -/
def Tr3 (H : Hp) (q : Addr) (x : Std × Int) : Prop := H q = some (.tup [.int x.1.1, .int x.1.2, .int x.2])
def RowAt (H : Hp) (a : Addr) (row : List (Std × Int)) : Prop := ∃ qs : List Addr, H a = some (.lst (qs.map V.ref)) ∧ All2 (Tr3 H) qs row
/-- a table in the heap -/
def TabAt (H : Hp) (r : Addr) (rows : List (List (Std × Int))) (as : List Addr) : Prop := H r = some (.lst (as.map V.ref)) ∧ All2 (RowAt H) as rows
/-! as data -/
def d3 (x : Std × Int) : PyData := .tuple [.int x.1.1, .int x.1.2, .int x.2]
def dRow (row : List (Std × Int)) : PyData := .list (row.map d3)
def dTab (rows : List (List (Std × Int))) : PyData := .list (rows.map dRow)
/-- which refusal is due -/
def tsk (l o : List Nat) (s : Int) : Nat := if isWh l = false then 11 else if isW o = false then 12 else if okS s = false then 8 else if o.all (fun c => decide (c ∈ l)) = false then 0 else 99
end W

set_option Elab.async false
set_option linter.all false
set_option maxRecDepth 100000
set_option maxHeartbeats 4000000
namespace W
open PySem L2 WM
/-- the program's dict of least costs -/
def RI (x : Std × Int) (kv : List Key × V) : Prop := kv = (key x.1, .int x.2)
end W

set_option Elab.async false
set_option linter.all false
set_option maxRecDepth 100000
set_option maxHeartbeats 4000000
namespace WM
open PySem
/-! least costs with how many plans have them -/
abbrev Wt := (Std × Int) × Int
/-- how much a stand and a cost weigh -/
def wc (xs : List Wt) (y : Std × Int) : Int := (xs.map fun x => if x.1 = y then x.2 else 0).sum
structure MinC (m : List (Std × (Int × Int))) (xs : List Wt) : Prop where
  nd : (m.map (·.1)).Nodup
  mem : ∀ st k c, (st, (k, c)) ∈ m ↔ Lst (xs.map (·.1)) st k ∧ c = wc xs (st, k)
/-- one sign on, with weights -/
def cndW (l : List Nat) (c : Nat) (s : Int) (x : Std × (Int × Int)) : List Wt := (cnd l c s (x.1, x.2.1)).map fun y => (y, x.2.2)
def stpW (l : List Nat) (c : Nat) (s : Int) (r : List (Std × (Int × Int))) : List Wt := r.flatMap (cndW l c s)
/-- how many plans lead to a stand at a cost -/
def cn (X : List (Std × Int)) (y : Std × Int) : Int := (X.count y : Nat)
/-- a dict of least costs and counts of all plans that were gone through -/
structure IsC (m : List (Std × (Int × Int))) (X : List (Std × Int)) : Prop where
  nd : (m.map (·.1)).Nodup
  mem : ∀ st k c, (st, (k, c)) ∈ m ↔ Lst X st k ∧ c = cn X (st, k)
/-- plans from a place -/
def Xf (l : List Nat) (s : Int) (p : Int) (o : List Nat) : List (Std × Int) := o.foldl (fun X c => stp l c s X) [((p, 0), 0)]
/-! all plans, as lists of turns -/
def Pl (l : List Nat) (o : List Nat) : List (List Int × Int) := o.foldl (fun X c => X.flatMap fun x => (tts l x.2 c).map fun t => (x.1 ++ [t], (x.2 + t) % (l.length : Int))) [([], 0)]
def plX (s : Int) (x : List Int × Int) : Std × Int := ((x.2, (cf s x.1).2), (cf s x.1).1)
end WM

set_option Elab.async false
set_option linter.all false
set_option maxRecDepth 100000
set_option maxHeartbeats 4000000
namespace L2
open PySem WM
section
variable {g : TG} {tb : TS} {D : Ends} {σ : St} {H : Hp}
end
end L2

set_option Elab.async false
set_option linter.all false
set_option maxRecDepth 100000
set_option maxHeartbeats 4000000
namespace W
open PySem L2 WM
/-! plans in the heap -/
def plS (l : List Nat) (c : Nat) (x : List Int × Int) : List (List Int × Int) := (tts l x.2 c).map fun t => (x.1 ++ [t], (x.2 + t) % (l.length : Int))
def PlanAt (H : Hp) (q : Addr) (x : List Int × Int) : Prop := ∃ a, H q = some (.tup [.ref a, .int x.2]) ∧ H a = some (.lst (x.1.map V.int))
theorem small_ok {n : Nat} (h : n ≤ 2985984) : n < sizeLine := by
  have : sizeLine = 16777216 := PySem.sizeLine_eq
  omega
end W

set_option Elab.async false
set_option linter.all false
set_option maxRecDepth 100000
set_option maxHeartbeats 4000000
namespace W
open PySem L2 WM
/-! the law's dicts of least costs and counts -/
def RC (H : Hp) (x : Std × (Int × Int)) (kv : List Key × V) : Prop := kv.1 = key x.1 ∧ ∃ q, kv.2 = .ref q ∧ H q = some (.tup [.int x.2.1, .int x.2.2])
def DicAt (H : Hp) (d : Addr) (m : List (Std × (Int × Int))) : Prop := ∃ kvs, H d = some (.dT kvs) ∧ All2 (RC H) m kvs
/-- rows as the law reckons them -/
def RowsC (l : List Nat) (s p : Int) (o : List Nat) (ms : List (List (Std × (Int × Int)))) : Prop := ms.length = o.length + 1 ∧ ∀ i m, ms[i]? = some m → IsC m (Xf l s p (o.take i))
end W

set_option Elab.async false
set_option linter.all false
set_option maxRecDepth 100000
set_option maxHeartbeats 4000000
namespace L2
open PySem WM
section
variable {K : PySem.W.Frag} {a D : Addr} {g : TG} {tt : TT} {te : TE} {vs : List Nat} {σ : St} {H1 : Hp} {Qd : Hp → Prop} {α : Type}
end
end L2
namespace W
open PySem L2 WM
end W

set_option Elab.async false
set_option linter.all false
set_option maxRecDepth 100000
set_option maxHeartbeats 4000000
namespace L2
open PySem PySem.Spec PyProof.Rows
def NewD (e : HO) : Prop := e = .dT [] ∨ e = .dK []
section
variable {X : Cx}
def tDc (e0 : HO) (wi : TI) (g : TG) (tt : TT) (tk te : TE) (vs : List Nat) : TE := fun σ H Q => wi σ H fun J H1 => ∀ D, H1 D = none → ∃ W : Nat → Nat → Hp → Prop, (∃ m, W 0 m (upd H1 D e0)) ∧ ∀ i m H, W i m H →
  (J.stop i H ∧ Q (.ref D) H) ∨ (J.go i H ∧ ∃ Nx : Hp → Prop, (∀ H', Nx H' → ∃ m', m' < m ∧ W (i + 1) m' H') ∧ ∀ x H', J.yld i H x H' → g x (wipe σ vs) H' fun σ2 H2 => wipe σ2 vs = wipe σ vs ∧ tt σ2 H2 fun b H3 =>
    if b = true then tk σ2 H3 fun x H4 => te σ2 H4 fun y H5 => ∃ H6, DPut H5 D x y H6 ∧ Nx H6 else Nx H3)
end
section
variable {prog : Program} {w : World} {A : Around} {R : Result → Shared → Prop} {s : Shared} {kx elt t0 i0 t1 i1 : Expr} {ifs0 ifs1 : List Expr} {scope : Scope} {pos : Pos} {it : Value} {acc : Addr} {env : Env}
end

section
variable {X : Cx}
def tDc2 (e0 : HO) (wi : TI) (g : TG) (tt : TT) (wi1 : TI) (g1 : TG) (tt1 : TT) (tk te : TE) (vs vs1 : List Nat) : TE := fun σ H Q => wi σ H fun J H1 => ∀ D, H1 D = none → ∃ W : Nat → Nat → Hp → Prop, (∃ m, W 0 m (upd H1 D e0)) ∧ ∀ i m H, W i m H →
  (J.stop i H ∧ Q (.ref D) H) ∨ (J.go i H ∧ ∃ Nx : Hp → Prop, (∀ H', Nx H' → ∃ m', m' < m ∧ W (i + 1) m' H') ∧ ∀ x H', J.yld i H x H' → g x (wipe σ vs) H' fun σ2 H2 => wipe σ2 vs = wipe σ vs ∧ tt σ2 H2 fun b H3 =>
    if b = true then wi1 σ2 H3 fun J1 H4 => ∃ W1 : Nat → Nat → Hp → Prop, (∃ m, W1 0 m H4) ∧ ∀ j k H, W1 j k H →
      (J1.stop j H ∧ Nx H) ∨ (J1.go j H ∧ ∃ Nx1 : Hp → Prop, (∀ H', Nx1 H' → ∃ k', k' < k ∧ W1 (j + 1) k' H') ∧ ∀ x H', J1.yld j H x H' → g1 x (wipe σ2 vs1) H' fun σ3 H5 => wipe σ3 vs1 = wipe σ2 vs1 ∧ tt1 σ3 H5 fun b H6 =>
        if b = true then tk σ3 H6 fun x H7 => te σ3 H7 fun y H8 => ∃ H9, DPut H8 D x y H9 ∧ Nx1 H9 else Nx1 H6)
    else Nx H3)
end
end L2

set_option Elab.async false
set_option linter.all false
set_option maxRecDepth 100000
set_option maxHeartbeats 4000000
namespace L2
open PySem WM
/-! walks of comprehensions, whatever a turn does -/
section
variable {K : PySem.W.Frag} {a : Addr} {H0 : Hp} {Qd : Hp → Prop} {Step : (Hp → Prop) → V → Hp → Prop}
end
/-! tuples of the module -/
def GTup (K : PySem.W.Frag) (mg : Str → Option Value) (x : Str) (vs : List V) : Prop := ∃ a, mg x = some (.ref a) ∧ ∀ H, SqT K H a vs
def tGRef (K : PySem.W.Frag) (vs : List V) : TE := fun _ H Q => ∀ a, (∀ H, SqT K H a vs) → Q (.ref a) H
/-! d[y], y a tuple that is read in any way -/
def tDGetS (K : PySem.W.Frag) (td ty : TE) : TE := fun σ H Q => td σ H fun x H1 => ty σ H1 fun y H2 => ∃ (a b : Addr) (kvs : List (List Key × V)) (k : List Key) (v : V), x = .ref a ∧ y = .ref b ∧ Rd H2 a (.dT kvs) ∧ SqT K H2 b (k.map kV) ∧ valV kvs k = some v ∧ Q v H2
end L2

set_option Elab.async false
set_option linter.all false
set_option maxRecDepth 100000
set_option maxHeartbeats 4000000
namespace L2
open PySem PySem.Spec PyProof.Rows
section
variable {X : Cx} {tg : Expr}
/-- list(range(n)) -/
def tListRange (ta : TA) : TE := fun σ H Q => ta σ H fun vs H1 => ∃ n : Nat, vs = [.int (n : Int)] ∧ (n : Int) < 2 ^ 62 ∧ n ≤ 1000 ∧ ∀ p, H1 p = none → Q (.ref p) (upd H1 p (.lst ((List.range n).map fun i : Nat => V.int i)))
end
/-! reversed(range(n)) -/
section
variable {prog : Program} {w : World} {A : Around} {E : Value → Shared → Prop} {s : Shared}
def rrObj (n : Nat) : Obj := { cls := .type "range_iterator", data := .fields #[rawInt (0 + ((n : Int) - 1) * 1), rawInt (n : Int), rawInt (-1)] }
end
def iRevR (ta : TA) : TI := fun σ H R => ta σ H fun vs H1 => ∃ n : Nat, vs = [.int (n : Int)] ∧ (n : Int) < 2 ^ 62 ∧ R (Itc ((n : Int) - 1) (-1) n) H1
section
variable {X : Cx} {tg : Expr}
/-! xs[::-1] -/
def tSlRev (K : PySem.W.Frag) (te : TE) (ts : TO) : TE := fun σ H Q => te σ H fun x H1 => ts σ H1 fun st H2 => st = some (-1) ∧ ∃ (a : Addr) (xs : List V), x = .ref a ∧ SqL K H2 a xs ∧ ∀ p, H2 p = none → Q (.ref p) (upd H2 p (.lst xs.reverse))
end
end L2

set_option Elab.async false
set_option linter.all false
set_option maxRecDepth 100000
set_option maxHeartbeats 4000000
namespace WM
open PySem
/-! all plans from a stand, least costs, how many, the first -/
def bh (l : List Nat) (st : Std) (t : Int) : Std := ((st.1 + t) % (l.length : Int), wb st.2 t)
def PF (l : List Nat) : List Nat → Int → List (List Int)
  | [], _ => [[]]
  | c :: o, p => (tts l p c).flatMap fun t => (PF l o ((p + t) % (l.length : Int))).map (t :: ·)
def cw (s : Int) : Int → List Int → Int
  | _, [] => 0
  | w, t :: ts => tc w t s + cw s (wb w t) ts
def cs (l : List Nat) (s : Int) (o : List Nat) (st : Std) : List Int := (PF l o st.1).map (cw s st.2)
/-- the least of a list, and how often it is there -/
structure Nd (xs : List Int) (x : Int × Int) : Prop where
  mem : x.1 ∈ xs
  le : ∀ y ∈ xs, x.1 ≤ y
  cnt : x.2 = (xs.count x.1 : Nat)
/-- what the rest of a word needs from a stand -/
noncomputable def nd (l : List Nat) (s : Int) (o : List Nat) (st : Std) : Int × Int := open Classical in if h : ∃ x, Nd (cs l s o st) x then h.choose else (0, 0)
/-- the turns by which nothing is lost -/
noncomputable def fit (l : List Nat) (s : Int) (c : Nat) (o : List Nat) (st : Std) : List Int := (tts l st.1 c).filter fun t => decide (tc st.2 t s + (nd l s o (bh l st t)).1 = (nd l s (c :: o) st).1)
noncomputable def lp (l : List Nat) (s : Int) : List Nat → Std → List Int
  | [], _ => []
  | c :: o, st => (fit l s c o st).headD 0 :: lp l s o (bh l st ((fit l s c o st).headD 0))
/-! plans are told in order -/
end WM

set_option Elab.async false
set_option linter.all false
set_option maxRecDepth 100000
set_option maxHeartbeats 4000000
namespace L2
open PySem WM
section
variable {D : Addr} {g : TG} {tt : TT} {te : TE} {vs : List Nat} {σ : St} {H1 : Hp} {Qd : Hp → Prop}
end
end L2
namespace WM
open PySem
theorem eq_sgn (a c : Nat) : decide (L2.V.str (txt [a]) = L2.V.str (txt [c])) = decide (a = c) := decide_eq_decide.mpr ⟨fun h => by
  have := txt_inj (l := [a]) (m := [c]) (L2.V.str.inj h)
  injection this, fun h => by rw [h]⟩
/-- the places of a sign -/
def plc (l : List Nat) (c : Nat) : List Nat := (List.range l.length).filter fun j => decide (l.getD j 0 = c)
/-- the places where the head may stand with so many signs struck -/
def pla (l o : List Nat) (i : Nat) : List Nat := if i = 0 then List.range l.length else plc l (o.getD (i - 1) 0)
/-- what a dict of needs tells -/
def NeedRow (l : List Nat) (s : Int) (o : List Nat) (i : Nat) (m : List (Std × (Int × Int))) : Prop := ∀ j ∈ pla l o i, ∀ w : Int, -1 ≤ w → w ≤ 1 → lk m ((j : Int), w) = some (nd l s (o.drop i) ((j : Int), w))
end WM
namespace W
open PySem L2 WM
/-- a pair of ints in the heap -/
def Tr2 (H : Hp) (q : Addr) (x : Int × Int) : Prop := H q = some (.tup [.int x.1, .int x.2])
end W
namespace L2
open PySem WM
end L2
namespace W
open PySem L2 WM
end W
namespace WM
end WM
namespace W
open PySem L2 WM
end W
namespace L2
end L2
namespace WM
end WM
namespace L2
open PySem WM
section
variable {g : TG} {tb : TS} {D : Ends} {σ : St} {H : Hp}
end
end L2
namespace L2
open PySem
end L2
namespace W
open PySem L2 WM
end W
namespace W
end W

set_option Elab.async false
set_option linter.all false
set_option maxRecDepth 100000
set_option maxHeartbeats 4000000
namespace L2
open PySem PySem.Spec PyProof.Rows
section
variable {prog : Program} {w : World} {A : Around} {E : Value → Shared → Prop} {s : Shared}
end
section
variable {X : Cx} {pins : List (Addr × Obj)} {σ : St} {H : Hp} {s : Shared} {d : Addr} {o : Obj}
end
/-- the values of the locked dict at d, tuples as keys -/
def Itdt (d : Addr) (o : Obj) (kvs : List (List Key × V)) : It :=
  ⟨fun i H => H d = some (.frz o (.dT kvs)) ∧ i < kvs.length, fun i H x H' => H' = H ∧ ∃ k, kvs[i]? = some (k, x), fun i H => H d = some (.frz o (.dT kvs)) ∧ kvs.length ≤ i⟩
section
variable {P : Program} {w : World} {K : PySem.W.Frag} {tg : Expr} {d : Addr} {o : Obj} {es : Array DictEntry} {ep : Nat}
end
/-- d.values(), d locked, tuples as keys -/
def iValsT (td : TE) : TI := fun σ H R => td σ H fun x H1 => ∃ d o kvs, x = .ref d ∧ H1 d = some (.frz o (.dT kvs)) ∧ R (Itdt d o kvs) H1
section
variable {X : Cx} {tg e : Expr} {td : TE} {apos cpos : Pos}
end
section
variable {D : Addr} {g : TG} {tt : TT} {te : TE} {vs : List Nat} {σ : St} {H1 : Hp} {Qd : Hp → Prop} {α : Type}
end
end L2

set_option Elab.async false
set_option linter.all false
set_option maxRecDepth 100000
set_option maxHeartbeats 4000000
namespace L2
open PySem PySem.Spec PyProof.Rows
structure ApartD (z TI TO i1 i2 : Addr) (fp1 fp2 : List Addr) : Prop where
  TIz : TI ≠ z
  TOz : TO ≠ z
  i1z : i1 ≠ z
  i2z : i2 ≠ z
  TITO : TI ≠ TO
  TIi1 : TI ≠ i1
  TIi2 : TI ≠ i2
  TOi1 : TO ≠ i1
  TOi2 : TO ≠ i2
  i12 : i1 ≠ i2
  f1 : ∀ b ∈ fp1, b ≠ z ∧ b ≠ TO ∧ b ≠ i2
  f2 : ∀ b ∈ fp2, b ≠ z ∧ b ≠ TO ∧ b ≠ i1
section
variable {prog : Program} {w : World} {A : Around} {E : Value → Shared → Prop} {s : Shared}
end
abbrev zG1 (h : Heap) (o1 : Obj) : Heap := h.push o1
abbrev zG2 (h : Heap) (o1 o2 : Obj) : Heap := (zG1 h o1).push o2
abbrev zG3 (h : Heap) (o1 o2 : Obj) : Heap := (zG2 h o1 o2).push { cls := .type "tuple", data := .seq #[.ref h.objs.size, .ref (zG1 h o1).objs.size] }
abbrev zG4 (h : Heap) (o1 o2 : Obj) : Heap := (zG3 h o1 o2).push { cls := .type "tuple", data := .seq #[.none, .none] }
abbrev zG5 (h : Heap) (o1 o2 : Obj) : Heap := (zG4 h o1 o2).push { cls := .type "zip", data := .fields #[.none, .bool false, .bool false, .ref (zG2 h o1 o2).objs.size, .ref (zG3 h o1 o2).objs.size] }
/-- iter(v) is a new object -/
def IterNew (prog : Program) (w : World) (v : Value) (o : Obj) (s : Shared) : Prop := ∀ {A : Around} {Q : Value → Shared → Prop} {E : Value → Shared → Prop}, Q (.ref s.heap.objs.size) { s with heap := s.heap.push o } → wpAny (model prog w) A (pyIter v) Q E s
section
variable {prog : Program} {w : World} {A : Around} {E : Value → Shared → Prop} {s : Shared}
end
def StrTy (ty : String) : Prop := ty = "str_ascii_iterator" ∨ ty = "str_iterator"
/-- zip, LS -/
def ItzLS (K : PySem.W.Frag) (a1 : Addr) (y2 : Str) : It :=
  ⟨fun i H => (∃ (xs : List V) (x : V), SqL K H a1 xs ∧ xs[i]? = some x) ∧ i < y2.cps.size,
    fun i H v H' => ∃ T x y, v = .ref T ∧ H T = none ∧ H' = upd H T (.tup [x, y]) ∧ (∀ xs, SqL K H a1 xs → xs[i]? = some x) ∧ (∃ c, y2.cps[i]? = some c ∧ y = .str ⟨#[c]⟩),
    fun i H => (∃ xs : List V, SqL K H a1 xs ∧ xs.length = i) ∨ ((∃ (xs : List V) (x : V), SqL K H a1 xs ∧ xs[i]? = some x) ∧ (i = y2.cps.size))⟩
/-- zip, SS -/
def ItzSS (y1 : Str) (y2 : Str) : It :=
  ⟨fun i H => i < y1.cps.size ∧ i < y2.cps.size,
    fun i H v H' => ∃ T x y, v = .ref T ∧ H T = none ∧ H' = upd H T (.tup [x, y]) ∧ (∃ c, y1.cps[i]? = some c ∧ x = .str ⟨#[c]⟩) ∧ (∃ c, y2.cps[i]? = some c ∧ y = .str ⟨#[c]⟩),
    fun i H => (i = y1.cps.size) ∨ (i < y1.cps.size ∧ (i = y2.cps.size))⟩
section
variable {X : Cx} {e e2 : Expr} {ta : TA} {p pos tpos : Pos} {elts : List Expr} {kk : Nat}
def iZipLS (K : PySem.W.Frag) (ta : TA) : TI := fun σ H R => ta σ H fun vs H1 => ∃ (a : Addr) (xs : List V) (y : Str), vs = [.ref a, .str y] ∧ SqL K H1 a xs ∧ R (ItzLS K a y) H1
def iZipSS (ta : TA) : TI := fun σ H R => ta σ H fun vs H1 => ∃ x y : Str, vs = [.str x, .str y] ∧ R (ItzSS x y) H1
end
section
variable {g : TG} {tb : TS} {D : Ends} {σ : St} {H : Hp}
open WM
end
end L2

set_option Elab.async false
set_option linter.all false
set_option maxRecDepth 100000
set_option maxHeartbeats 4000000
namespace WM
open PySem
/-- the place behind some turns -/
def atP (l : List Nat) (p : Int) (ts : List Int) : Int := ts.foldl (fun p t => (p + t) % (l.length : Int)) p
end WM
namespace W
open PySem L2 WM
variable {K : PySem.W.Frag}
theorem inV_bools {α : Type} (xs : List α) : inV (.bl false) (xs.map fun _ => V.bl true) = false := by
  unfold inV
  rw [List.any_map]
  induction xs with
  | nil => rfl
  | cons x xs ih => rw [List.any_cons, ih]; rfl
end W

set_option Elab.async false
set_option linter.all false
set_option maxRecDepth 100000
set_option maxHeartbeats 4000000
namespace L2
open PySem PySem.Spec PyProof.Rows
section
variable {X : Cx}
/-- list.count, flat items -/
def rCountL (K : PySem.W.Frag) : V → List V → Hp → VK → Prop := fun x xs H Q => ∃ (a : Addr) (ys : List V) (y : V), x = V.ref a ∧ xs = [y] ∧ SqL K H a ys ∧ flatV y = true ∧ ys.all flatV = true ∧ Q (.int (ys.countP fun z => eqV z y : Nat)) H
end
end L2

set_option Elab.async false
set_option linter.all false
set_option maxRecDepth 100000
set_option maxHeartbeats 4000000
namespace L2
open PySem PySem.Spec PyProof.Rows
section
open PySem.SeqAt
open PySem.AutoSeq1 (wpAny_loadPart')
open PySem.MeetsSeq PySem.MeetsSeq2 PySem.MeetsSeq3
end
section
variable {X : Cx}
/-- xs < ys of lists of ints, as long -/
def rLtL (K : PySem.W.Frag) : R2 := fun x y H Q => ∃ (a b : Addr) (ns ms : List Int), x = .ref a ∧ y = .ref b ∧ SqL K H a (ns.map V.int) ∧ SqL K H b (ms.map V.int) ∧ ns.length = ms.length ∧ Q (.bl (HT.lexLt ns ms)) H
end
end L2

set_option Elab.async false
set_option linter.all false
set_option maxRecDepth 100000
set_option maxHeartbeats 4000000
namespace W
open PySem L2 WM
theorem dInts_eqv (ts : List Int) : PyData.eqv (dInts ts) (dInts ts) = true := (Sh.ints ts).eqv
end W
namespace W
open PySem L2 WM
end W
namespace WM
end WM
namespace W
open PySem L2 WM
/-- a pair of numbers, as data -/
def d2 (a b : Int) : PyData := .tuple [.int a, .int b]
end W

set_option Elab.async false
set_option linter.all false
set_option maxRecDepth 100000
set_option maxHeartbeats 4000000
namespace WM
/-- what is left, by stands -/
def RestRow (l : List Nat) (s : Int) (o : List Nat) (i : Nat) (m : List (Std × Int)) : Prop := ∀ j ∈ pla l o i, ∀ w : Int, -1 ≤ w → w ≤ 1 → lk m ((j : Int), w) = some (nd l s (o.drop i) ((j : Int), w)).1
end WM
namespace W
open PySem L2 WM
/-- a dict of numbers, by stands -/
def DicI (H : Hp) (d : Addr) (m : List (Std × Int)) : Prop := ∃ kvs, H d = some (.dT kvs) ∧ All2 RI m kvs
end W

set_option Elab.async false
set_option linter.all false
set_option maxRecDepth 100000
set_option maxHeartbeats 4000000
namespace PySem
open Sem (wp)
def CmpSt (prog : Program) (w : World) (A : Around) (op : CmpOp) (P : Nat → Value → Prop) (St : Nat → Heap → Prop) (bt : Nat → Nat → Bool) : Prop :=
  ∀ i j k vi vj (s : Shared) (Q : Value → Shared → Prop) (E : Value → Shared → Prop), St k s.heap → P i vi → P j vj → Q (.bool (bt i j)) s → wpAny (model prog w) A (richCompare op vi vj) Q E s
section
variable {prog : Program} {w : World} {A : Around} {R : Result → Shared → Prop} {I : Addr} {fp wr : List Addr} {n : Nat} {P : Nat → Value → Prop} {St : Nat → Heap → Prop}
end

section
variable {prog : Program} {w : World} {A : Around} {E : Value → Shared → Prop} {s : Shared}

end


end PySem
namespace L2
open PySem PySem.Spec PyProof.Rows
/-- what the heap has of a list of tuples of ints -/
def TupsHp (h : Heap) (its : List Value) (xs : List (List Int)) : Prop := ∀ (i : Nat) (v : Value), its[i]? = some v → ∃ b items, v = .ref b ∧ IsTup h b items ∧ IntsAre items.toList (xs.getD i [])
section
variable {X : Cx}
/-- min of a list of pairs -/
def rMinT (K : PySem.W.Frag) : List V → Hp → VK → Prop := fun vs H Q => ∃ (a : Addr) (qs : List Addr) (xs : List (Int × Int)), vs = [V.ref a] ∧ SqL K H a (qs.map V.ref) ∧ All2 (fun q (x : Int × Int) => H q = some (.tup [.int x.1, .int x.2])) qs xs ∧ 0 < xs.length ∧ ∀ q x, x ∈ xs → H q = some (.tup [.int x.1, .int x.2]) → (∀ y ∈ xs, x.1 < y.1 ∨ x.1 = y.1 ∧ x.2 ≤ y.2) → Q (.ref q) H
end
end L2

set_option Elab.async false
set_option linter.all false
set_option maxRecDepth 100000
set_option maxHeartbeats 4000000
namespace WM
/-- a wheel begun elsewhere -/
def rot (l : List Nat) (p : Nat) : List Nat := l.drop p ++ l.take p
end WM
namespace W
open PySem L2 WM
end W

set_option Elab.async false
set_option linter.all false
set_option maxRecDepth 100000
set_option maxHeartbeats 4000000
namespace WM
/-- a stand's number is let by -/
def hoT (l : List Nat) (s : Int) (c : Nat) (beh : List (Std × Int)) (x : Std × Int) : Bool := (tts l x.1.1 c).all fun t => decide ((lk beh (bh l x.1 t)).getD 0 ≤ x.2 + tc x.1.2 t s)
def ho (l : List Nat) (s : Int) (c : Nat) (row beh : List (Std × Int)) : Bool := row.all (hoT l s c beh)
def sto (row : List (Std × Int)) : List Std := row.map (·.1)
def firstN (pap : List (List (Std × Int))) : Int := (((pap.getD 0 []).getD 0 ((0, 0), 0)).2)
/-- a paper that is let by -/
def lb (l : List Nat) (s : Int) (o : List Nat) (rows pap : List (List (Std × Int))) : Bool :=
  decide (pap.map sto = rows.map sto) && (decide (firstN pap ≤ 0) && o.zipIdx.all fun y => ho l s y.1 (pap.getD y.2 []) (pap.getD (y.2 + 1) []))
end WM
namespace W
open PySem L2 WM
def dSt (x : Std) : PyData := d2 x.1 x.2
def dSto (xs : List Std) : PyData := .list (xs.map dSt)
def dStos (xs : List (List Std)) : PyData := .list (xs.map dSto)
/-- a list of stands in the heap -/
def StoAt (H : Hp) (a : Addr) (sts : List Std) : Prop := ∃ qs : List Addr, H a = some (.lst (qs.map V.ref)) ∧ All2 (fun q (st : Std) => H q = some (.tup [.int st.1, .int st.2])) qs sts
end W

set_option Elab.async false
set_option linter.all false
set_option maxRecDepth 100000
set_option maxHeartbeats 4000000
namespace L2
open PySem PySem.Spec PyProof.Rows
/-- a call whose answer is let fall, within try -/
def qDrop (te : TEx) : TSx := fun D R σ H => te σ H (fun _ H1 => D.nx σ H1) R
end L2

set_option Elab.async false
set_option linter.all false
set_option maxRecDepth 100000
set_option maxHeartbeats 4000000
namespace L2
open PySem PySem.Spec PyProof.Rows
end L2
namespace WM
def up1 (r : List (Std × Int)) : List (Std × Int) := r.map fun x => (x.1, x.2 + 1)
end WM
namespace W
open PySem L2 WM
end W

set_option Elab.async false
set_option linter.all false
set_option maxRecDepth 100000
set_option maxHeartbeats 4000000
namespace WM
/-! a wheel in the glass -/
def gls (l : List Nat) : List Nat := l.getD 0 0 :: (l.drop 1).reverse
/-- the place in the glass -/
def ng (l : List Nat) (p : Int) : Int := ((l.length : Int) - p) % (l.length : Int)
/-! stands in the glass -/
def mir (l : List Nat) (st : Std) : Std := (ng l st.1, -st.2)
end WM

set_option Elab.async false
set_option linter.all false
set_option maxRecDepth 100000
set_option maxHeartbeats 4000000
namespace WM
/-! more slack -/
/-! less of the word -/
/-! each sign twice -/
def dbl (o : List Nat) : List Nat := o.flatMap fun c => [c, c]
end WM

set_option Elab.async false
set_option linter.all false
set_option maxRecDepth 100000
set_option maxHeartbeats 4000000
namespace W
open PySem L2 WM
def key3 (x : Std × Int) : List Key := [.inl x.1.1, .inl x.1.2, .inl x.2]
end W

set_option Elab.async false
set_option linter.all false
set_option maxRecDepth 100000
set_option maxHeartbeats 4000000
namespace L2
open PySem PySem.Spec PyProof.Rows
section
variable {prog : Program} {w : World} {A : Around} {E : Value → Shared → Prop} {s : Shared}
end
section
variable {X : Cx}
/-- xs[a:c] = ys, at a list -/
def rSetSl : V → Option Int → Option Int → V → Hp → (Hp → Prop) → Prop := fun o lo hi v H Q => ∃ (l b : Addr) (xs ys : List V) (a : Nat) (c : Int), o = .ref l ∧ v = .ref b ∧ lo = some (a : Int) ∧ hi = some c ∧ H l = some (.lst xs) ∧ H b = some (.lst ys) ∧ l ≠ b ∧ a ≤ xs.length ∧ (a : Int) ≤ c ∧ xs.length + ys.length ≤ sizeLine ∧ Q (upd H l (.lst (xs.take a ++ ys ++ xs.drop (min c.toNat xs.length))))
def gSubSl (to : TE) (tl th : TO) : TG := fun v σ H Q => to σ H fun o H1 => tl σ H1 fun lo H2 => th σ H2 fun hi H3 => rSetSl o lo hi v H3 fun H4 => Q σ H4
def rInsert : V → List V → Hp → VK → Prop := fun x vs H Q => ∃ (l : Addr) (xs : List V) (i : Nat) (y : V), x = .ref l ∧ vs = [.int (i : Int), y] ∧ H l = some (.lst xs) ∧ i ≤ xs.length ∧ xs.length < sizeLine ∧ Q .non (upd H l (.lst (xs.take i ++ [y] ++ xs.drop i)))
end
end L2

set_option Elab.async false
set_option linter.all false
set_option maxRecDepth 100000
set_option maxHeartbeats 4000000
namespace W
open PySem L2 WM
end W

set_option Elab.async false
set_option linter.all false
set_option maxRecDepth 100000
set_option maxHeartbeats 4000000
namespace L2
open PySem
def rListOf (K : PySem.W.Frag) : List V → Hp → VK → Prop := fun xs H Q => ∃ p ys, xs = [.ref p] ∧ (SqL K H p ys ∨ SqT K H p ys) ∧ ∀ l, H l = none → Q (.ref l) (upd H l (.lst ys))
end L2
namespace W
open PySem L2 WM
theorem cutV_from (xs : List V) {k : Nat} (h : k ≤ xs.length) : cutV xs (some (k : Int)) none = xs.drop k := by
  unfold cutV
  rw [HT.sIx_none, HT.sIx_nat, Nat.min_eq_left h]
  exact List.take_of_length_le (by rw [List.length_drop]; exact Nat.le_refl _)
end W

set_option Elab.async false
set_option linter.all false
set_option maxRecDepth 100000
set_option maxHeartbeats 4000000
namespace WM
/-- what slips add ahead of strike j -/
def sAt (sl : List (Int × Int)) (j : Int) : Int := ((sl.filter fun x => decide (x.1 = j)).map (·.2)).sum
/-- the turns by which the head really goes -/
def slt (ts : List Int) (sl : List (Int × Int)) : List Int := (List.range ts.length).map fun i => ts.getD i 0 + sAt sl (i : Int)
end WM
namespace L2
end L2
namespace W
open PySem L2 WM
/-- a list of pairs of ints in the heap -/
def PrAt (H : Hp) (a : Addr) (sl : List (Int × Int)) (qs : List Addr) : Prop := H a = some (.lst (qs.map V.ref)) ∧ All2 (Tr2 H) qs sl
def dPr (sl : List (Int × Int)) : PyData := .list (sl.map fun x => d2 x.1 x.2)
end W

set_option Elab.async false
set_option linter.all false
set_option maxRecDepth 100000
set_option maxHeartbeats 4000000
namespace L2
open PySem PyProof.Rows
/-! a set of texts: how its table keeps its marks -/
theorem tab_new (t : SetTable) (es : Array (Int × Value)) (h : Int) (x : Value) : (layNew t es h x).2.1.led = t.led ∧ (t.plain = false → (layNew t es h x).2.1.plain = false) := by
  unfold layNew
  split
  · dsimp only
    unfold SetTable.orStandIn
    split
    · exact ⟨rfl, fun e => e⟩
    · exact ⟨rfl, fun _ => rfl⟩
  · exact ⟨rfl, fun _ => rfl⟩
theorem tab_laid {m f mv : Nat} {l p : Bool} {hs : Array Int} {t : SetTable} {o : Array Nat} (h : SetTable.laid m f mv l p hs = some (t, o)) : t.led = l ∧ t.plain = p := by
  unfold SetTable.laid at h
  cases e : SetTable.layClean m hs with
  | none => rw [e] at h; cases h
  | some ow =>
    rw [e] at h
    cases h
    exact ⟨rfl, rfl⟩
theorem tab_all (t : SetTable) (es : Array (Int × Value)) (n : Nat) : (relayAll t es n).2.1.led = t.led ∧ (t.plain = false → (relayAll t es n).2.1.plain = false) := by
  unfold relayAll
  split
  · rename_i t' o e
    obtain ⟨h1, h2⟩ := tab_laid e
    dsimp only
    split
    · exact ⟨h1, fun z => h2.trans z⟩
    · exact ⟨rfl, fun _ => rfl⟩
  · exact ⟨rfl, fun _ => rfl⟩
/-- the values of a list of entries are the texts -/
theorem strs_map_perm {es es' : List (Int × Value)} (p : es'.Perm es) : ∀ {xs : List Str}, StrsAre (es.map (·.2)) xs → ∃ xs', xs'.Perm xs ∧ StrsAre (es'.map (·.2)) xs' := by
  induction p with
  | nil => intro xs h; exact ⟨xs, .refl _, h⟩
  | cons e p ih =>
    intro xs h
    rw [List.map_cons] at h
    generalize hv : e.2 = v at h
    cases h with
    | cons y t hr =>
      obtain ⟨xs', q, h'⟩ := ih hr
      refine ⟨y :: xs', q.cons y, ?_⟩
      rw [List.map_cons, hv]
      exact .cons y t h'
  | swap a b l =>
    intro xs h
    rw [List.map_cons, List.map_cons] at h
    generalize ha : a.2 = va at h
    generalize hb : b.2 = vb at h
    cases h with
    | cons y t hr =>
      cases hr with
      | cons y' t' hr =>
        refine ⟨_, List.Perm.swap _ _ _, ?_⟩
        rw [List.map_cons, List.map_cons, ha, hb]
        exact .cons _ _ (.cons _ _ hr)
  | trans p q ihp ihq =>
    intro xs h
    obtain ⟨x1, q1, h1⟩ := ihq h
    obtain ⟨x2, q2, h2⟩ := ihp h1
    exact ⟨x2, q2.trans q1, h2⟩
theorem strs_len : ∀ {vs : List Value} {xs : List Str}, StrsAre vs xs → vs.length = xs.length
  | _, _, .nil => rfl
  | _, _, .cons y t h => by rw [List.length_cons, List.length_cons, strs_len h]
theorem strs_snoc (y : Str) (t : Tok) : ∀ {vs : List Value} {xs : List Str}, StrsAre vs xs → StrsAre (vs ++ [.str y t]) (xs ++ [y])
  | _, _, .nil => .cons y t .nil
  | _, _, .cons z u h => .cons z u (strs_snoc y t h)
section
variable {prog : Program} {w : World} {A : Around} {E : Value → Shared → Prop} {s : Shared}
/-- the object of a set of texts -/
structure TxEs (prog : Program) (w : World) (es : Array (Int × Value)) (t : SetTable) (xs : List Str) (led : Bool) : Prop where
  el : ElemsOf (PySem.strKind prog w) es.toList
  st : StrsAre (es.toList.map (·.2)) xs
  sm : es.size < scanBound
  ft : t.fits es.size = true
  ld : t.led = led
  pl : es.size = 0 ∨ t.plain = false
def setObj (es : Array (Int × Value)) (ep : Nat) (t : SetTable) : Obj := { cls := .type "set", dict := none, data := .set es ep t }
def TxSet (prog : Program) (w : World) (h : Heap) (a : Addr) (xs : List Str) (led : Bool) : Prop := ∃ es ep t, h.get? a = some (setObj es ep t) ∧ TxEs prog w es t xs led
theorem TxEs.len {es : Array (Int × Value)} {t : SetTable} {xs : List Str} {led : Bool} (h : TxEs prog w es t xs led) : es.size = xs.length := by
  rw [← strs_len h.st, List.length_map, Array.length_toList]
theorem is_str {k : Str} {v : Value} (h : (PySem.strKind prog w).is k v = true) : ∃ t, v = .str k t := by
  cases v <;> simp [PySem.strKind, Value.isStrOf] at h
  exact ⟨_, by rw [h]⟩
theorem strs_find (x : Str) : ∀ {es : List (Int × Value)} {xs : List Str}, StrsAre (es.map (·.2)) xs → ((es.findIdx? fun e => (PySem.strKind prog w).is x e.2) = none ↔ x ∉ xs)
  | [], _, h => by cases h; simp
  | e :: es, _, h => by
    rw [List.map_cons] at h
    generalize hv : e.2 = v at h
    cases h with
    | cons y t hr =>
      have ih := strs_find x hr
      rw [List.findIdx?_cons, hv]
      by_cases e1 : x = y
      · subst e1
        rw [if_pos (strKind_is prog w x t)]
        simp
      · have : ¬ (PySem.strKind prog w).is x (.str y t) = true := fun z => by
          obtain ⟨t', e'⟩ := is_str z
          cases e'
          exact e1 rfl
        rw [if_neg this, Option.map_eq_none_iff, ih]
        simp [e1]
theorem setObj_put {es es' : Array (Int × Value)} {ep : Nat} {t t' : SetTable} : Obj.putSet es' t' (setObj es ep t) = setObj es' (ep + 1) t' := rfl
/-- one text more -/
theorem add_text {a : Addr} {xs : List Str} {led : Bool} {x : Str} {tk : Tok} {Q : Bool → Shared → Prop} (hS : TxSet prog w s.heap a xs led) (hroom : xs.length + 1 < scanBound)
    (h : ∀ h' xs' b, Heap.SameBut a s.heap h' → TxSet prog w h' a xs' led → ((x ∈ xs ∧ xs' = xs) ∨ (x ∉ xs ∧ xs'.Perm (xs ++ [x]))) → Q b { s with heap := h' }) :
    wpAny (model prog w) A (setAddHashed a (.str x tk) ((PySem.strKind prog w).hash x)) Q E s := by
  obtain ⟨es, ep, t, ho, T⟩ := hS
  have hkey := strKind_is prog w x tk
  have hsc : (Value.str x tk).scannable = true := rfl
  have hlen := T.len
  unfold setAddHashed setAddHashedIn
  refine wpAny_holding (wpAny_bind (wpAny_setState_of ho rfl T.ft ?_))
  dsimp only
  rw [byScan_of hsc T.sm T.el, if_pos rfl]
  unfold setAddByScan
  refine wpAny_bind (wpAny_bind (wpAny_rule (wpAny_bind (wpAny_setScan_of hkey ho rfl T.ft T.el ?_))))
  cases hf : List.findIdx? (fun e => (PySem.strKind prog w).is x e.2) es.toList with
  | some j =>
    have hx : x ∈ xs := Classical.byContradiction fun z => by
      rw [(strs_find (prog := prog) (w := w) x T.st).mpr z] at hf
      cases hf
    refine wpAny_pure (wpAny_pure ?_)
    have := h s.heap xs false (Heap.SameBut.refl a s.heap) ⟨es, ep, t, ho, T⟩ (.inl ⟨hx, rfl⟩)
    exact this
  | none =>
    have hx : x ∉ xs := (strs_find (prog := prog) (w := w) x T.st).mp hf
    dsimp only
    have hp := layNew_perm t es ((PySem.strKind prog w).hash x) (.str x tk)
    have hfit := layNew_fits t es ((PySem.strKind prog w).hash x) (.str x tk)
    obtain ⟨hled, hpl⟩ := tab_new t es ((PySem.strKind prog w).hash x) (.str x tk)
    generalize layNew t es ((PySem.strKind prog w).hash x) (.str x tk) = L at hp hfit hled hpl ⊢
    obtain ⟨e1, t1, wd, gv⟩ := L
    dsimp only at hp hfit hled hpl ⊢
    rw [Array.toList_push] at hp
    have hgw : ∀ (b : Bool) {s1 : Shared} {Q' : Unit → Shared → Prop}, Q' () s1 → wpAny (model prog w) A (match b with | true => rule "set.scan.the-table-gave-way" | false => pure ()) Q' E s1 := fun b s1 Q' q => by
      cases b
      · exact wpAny_pure q
      · exact wpAny_rule q
    refine wpAny_bind (hgw _ ?_)
    have hst1 : StrsAre ((es.toList ++ [((PySem.strKind prog w).hash x, Value.str x tk)]).map (·.2)) (xs ++ [x]) := by
      rw [List.map_append]
      exact strs_snoc x tk T.st
    obtain ⟨x1, px, hx1⟩ := strs_map_perm hp hst1
    have hel1 : ElemsOf (PySem.strKind prog w) e1.toList := (T.el.push hkey hsc).perm hp
    have hsz : e1.size = es.size + 1 := by rw [← Array.length_toList, hp.length_eq, List.length_append, Array.length_toList]; rfl
    have hsm : e1.size < scanBound := by omega
    have hz1 : e1.size ≤ sizeLine := fits_of_scanBound hsm
    -- the mark of a plain table
    have main : ∀ t2 : SetTable, t2.fits e1.size = true → t2.led = led → t2.plain = false → wpAny (model prog w) A (do
        storeSet a e1 t2
        if (!wd && t2.tooFull) = true then do
            (match (relayAll t2 e1 (SetTable.grown e1.size)).2.2 with | true => rule "set.scan.the-table-gave-way" | false => pure ())
            storeSet a (relayAll t2 e1 (SetTable.grown e1.size)).1 (relayAll t2 e1 (SetTable.grown e1.size)).2.1
            pure (some true)
          else pure (some true)) (fun (r : Option Bool) s1 => ∃ h' xs', r = some true ∧ s1 = { s with heap := h' } ∧ Heap.SameBut a s.heap h' ∧ TxSet prog w h' a xs' led ∧ xs'.Perm (xs ++ [x])) E s := by
      intro t2 f2 l2 p2
      refine wpAny_bind (wpAny_storeSet_of ho rfl ?_ hz1)
      have ho1 := Heap.get?_update_self (Obj.putSet e1 t2) ho rfl
      rw [setObj_put] at ho1
      have hb1 := Heap.SameBut.update s.heap a (Obj.putSet e1 t2)
      have T1 : TxEs prog w e1 t2 x1 led := ⟨hel1, hx1, hsm, f2, l2, .inr p2⟩
      split
      · have hp2 := relayAll_perm t2 e1 (SetTable.grown e1.size)
        have hf2 := relayAll_fits t2 e1 (SetTable.grown e1.size)
        obtain ⟨hl2, hpl2⟩ := tab_all t2 e1 (SetTable.grown e1.size)
        generalize relayAll t2 e1 (SetTable.grown e1.size) = R at hp2 hf2 hl2 hpl2 ⊢
        obtain ⟨e2, t3, gv2⟩ := R
        dsimp only at hp2 hf2 hl2 hpl2 ⊢
        obtain ⟨x2, px2, hx2⟩ := strs_map_perm hp2 hx1
        have hs2 : e2.size = e1.size := by rw [← Array.length_toList, hp2.length_eq, Array.length_toList]
        refine wpAny_bind (hgw _ (wpAny_bind (wpAny_storeSet_of ho1 rfl ?_ (by omega))))
        have ho2 := Heap.get?_update_self (Obj.putSet e2 t3) ho1 rfl
        rw [setObj_put] at ho2
        exact wpAny_pure ⟨_, x2, rfl, rfl, hb1.trans (Heap.SameBut.update _ a _), ⟨e2, _, t3, ho2, hel1.perm hp2, hx2, by omega, hf2, hl2.trans l2, .inr (hpl2 p2)⟩, px2.trans px⟩
      · exact wpAny_pure ⟨_, x1, rfl, rfl, hb1, ⟨e1, _, t2, ho1, T1⟩, px⟩
    have fin : ∀ {r : Option Bool} {s1 : Shared}, (∃ h' xs', r = some true ∧ s1 = { s with heap := h' } ∧ Heap.SameBut a s.heap h' ∧ TxSet prog w h' a xs' led ∧ xs'.Perm (xs ++ [x])) → wpAny (model prog w) A (match r with | some added => pure added | none => setAddHashedIn a (.str x tk) ((PySem.strKind prog w).hash x) 99999) Q E s1 := by
      rintro r s1 ⟨h', xs', rfl, rfl, hb, hT, hpp⟩
      exact wpAny_pure (h h' xs' true hb hT (.inr ⟨hx, hpp⟩))
    cases hpt : t1.plain with
    | true =>
      rw [if_pos rfl]
      refine wpAny_bind ?_
      rw [hashByValue_scannable 8 hsc]
      refine wpAny_pure ?_
      rw [show plainKind (Value.str x tk) = false from rfl, if_neg Bool.false_ne_true]
      refine wpAny_mono (main { t1 with plain := false } (SetTable.fits_plain_off hfit) (hled.trans T.ld) rfl) (fun r s1 q => fin q) (fun _ _ z => z)
    | false =>
      rw [if_neg Bool.false_ne_true]
      refine wpAny_bind (wpAny_pure ?_)
      rw [if_pos rfl]
      refine wpAny_mono (main t1 hfit (hled.trans T.ld) hpt) (fun r s1 q => fin q) (fun _ _ z => z)
end
end L2

set_option Elab.async false
set_option linter.all false
set_option maxRecDepth 100000
set_option maxHeartbeats 4000000
namespace L2
open PySem PyProof.Rows
section
variable {prog : Program} {w : World} {A : Around} {E : Value → Shared → Prop} {s : Shared}
/-- is the order of sets given by the text -/
def byT (w : World) : Bool := w.params.followText "set-order"
def set0 (w : World) : Obj := setObj #[] 0 (.fresh 0 0 (!byT w))
theorem new_set (v : Value) {Q1 : Value → Shared → Prop} (q : Q1 (.ref s.heap.objs.size) { s with heap := s.heap.push (set0 w) }) :
    codeAny (model prog w) A (.call (.builtin "set.__new__") ⟨[.type "set", v], []⟩) (wants Q1 E) s := by
  refine codeAny_of_tree (show wpAny _ A.in1 (do checkBuiltinCall "set.__new__" ⟨[.type "set", v], []⟩; again (.builtin "set.__new__" ⟨[.type "set", v], []⟩)) _ _ s from ?_)
  refine wpAny_bind (wpAny_of_eq (F.newCall_set_1 v) (wpAny_pure ⟨plainId_quiet F.plain_set_new _, codeAny_builtin F.entry_set_new ?_⟩))
  rw [Around.under_plainId F.plain_set_new _]
  unfold Builtin.«set.__new__» Builtin.Frozenset.newClass
  have sb := sub_set_self
  obtain ⟨h0, g0, d0, t0, o0⟩ := s
  dsimp only
  wp_walk
  refine wpAny_askSetting (wpAny_pure ?_)
  dsimp only
  simp only [newObj]
  exact wpAny_bind (wpAny_alloc (wpAny_pure (wpAny_pure q)))
set_option maxHeartbeats 8000000 in
theorem call_set {v : Value} {Q : Value → Shared → Prop} {R : Heap → Nat → Prop}
    (up : ∀ (A1 : Around) (Qu : Unit → Shared → Prop), A1.handled = A.handled → (∀ h' tk, R h' tk → Qu () { s with heap := h', toks := tk }) →
      ∀ E1, wpAny (model prog w) A1 (Builtin.Frozenset.updateFrom "set.__init__" s.heap.objs.size v) Qu E1 { s with heap := s.heap.push (set0 w) })
    (h : ∀ h' tk, R h' tk → Q (.ref s.heap.objs.size) { s with heap := h', toks := tk }) :
    wpAny (model prog w) A (call (.type "set") [v]) Q E s := by
  obtain ⟨c0, tl0, mro0⟩ := F.called_set.mro
  have made0 := F.called_set.made
  have sub0 := F.called_set.sub
  refine wpAny_call (codeAny_of_tree (show wpAny _ _ (callAny (.type "set") _) _ _ _ from ?_))
  refine wpAny_pure ⟨Code.quiet_builtin _ (by decide +kernel), codeAny_builtin F.entry_type_call ?_⟩
  rw [Around.under_plain (weight_type_call_type "set" [v] []) rfl]
  have nt0 := F.called_set.notType
  have cc0 := F.called_set.canCreate
  have tc0 := F.typeCall_set_1 v
  repeat (any_goals (first | assumption | wp_step))
  refine codeAny_mono (new_set v (E := E) (Q1 := fun obj s1 => obj = .ref s.heap.objs.size ∧ s1 = { s with heap := s.heap.push (set0 w) }) ⟨rfl, rfl⟩) fun r s1 hr => ?_
  cases r with
  | error e => exact hr
  | ok fl =>
    cases fl with
    | ret obj =>
      obtain ⟨rfl, rfl⟩ := hr
      have gS : (s.heap.push (set0 w)).get? s.heap.objs.size = some (set0 w) := Heap.get?_push_size _ rfl
      have tS : Shared.TypeIs { s with heap := s.heap.push (set0 w) } (.ref s.heap.objs.size) "set" := ⟨_, gS, rfl⟩
      have li0 := F.called_set.init.lookup
      have bi0 := F.called_set.init.bind (.ref s.heap.objs.size)
      repeat (any_goals (first | assumption | wp_step))
      refine codeAny_mono (codeAny_call_builtin (R := wants (fun r s2 => r = .none ∧ ∃ h' tk, s2 = { s with heap := h', toks := tk } ∧ R h' tk) E) F.called_set.init.plain F.entry_set_init (check_set_init_1 tS ?_)) fun r2 s2 hr2 => ?_
      · unfold Builtin.«set.__init__» noKeywords
        generalize hU : Builtin.Frozenset.updateFrom "set.__init__" = U
        wp_walk
        subst hU
        refine up _ _ (by simp) (fun h' tk hR => ?_) _
        exact wpAny_pure ⟨rfl, h', tk, rfl, hR⟩
      · cases r2 with
        | error e => exact hr2
        | ok fl2 =>
          cases fl2 with
          | ret r =>
            obtain ⟨rfl, h', tk, rfl, hR⟩ := hr2
            repeat (any_goals (first | assumption | wp_step))
            exact h _ _ hR
          | _ => exact hr2.elim
    | _ => exact hr.elim
end
end L2

set_option Elab.async false
set_option linter.all false
set_option maxRecDepth 100000
set_option maxHeartbeats 4000000
namespace L2
open PySem PyProof.Rows
/-- the texts met, each once -/
structure Once (val : Nat → Str) (n : Nat) (xs : List Str) : Prop where
  nd : xs.Nodup
  mem : ∀ x, x ∈ xs ↔ ∃ i, i < n ∧ val i = x
theorem Once.nil (val : Nat → Str) : Once val 0 [] := ⟨List.nodup_nil, fun x => ⟨(fun h => by cases h), fun ⟨i, h, _⟩ => absurd h (Nat.not_lt_zero _)⟩⟩
theorem Once.step {val : Nat → Str} {n : Nat} {xs xs' : List Str} (h : Once val n xs) (e : (val n ∈ xs ∧ xs' = xs) ∨ (val n ∉ xs ∧ xs'.Perm (xs ++ [val n]))) : Once val (n + 1) xs' := by
  have key : ∀ x, (∃ i, i < n + 1 ∧ val i = x) ↔ x ∈ xs ∨ x = val n := fun x => by
    rw [h.mem]
    constructor
    · rintro ⟨i, hi, rfl⟩
      by_cases e : i = n
      · subst e; exact .inr rfl
      · exact .inl ⟨i, by omega, rfl⟩
    · rintro (⟨i, hi, e⟩ | rfl)
      · exact ⟨i, by omega, e⟩
      · exact ⟨n, by omega, rfl⟩
  rcases e with ⟨h1, rfl⟩ | ⟨h1, p⟩
  · exact ⟨h.nd, fun x => by rw [key]; exact ⟨.inl, fun q => q.elim id fun e => e ▸ h1⟩⟩
  · refine ⟨p.nodup_iff.mpr ?_, fun x => by rw [key, p.mem_iff, List.mem_append, List.mem_singleton]⟩
    rw [List.nodup_append]
    exact ⟨h.nd, by simp, fun a ha b hb => by rw [List.mem_singleton.mp hb]; exact fun e => h1 (e ▸ ha)⟩
theorem nodup_le {val : Nat → Str} : ∀ {n : Nat} {xs : List Str}, xs.Nodup → (∀ x ∈ xs, ∃ i, i < n ∧ val i = x) → xs.length ≤ n
  | 0, xs, nd, h => by
    cases xs with
    | nil => exact Nat.le_refl _
    | cons a r => obtain ⟨i, hi, _⟩ := h a List.mem_cons_self; omega
  | n + 1, xs, nd, h => by
    have h1 := nodup_le (val := val) (n := n) (xs := xs.erase (val n)) (nd.erase _) fun x hx => by
      have hm := List.mem_of_mem_erase hx
      obtain ⟨i, hi, e⟩ := h x hm
      refine ⟨i, ?_, e⟩
      by_cases e2 : i = n
      · subst e2
        subst e
        exact absurd hx (fun z => nd.not_mem_erase z)
      · omega
    have h2 := List.length_erase (a := val n) (l := xs)
    by_cases hm : val n ∈ xs
    · rw [if_pos hm] at h2; omega
    · rw [if_neg hm] at h2; omega
theorem Once.len {val : Nat → Str} {n : Nat} {xs : List Str} (h : Once val n xs) : xs.length ≤ n := nodup_le h.nd fun x hx => (h.mem x).mp hx
section
variable {prog : Program} {w : World} {A : Around} {R : Result → Shared → Prop} {I : Addr} {fp wr : List Addr} {G : Array GenState → Array GenState → Prop} {n : Nat} {P : Nat → Value → Prop} {St : Nat → Shared → Prop}
theorem TxSet.keep {h h' : Heap} {a : Addr} {xs : List Str} {led : Bool} (k : ∀ o, h.get? a = some o → h'.get? a = some o) (t : TxSet prog w h a xs led) : TxSet prog w h' a xs led := by
  obtain ⟨es, ep, tb, ho, T⟩ := t
  exact ⟨es, ep, tb, k _ ho, T⟩
theorem set_loop (W : WalksS prog w A.in1 I fp wr G n P St) (S : Addr) (hSf : S ∉ fp) (val : Nat → Str) (hval : ∀ i v, P i v → ∃ t, v = .str (val i) t) (hb : n + 1 < scanBound) (led : Bool) :
    ∀ (k i : Nat) (s : Shared) (xs : List Str), n - i = k → i ≤ n → St i s → TxSet prog w s.heap S xs led → Once val i xs →
      (∀ s' xs', Moved (S :: wr) G s s' → TxSet prog w s'.heap S xs' led → Once val n xs' → R (.ok (.ret .none)) s') → codeAny (model prog w) A (.builtin "set.update.loop" ⟨[.ref S, .ref I], []⟩) R s := by
  have nS : S ∉ wr := fun z => hSf (W.sub _ z)
  have sub : ∀ b ∈ wr, b ∈ S :: wr := fun b q => List.mem_cons_of_mem _ q
  intro k
  induction k with
  | zero =>
    intro i s xs hk hi st hS on hR
    obtain rfl : i = n := by omega
    refine codeAny_builtin PyProof.Rows.F.entry_set_update_loop ?_
    rw [Around.under_plainId PyProof.Rows.F.plain_set_update_loop _]
    refine (show wpAny _ A.in1 (pyNext (.ref I) >>= _) _ _ s from wpAny_bind (W.done s _ _ st fun s' mv => ?_))
    exact (show wpAny _ A.in1 (ret Value.none) _ _ s' from wpAny_pure (hR s' xs (mv.mono sub) (hS.keep fun o e => mv.heap S o nS e) on))
  | succ k ih =>
    intro i s xs hk hi st hS on hR
    have lt : i < n := by omega
    refine codeAny_builtin PyProof.Rows.F.entry_set_update_loop ?_
    rw [Around.under_plainId PyProof.Rows.F.plain_set_update_loop _]
    refine (show wpAny _ A.in1 (pyNext (.ref I) >>= _) _ _ s from wpAny_bind (W.item i s _ _ lt st fun v s' hP st' mv => ?_))
    obtain ⟨t, rfl⟩ := hval i v hP
    have hS1 : TxSet prog w s'.heap S xs led := hS.keep fun o e => mv.heap S o nS e
    refine (show wpAny _ A.in1 (holding [Value.str (val i) t] (setAdd S (.str (val i) t)) >>= _) _ _ s' from wpAny_bind (wpAny_holding ?_))
    unfold setAdd
    refine wpAny_holding (wpAny_bind ((PySem.strKind prog w).pyHash (k := val i) (strKind_is prog w _ _) ?_))
    refine add_text (s := { s' with toks := s'.toks + 1 }) hS1 (by have := on.len; omega) fun h' xs' b sb hS2 alt => ?_
    refine wpAny_pure ⟨plainId_quiet PyProof.Rows.F.plain_set_update_loop _, ih (i + 1) _ xs' (by omega) lt (W.frame _ s' _ _ st' (Nat.le_succ _) fun b hbf o e => ?_) hS2 (on.step alt) fun s'' xs'' mv2 hS3 on3 => ?_⟩
    · rw [sb.2 b fun z : b = S => hSf (z ▸ hbf)]; exact e
    · refine hR s'' xs'' (Moved.trans W.gtrans ((mv.mono sub).then_heap (Nat.le_succ _) fun b o hbn e => ?_) mv2) hS3 on3
      rw [sb.2 b fun z : b = S => hbn (by rw [z]; exact List.mem_cons_self)]; exact e
end
section
variable {prog : Program} {w : World} {A : Around} {E : Value → Shared → Prop} {s : Shared}
theorem set0_tx (h : Heap) : TxSet prog w (h.push (set0 w)) h.objs.size [] (!byT w) :=
  ⟨#[], 0, _, Heap.get?_push_size _ rfl, ⟨fun e he => by simp at he, .nil, by decide, by rfl, rfl, .inl rfl⟩⟩
theorem tx_push {h : Heap} {a : Addr} {xs : List Str} {led : Bool} (o : Obj) (t : TxSet prog w h a xs led) : TxSet prog w (h.push o) a xs led := t.keep fun _ e => Heap.get?_push_of_some _ e
/-- the set of the texts of a list, of the signs of a text -/
theorem set_of_list {l : Addr} {items : Array Value} {ts : List Str} {Q : Value → Shared → Prop} (hh : A.handled = none) (hl : s.heap.IsList l items) (hi : StrsAre items.toList ts) (hb : ts.length + 1 < scanBound)
    (h : ∀ (h' : Heap) (tk : Nat) (xs : List Str), TxSet prog w h' s.heap.objs.size xs (!byT w) → xs.Nodup → (∀ x, x ∈ xs ↔ x ∈ ts) → (∀ b o, s.heap.get? b = some o → h'.get? b = some o) → Q (.ref s.heap.objs.size) { s with heap := h', toks := tk }) :
    wpAny (model prog w) A (call (.type "set") [.ref l]) Q E s := by
  have hsz : items.size = ts.length := by rw [← Array.length_toList]; exact strs_len hi
  refine call_set (R := fun h' tk => ∃ xs, TxSet prog w h' s.heap.objs.size xs (!byT w) ∧ Once (fun i => ts.getD i ⟨#[]⟩) items.size xs ∧ ∀ b o, s.heap.get? b = some o → h'.get? b = some o) (fun A1 Qu hA hR E1 => ?_) fun h' tk hR => ?_
  · obtain ⟨⟨oc, od, oda, osl⟩, hol, hcl, nl, hdl⟩ := id hl
    simp only at hcl hdl
    subst hcl hdl
    have hlS : l < s.heap.objs.size := Heap.lt_size hol
    have hh1 : A1.handled = none := hA.trans hh
    have hol1 := Heap.get?_push_of_some (set0 w) hol
    have lst1 : (s.heap.push (set0 w)).IsList l items := ⟨_, hol1, rfl, nl, rfl⟩
    have f1 := F.sub_list_set
    have f2 := F.sub_list_frozenset
    have f3 : (Value.type "list" == Value.type "dict") = false := by decide
    unfold Builtin.Frozenset.updateFrom
    generalize hPI : pyIter = PI
    wp_walk
    subst hPI
    refine wpAny_pyIter_list lst1 (wpAny_bind (wpAny_runValue ?_))
    have hIz : (s.heap.push (set0 w)).objs.size = s.heap.objs.size + 1 := Heap.size_push ..
    have hne : l ≠ (s.heap.push (set0 w)).objs.size := by rw [hIz]; exact Nat.ne_of_lt (Nat.lt_succ_of_lt hlS)
    have hSf : s.heap.objs.size ∉ [(s.heap.push (set0 w)).objs.size, l] := by
      rw [hIz]
      intro z
      rcases List.mem_cons.mp z with z | z
      · exact Nat.ne_of_lt (Nat.lt_succ_self _) z
      · exact Nat.ne_of_gt hlS (List.mem_singleton.mp z)
    have hval : ∀ (i : Nat) (v : Value), items[i]? = some v → ∃ t, v = .str (ts.getD i ⟨#[]⟩) t := fun i v hv => (strs_at hi).2 i v (by rw [Array.getElem?_toList]; exact hv)
    refine set_loop ((Walks.list (by simp [hh1]) _ l hne items).toS) s.heap.objs.size hSf (fun i => ts.getD i ⟨#[]⟩) hval (by omega) (!byT w) items.size 0 _ [] (by omega) (Nat.zero_le _) ⟨⟨_, Heap.get?_push_size _ rfl, rfl, rfl⟩, lst1.push _⟩ (tx_push _ (set0_tx _)) (Once.nil _) fun s' xs mv hS on => ?_
    obtain ⟨h1, g1, d1, t1, o1⟩ := s'
    obtain rfl : g1 = s.gens := mv.gens
    obtain rfl : d1 = s.drawn := mv.drawn
    obtain rfl : o1 = s.os := mv.os
    refine wpAny_pure (hR h1 t1 ⟨xs, hS, on, fun b o e => mv.heap b o (fun z => ?_) (Heap.get?_push_of_some _ (Heap.get?_push_of_some _ e))⟩)
    have hb1 := Heap.lt_size e
    rcases List.mem_cons.mp z with z | z
    · exact Nat.ne_of_lt hb1 z
    · have z := List.mem_singleton.mp z
      rw [hIz] at z
      exact Nat.ne_of_lt (Nat.lt_succ_of_lt hb1) z
  · obtain ⟨xs, hS, on, hk⟩ := hR
    refine h h' tk xs hS on.nd (fun x => ?_) hk
    rw [on.mem]
    constructor
    · rintro ⟨i, hi, rfl⟩
      rw [hsz] at hi
      show ts.getD i ⟨#[]⟩ ∈ ts
      rw [List.getD_eq_getElem?_getD, List.getElem?_eq_getElem hi]
      exact List.getElem_mem hi
    · intro hx
      obtain ⟨i, hi, rfl⟩ := List.getElem_of_mem hx
      refine ⟨i, by omega, ?_⟩
      show ts.getD i ⟨#[]⟩ = _
      rw [List.getD_eq_getElem?_getD, List.getElem?_eq_getElem hi]; rfl
theorem str_no_set : isSubtype (.type "str") (.type "set") = pure false := by rw [isSubtype_type]; kernel_rfl
theorem str_no_fset : isSubtype (.type "str") (.type "frozenset") = pure false := by rw [isSubtype_type]; kernel_rfl
theorem set_of_text {x : Str} {t : Tok} {Q : Value → Shared → Prop} (hh : A.handled = none) (hb : x.cps.size + 1 < scanBound)
    (h : ∀ (h' : Heap) (tk : Nat) (xs : List Str), TxSet prog w h' s.heap.objs.size xs (!byT w) → xs.Nodup → (∀ y, y ∈ xs ↔ ∃ c, c ∈ x.cps.toList ∧ y = ⟨#[c]⟩) → (∀ b o, s.heap.get? b = some o → h'.get? b = some o) → Q (.ref s.heap.objs.size) { s with heap := h', toks := tk }) :
    wpAny (model prog w) A (call (.type "set") [.str x t]) Q E s := by
  refine call_set (R := fun h' tk => ∃ xs, TxSet prog w h' s.heap.objs.size xs (!byT w) ∧ Once (fun i => (⟨#[x.cps.getD i 0]⟩ : Str)) x.cps.size xs ∧ ∀ b o, s.heap.get? b = some o → h'.get? b = some o) (fun A1 Qu hA hR E1 => ?_) fun h' tk hR => ?_
  · have hh1 : A1.handled = none := hA.trans hh
    have f1 := str_no_set
    have f2 := str_no_fset
    have f3 : (Value.type "str" == Value.type "dict") = false := by decide
    unfold Builtin.Frozenset.updateFrom
    generalize hPI : pyIter = PI
    wp_walk
    subst hPI
    refine wpAny_pyIter_str fun o St W hst => wpAny_bind (wpAny_runValue ?_)
    have hIz : (s.heap.push (set0 w)).objs.size = s.heap.objs.size + 1 := Heap.size_push ..
    have hSf : s.heap.objs.size ∉ [(s.heap.push (set0 w)).objs.size] := by
      rw [hIz]
      intro z
      exact Nat.ne_of_lt (Nat.lt_succ_self _) (List.mem_singleton.mp z)
    have hval : ∀ (i : Nat) (v : Value), SignAt x i v → ∃ t, v = .str ⟨#[x.cps.getD i 0]⟩ t := fun i v hv => by
      obtain ⟨c, u, hc, rfl⟩ := hv
      exact ⟨u, by rw [Array.getD_eq_getD_getElem?, hc]; rfl⟩
    refine set_loop ((W _ (by simp [hh1])).toS) s.heap.objs.size hSf (fun i => (⟨#[x.cps.getD i 0]⟩ : Str)) hval hb (!byT w) x.cps.size 0 _ [] (by omega) (Nat.zero_le _) hst (tx_push _ (set0_tx _)) (Once.nil _) fun s' xs mv hS on => ?_
    obtain ⟨h1, g1, d1, t1, o1⟩ := s'
    obtain rfl : g1 = s.gens := mv.gens
    obtain rfl : d1 = s.drawn := mv.drawn
    obtain rfl : o1 = s.os := mv.os
    refine wpAny_pure (hR h1 t1 ⟨xs, hS, on, fun b o e => mv.heap b o (fun z => ?_) (Heap.get?_push_of_some _ (Heap.get?_push_of_some _ e))⟩)
    have hb1 := Heap.lt_size e
    rcases List.mem_cons.mp z with z | z
    · exact Nat.ne_of_lt hb1 z
    · have z := List.mem_singleton.mp z
      rw [hIz] at z
      exact Nat.ne_of_lt (Nat.lt_succ_of_lt hb1) z
  · obtain ⟨xs, hS, on, hk⟩ := hR
    refine h h' tk xs hS on.nd (fun y => ?_) hk
    rw [on.mem]
    constructor
    · rintro ⟨i, hi, rfl⟩
      exact ⟨x.cps.getD i 0, by rw [Array.getD_eq_getD_getElem?, Array.getElem?_eq_getElem hi]; exact Array.getElem_mem_toList hi, rfl⟩
    · rintro ⟨c, hc, rfl⟩
      obtain ⟨i, hi, rfl⟩ := List.getElem_of_mem hc
      rw [Array.length_toList] at hi
      refine ⟨i, hi, ?_⟩
      show (⟨#[x.cps.getD i 0]⟩ : Str) = _
      rw [Array.getD_eq_getD_getElem?, Array.getElem?_eq_getElem hi]
      rfl
end
end L2

set_option Elab.async false
set_option linter.all false
set_option maxRecDepth 100000
set_option maxHeartbeats 4000000
namespace L2
open PySem PyProof.Rows
/-! walking over a set of texts -/
theorem sit_next : Slot "set_iterator" "__next__" "set_iterator.__next__" :=
  .of (owner := "set_iterator") (n := "__next__") (by rw [typeLookup_type, builtinLookup_eq_fast]; kernel_rfl) (by decide +kernel) (by decide +kernel) (by decide +kernel) (by first | exact .inl (by decide +kernel) | exact .inr (by decide +kernel)) (by rw [isSubtype_type]; kernel_rfl)
theorem sit_iter : Slot "set_iterator" "__iter__" "set_iterator.__iter__" :=
  .of (owner := "set_iterator") (n := "__iter__") (by rw [typeLookup_type, builtinLookup_eq_fast]; kernel_rfl) (by decide +kernel) (by decide +kernel) (by decide +kernel) (by first | exact .inl (by decide +kernel) | exact .inr (by decide +kernel)) (by rw [isSubtype_type]; kernel_rfl)
theorem sit_entry : entryFor table "set_iterator.__next__" = some Builtin.«set_iterator.__next__» := entryFor_of_tree (by kernel_rfl)
theorem sit_entryI : entryFor table "set_iterator.__iter__" = some Builtin.«dict_keyiterator.__iter__» := entryFor_alias (id' := "dict_keyiterator.__iter__") (by kernel_rfl) rfl (by decide +kernel) (by kernel_rfl)
theorem set_entryI : entryFor table "set.__iter__" = some Builtin.«frozenset.__iter__» := entryFor_alias (id' := "frozenset.__iter__") (by kernel_rfl) rfl (by decide +kernel) (by kernel_rfl)
theorem sit_owner : Manifest.owners.lookup (String.ofList ['r', 'o', 't', 'a', 'r', 'e', 't', 'i', '_', 't', 'e', 's'].reverse) = some Manifest.sig_set_iterator := by kernel_rfl
theorem sit_args (a : Value) : argsOk "set_iterator.__next__" ⟨[a], []⟩ := by
  unfold argsOk
  rw [signature?_of (id := "set_iterator.__next__") (n := ['_', '_', 't', 'x', 'e', 'n', '_', '_']) (o := ['r', 'o', 't', 'a', 'r', 'e', 't', 'i', '_', 't', 'e', 's']) (by kernel_rfl) sit_owner]
  kernel_rfl
theorem sit_argsI (a : Value) : argsOk "set_iterator.__iter__" ⟨[a], []⟩ := by
  unfold argsOk
  rw [signature?_of (id := "set_iterator.__iter__") (n := ['_', '_', 'r', 'e', 't', 'i', '_', '_']) (o := ['r', 'o', 't', 'a', 'r', 'e', 't', 'i', '_', 't', 'e', 's']) (by kernel_rfl) sit_owner]
  kernel_rfl
section
variable {prog : Program} {w : World} {A : Around} {E : Value → Shared → Prop} {s : Shared}
theorem wpAny_choose {src : Source} {n : Nat} {Q : Nat → Shared → Prop} (hn : n ≠ 0) (h : ∀ i d, i < n → Q i { s with drawn := d }) : wpAny (model prog w) A (choose src n) Q E s :=
  fun _ _ _ => ⟨hn, h _ _ (Nat.mod_lt _ (Nat.pos_of_ne_zero hn))⟩
theorem perm_erase {α : Type} : ∀ {xs : List α} {i : Nat} {x : α}, xs[i]? = some x → (x :: xs.eraseIdx i).Perm xs
  | [], i, x, h => by simp at h
  | a :: r, 0, x, h => by simp at h; subst h; exact .refl _
  | a :: r, i + 1, x, h => by
    have := perm_erase (xs := r) (i := i) (x := x) (by simpa using h)
    rw [List.eraseIdx_cons_succ]
    exact (List.Perm.swap a x _).trans (this.cons a)
theorem draw_order {α : Type} : ∀ (n : Nat) (xs : List α) (s : Shared) {Q : List α → Shared → Prop}, xs.length = n → (∀ ys d, ys.Perm xs → Q ys { s with drawn := d }) → wpAny (model prog w) A (drawOrder n xs) Q E s
  | 0, xs, s, Q, hl, h => by
    have e : xs = [] := List.length_eq_zero_iff.mp hl
    subst e
    exact wpAny_pure (h [] s.drawn (.refl _))
  | n + 1, [], s, Q, hl, h => by simp at hl
  | n + 1, a :: r, s, Q, hl, h => by
    refine (show wpAny (model prog w) A (choose .order (a :: r).length >>= _) Q E s from wpAny_bind (wpAny_choose (by simp) fun i d hi => ?_))
    obtain ⟨x, hx⟩ : ∃ x, (a :: r)[i]? = some x := ⟨_, List.getElem?_eq_getElem hi⟩
    rw [hx]
    refine (show wpAny (model prog w) A (drawOrder n ((a :: r).eraseIdx i) >>= fun l => pure (x :: l)) Q E _ from wpAny_bind (draw_order n _ _ ?_ fun ys d' p => ?_))
    · rw [List.length_eraseIdx, if_pos hi]; omega
    · exact wpAny_pure (h (x :: ys) d' ((p.cons x).trans (perm_erase hx)))
theorem pick_perm {α : Type} (next : Nat → Nat) : ∀ (f k : Nat) (left : List α) (out : Array α), left.length = f → (pickOrder.go next f k left out).toList.Perm (out.toList ++ left)
  | 0, k, left, out, h => by
    have e : left = [] := List.length_eq_zero_iff.mp h
    subst e
    rw [List.append_nil]
    exact .refl _
  | f + 1, k, left, out, h => by
    have hpos : next k % left.length < left.length := Nat.mod_lt _ (by omega)
    obtain ⟨x, hx⟩ : ∃ x, left[next k % left.length]? = some x := ⟨_, List.getElem?_eq_getElem hpos⟩
    unfold pickOrder.go
    rw [hx]
    have ih := pick_perm next f (k + 1) (left.eraseIdx (next k % left.length)) (out.push x) (by rw [List.length_eraseIdx, if_pos hpos]; omega)
    refine ih.trans ?_
    rw [Array.toList_push, List.append_assoc]
    exact (List.Perm.refl _).append (perm_erase hx)
theorem pick_order {α : Type} (next : Nat → Nat) (xs : Array α) : (pickOrder next xs).toList.Perm xs.toList := pick_perm next xs.size 0 xs.toList #[] (by simp)
/-- the iterator's object -/
def itO (f : Value) (i : Nat) (a : Addr) (n ep : Nat) : Obj := { cls := .type "set_iterator", data := .fields #[f, .int i 0, .ref a, .int n 0, .int ep 0] }
theorem int_ne (n m : Nat) (h : n = m) : (((n : Nat) : Int) != (m : Int)) = false := by rw [h]; simp
/-- a turn, where the first field is a number -/
theorem turn_int {it a : Addr} {sl i n ep : Nat} {es : Array (Int × Value)} {t : SetTable} {x : Value} {nx : Nat} {Q : Option Value → Shared → Prop} (hit : s.heap.get? it = some (itO (.int sl 0) i a n ep)) (ha : s.heap.get? a = some (setObj es ep t)) (hf : t.fits es.size = true) (hn : es.size = n)
    (hN : ∀ (A' : Around) (Q' : Option (Value × Nat) → Shared → Prop) (E' : Value → Shared → Prop), Q' (some (x, nx)) s → wpAny (model prog w) A' (setNext a sl i ep) Q' E' s)
    (hQ : ∀ h', h'.get? it = some (itO (.int nx 0) (i + 1) a n ep) → Heap.SameBut it s.heap h' → Q (some x) { s with heap := h' }) : wpAny (model prog w) A (pyNext (.ref it)) Q E s := by
  have tI : s.TypeIs (.ref it) "set_iterator" := ⟨_, hit, rfl⟩
  unfold pyNext
  refine wpAny_bind (wpAny_attempt (wpAny_callSpecial?_slot (name := Str.ofString "__next__") tI sit_next (wpAny_call_entry sit_next tI sit_entry ?_ (sit_args _))))
  unfold Builtin.«set_iterator.__next__»
  refine wpAny_bind (wpAny_pure (wpAny_bind (wpAny_fieldsOf hit rfl ?_)))
  refine (show wpAny _ _ (setEntries a >>= _) _ _ s from wpAny_bind (wpAny_setEntries_of ha rfl hf ?_))
  rw [int_ne es.size n hn, if_neg Bool.false_ne_true]
  refine (show wpAny _ _ (setNext a ((sl : Int)).toNat ((i : Int)).toNat ((ep : Int)).toNat >>= _) _ _ s from wpAny_bind ?_)
  rw [Int.toNat_natCast, Int.toNat_natCast, Int.toNat_natCast]
  refine hN _ _ _ ?_
  refine (show wpAny _ _ (setField (.ref it) 0 (rawInt nx) >>= _) _ _ s from wpAny_bind (wpAny_setField_rec hit (by simp) fun h1 g1 b1 => ?_))
  refine (show wpAny _ _ (setField (.ref it) 1 (rawInt ((i : Int) + 1)) >>= _) _ _ _ from wpAny_bind (wpAny_setField_rec (s := { s with heap := h1 }) g1 (by simp) fun h2 g2 b2 => ?_))
  refine wpAny_pure ⟨_, rfl, wpAny_pure (hQ h2 ?_ (b1.trans b2))⟩
  rw [g2]
  rfl
theorem stop_here {Q : Option Value → Shared → Prop} {it : Addr} {h0 : Heap} (hh : A.handled = none) (hb : Heap.ExtBut it h0 s.heap) (hQ : ∀ h', Heap.ExtBut it h0 h' → Q none { s with heap := h' }) :
    wpAny (model prog w) A (newExc (.type "StopIteration") [] >>= fun e => raiseNew (α := Fin) e) (fun _ _ => False) (fun e s1 => wpAny (model prog w) A (isInstance e (.type "StopIteration")) (fun b s2 => b = true ∧ Q none s2) (fun _ _ => False) s1) s := by
  refine wpAny_bind ?_
  simp only [newExc, newTuple]
  refine wpAny_bind (wpAny_newObj_type ?_ (by size_fits))
  refine wpAny_bind (m := firstArgMember _ _) (wpAny_of_eq (a := Value.none) (by first | rfl | (simp only [firstArgMember]; rfl)) ?_)
  refine wpAny_newObj_type ?_ (by size_fits)
  simp only [raiseNew]
  refine wpAny_bind (wpAny_handled ?_)
  rw [hh]
  refine wpAny_bind (wpAny_pure (wpAny_throw ?_))
  exact wpAny_isInstance (T := "StopIteration") (b := true) ⟨_, Heap.get?_push_size _ rfl, rfl⟩ isSubtype_stop ⟨rfl, hQ _ ((hb.push _).push _)⟩
end
end L2

set_option Elab.async false
set_option linter.all false
set_option maxRecDepth 100000
set_option maxHeartbeats 4000000
namespace L2
open PySem PyProof.Rows
section
variable {prog : Program} {w : World} {A : Around} {E : Value → Shared → Prop} {s : Shared}
/-- the end, where the first field is a number -/
theorem end_int {it a : Addr} {sl i n ep : Nat} {es : Array (Int × Value)} {t : SetTable} {Q : Option Value → Shared → Prop} (hh : A.handled = none) (hit : s.heap.get? it = some (itO (.int sl 0) i a n ep)) (ha : s.heap.get? a = some (setObj es ep t)) (hf : t.fits es.size = true) (hn : es.size = n)
    (hN : ∀ (A' : Around) (Q' : Option (Value × Nat) → Shared → Prop) (E' : Value → Shared → Prop), Q' none s → wpAny (model prog w) A' (setNext a sl i ep) Q' E' s)
    (hQ : ∀ h', Heap.ExtBut it s.heap h' → Q none { s with heap := h' }) : wpAny (model prog w) A (pyNext (.ref it)) Q E s := by
  have tI : s.TypeIs (.ref it) "set_iterator" := ⟨_, hit, rfl⟩
  unfold pyNext
  refine wpAny_bind (wpAny_attempt (wpAny_callSpecial?_slot (name := Str.ofString "__next__") tI sit_next (wpAny_call_entry sit_next tI sit_entry ?_ (sit_args _))))
  unfold Builtin.«set_iterator.__next__»
  refine wpAny_bind (wpAny_pure (wpAny_bind (wpAny_fieldsOf hit rfl ?_)))
  refine (show wpAny _ _ (setEntries a >>= _) _ _ s from wpAny_bind (wpAny_setEntries_of ha rfl hf ?_))
  rw [int_ne es.size n hn, if_neg Bool.false_ne_true]
  refine (show wpAny _ _ (setNext a ((sl : Int)).toNat ((i : Int)).toNat ((ep : Int)).toNat >>= _) _ _ s from wpAny_bind ?_)
  rw [Int.toNat_natCast, Int.toNat_natCast, Int.toNat_natCast]
  refine hN _ _ _ ?_
  refine (show wpAny _ _ (setField (.ref it) 2 .none >>= _) _ _ s from wpAny_bind (wpAny_setField_rec hit (by simp) fun h1 g1 b1 => ?_))
  refine (show wpAny _ _ (newExc (.type "StopIteration") [] >>= _) _ _ _ from ?_)
  refine wpAny_mono (stop_here (A := A.in1) (s := { s with heap := h1 }) (Q := Q) (it := it) (h0 := s.heap) hh b1.extBut fun h' eb => hQ h' eb) (fun _ _ z => z.elim) fun e s1 z => ?_
  refine wpAny_bind (wpAny_mono (wpAny_of_in1 z) (fun b s2 q => ?_) fun _ _ z => z.elim)
  obtain ⟨rfl, q⟩ := q
  exact wpAny_pure q
/-- drawn places: a turn, and the end -/
def plO (ps : List Nat) : Obj := { cls := .type "tuple", data := .seq (ps.map fun (i : Nat) => rawInt i).toArray }
theorem turn_drawn {it a T : Addr} {i n ep pl : Nat} {ps : List Nat} {h : Int} {x : Value} {es : Array (Int × Value)} {t : SetTable} {Q : Option Value → Shared → Prop} (hit : s.heap.get? it = some (itO (.ref T) i a n ep)) (hT : s.heap.get? T = some (plO ps)) (ha : s.heap.get? a = some (setObj es ep t)) (hf : t.fits es.size = true) (hn : es.size = n)
    (hp : ps[i]? = some pl) (hx : es[pl]? = some (h, x)) (hQ : ∀ h', h'.get? it = some (itO (.ref T) (i + 1) a n ep) → Heap.SameBut it s.heap h' → Q (some x) { s with heap := h' }) : wpAny (model prog w) A (pyNext (.ref it)) Q E s := by
  have tI : s.TypeIs (.ref it) "set_iterator" := ⟨_, hit, rfl⟩
  unfold pyNext
  refine wpAny_bind (wpAny_attempt (wpAny_callSpecial?_slot (name := Str.ofString "__next__") tI sit_next (wpAny_call_entry sit_next tI sit_entry ?_ (sit_args _))))
  unfold Builtin.«set_iterator.__next__»
  refine wpAny_bind (wpAny_pure (wpAny_bind (wpAny_fieldsOf hit rfl ?_)))
  refine (show wpAny _ _ (setEntries a >>= _) _ _ s from wpAny_bind (wpAny_setEntries_of ha rfl hf ?_))
  rw [int_ne es.size n hn, if_neg Bool.false_ne_true]
  refine (show wpAny _ _ (seqItems? (.ref T) >>= _) _ _ s from wpAny_bind (wpAny_seqItems hT rfl ?_))
  have hg : (ps.map fun (i : Nat) => rawInt i).toArray[((i : Nat) : Int).toNat]? = some (.int (pl : Int) 0) := by
    rw [Int.toNat_natCast, List.getElem?_toArray, List.getElem?_map, hp]; rfl
  dsimp only
  rw [hg]
  dsimp only
  refine wpAny_bind ?_
  unfold setNextDrawn
  refine wpAny_bind (wpAny_setState_of ha rfl hf ?_)
  dsimp only
  rw [Int.toNat_natCast, Int.toNat_natCast, bne_self_eq_false, if_neg Bool.false_ne_true, hx]
  refine wpAny_pure ?_
  refine (show wpAny _ _ (setField (.ref it) 1 (rawInt ((i : Int) + 1)) >>= _) _ _ _ from wpAny_bind (wpAny_setField_rec hit (by simp) fun h2 g2 b2 => ?_))
  refine wpAny_pure ⟨_, rfl, wpAny_pure (hQ h2 ?_ b2)⟩
  rw [g2]
  rfl
theorem end_drawn {it a T : Addr} {i n ep : Nat} {ps : List Nat} {es : Array (Int × Value)} {t : SetTable} {Q : Option Value → Shared → Prop} (hh : A.handled = none) (hit : s.heap.get? it = some (itO (.ref T) i a n ep)) (hT : s.heap.get? T = some (plO ps)) (ha : s.heap.get? a = some (setObj es ep t)) (hf : t.fits es.size = true) (hn : es.size = n)
    (hp : ps[i]? = none) (hQ : ∀ h', Heap.ExtBut it s.heap h' → Q none { s with heap := h' }) : wpAny (model prog w) A (pyNext (.ref it)) Q E s := by
  have tI : s.TypeIs (.ref it) "set_iterator" := ⟨_, hit, rfl⟩
  unfold pyNext
  refine wpAny_bind (wpAny_attempt (wpAny_callSpecial?_slot (name := Str.ofString "__next__") tI sit_next (wpAny_call_entry sit_next tI sit_entry ?_ (sit_args _))))
  unfold Builtin.«set_iterator.__next__»
  refine wpAny_bind (wpAny_pure (wpAny_bind (wpAny_fieldsOf hit rfl ?_)))
  refine (show wpAny _ _ (setEntries a >>= _) _ _ s from wpAny_bind (wpAny_setEntries_of ha rfl hf ?_))
  rw [int_ne es.size n hn, if_neg Bool.false_ne_true]
  refine (show wpAny _ _ (seqItems? (.ref T) >>= _) _ _ s from wpAny_bind (wpAny_seqItems hT rfl ?_))
  have hg : (ps.map fun (i : Nat) => rawInt i).toArray[((i : Nat) : Int).toNat]? = none := by
    rw [Int.toNat_natCast, List.getElem?_toArray, List.getElem?_map, hp]; rfl
  dsimp only
  rw [hg]
  dsimp only
  refine (show wpAny _ _ (setField (.ref it) 0 (rawInt 0) >>= _) _ _ s from wpAny_bind (wpAny_setField_rec hit (by simp) fun h1 g1 b1 => ?_))
  refine (show wpAny _ _ (setField (.ref it) 2 .none >>= _) _ _ _ from wpAny_bind (wpAny_setField_rec (s := { s with heap := h1 }) g1 (by simp) fun h2 g2 b2 => ?_))
  refine (show wpAny _ _ (newExc (.type "StopIteration") [] >>= _) _ _ _ from ?_)
  refine wpAny_mono (stop_here (A := A.in1) (s := { s with heap := h2 }) (Q := Q) (it := it) (h0 := s.heap) hh (b1.trans b2).extBut fun h' eb => hQ h' eb) (fun _ _ z => z.elim) fun e s1 z => ?_
  refine wpAny_bind (wpAny_mono (wpAny_of_in1 z) (fun b s2 q => ?_) fun _ _ z => z.elim)
  obtain ⟨rfl, q⟩ := q
  exact wpAny_pure q
/-- where the walk goes next -/
theorem next_byT {a : Addr} {sl i ep : Nat} {es : Array (Int × Value)} {t : SetTable} {Q : Option (Value × Nat) → Shared → Prop} (hb : byT w = true) (ha : s.heap.get? a = some (setObj es ep t)) (hf : t.fits es.size = true)
    (hQ : Q (((pickOrder (w.params.setOrder a ep) es)[i]?).map fun e => (e.2, sl)) s) : wpAny (model prog w) A (setNext a sl i ep) Q E s := by
  unfold setNext setsByText
  refine wpAny_bind (wpAny_setState_of ha rfl hf ?_)
  refine wpAny_bind (wpAny_bind (wpAny_askSetting (wpAny_pure ?_)))
  dsimp only
  rw [show (model prog w).w.params.followText "set-order" = true from hb, if_pos rfl, bne_self_eq_false, if_neg Bool.false_ne_true]
  refine wpAny_bind ?_
  unfold setWalk setsByText
  refine wpAny_bind (wpAny_setState_of ha rfl hf ?_)
  refine wpAny_bind (wpAny_bind (wpAny_askSetting (wpAny_pure ?_)))
  dsimp only
  rw [show (model prog w).w.params.followText "set-order" = true from hb, if_pos rfl]
  refine wpAny_bind (wpAny_askSetting (wpAny_pure (wpAny_pure hQ)))
theorem next_led {a : Addr} {sl i ep : Nat} {es : Array (Int × Value)} {t : SetTable} {Q : Option (Value × Nat) → Shared → Prop} (hb : byT w = false) (hld : t.led = true) (ha : s.heap.get? a = some (setObj es ep t)) (hf : t.fits es.size = true) (h1 : es.size ≤ 1)
    (hQ : Q (match es[SetTable.below t.place sl]?, t.place[SetTable.below t.place sl]? with | some (_, x), some j => some (x, j + 1) | _, _ => none) s) : wpAny (model prog w) A (setNext a sl i ep) Q E s := by
  unfold setNext setsByText
  refine wpAny_bind (wpAny_setState_of ha rfl hf ?_)
  refine wpAny_bind (wpAny_bind (wpAny_askSetting (wpAny_pure ?_)))
  dsimp only
  rw [show (model prog w).w.params.followText "set-order" = false from hb, if_neg Bool.false_ne_true]
  have hd : (!t.plain && decide (es.size > 1)) = false := by rw [decide_eq_false (by omega), Bool.and_false]
  refine (show wpAny _ _ (if (!t.plain && decide (es.size > 1)) = true then _ else _) _ _ _ from ?_)
  rw [hd, if_neg Bool.false_ne_true]
  refine (show wpAny _ _ ((if (!t.led && !es.isEmpty) = true then _ else _) >>= _) _ _ _ from ?_)
  rw [hld]
  refine wpAny_bind (wpAny_pure (wpAny_pure hQ))
end
end L2

set_option Elab.async false
set_option linter.all false
set_option maxRecDepth 100000
set_option maxHeartbeats 4000000
namespace L2
open PySem PyProof.Rows
theorem strs_perm {vs vs' : List Value} (p : vs'.Perm vs) {xs : List Str} (h : StrsAre vs xs) : ∃ xs', xs'.Perm xs ∧ StrsAre vs' xs' := by
  have e : ∀ l : List Value, (l.map fun v => ((0 : Int), v)).map (·.2) = l := fun l => by rw [List.map_map]; exact List.map_id' l
  have := strs_map_perm (es := vs.map fun v => ((0 : Int), v)) (es' := vs'.map fun v => ((0 : Int), v)) (p.map _) (xs := xs) (by rw [e]; exact h)
  rwa [e] at this
theorem below_0 (xs : Array Nat) (h : xs.size ≤ 1) : SetTable.below xs 0 = 0 := by
  unfold SetTable.below
  match xs, h with
  | ⟨[]⟩, _ => rfl
  | ⟨[j]⟩, _ => rfl
theorem below_1 (j : Nat) : SetTable.below #[j] (j + 1) = 1 := by simp [SetTable.below, SetTable.below.go]
def at2 (es : Array (Int × Value)) (p : Nat) : Option Value := (es[p]?).map fun e => e.2
theorem at2_some {es : Array (Int × Value)} {p : Nat} (h : p < es.size) : at2 es p = some es[p].2 := by unfold at2; rw [Array.getElem?_eq_getElem h]; rfl
theorem at2_get {es : Array (Int × Value)} : ∀ (l : List Nat) (i : Nat), (∀ q ∈ l, q < es.size) → (l.filterMap (at2 es))[i]? = (l[i]?).bind (at2 es)
  | [], i, _ => by simp
  | b :: r, 0, h => by rw [List.filterMap_cons_some (at2_some (h b List.mem_cons_self))]; simp [at2_some (h b List.mem_cons_self)]
  | b :: r, i + 1, h => by
    rw [List.filterMap_cons_some (at2_some (h b List.mem_cons_self)), List.getElem?_cons_succ, List.getElem?_cons_succ]
    exact at2_get r i fun q hq => h q (List.mem_cons_of_mem _ hq)
theorem at2_all (es : Array (Int × Value)) : (List.range es.size).filterMap (at2 es) = es.toList.map (·.2) := by
  rw [← filterMap_getElem?_range es, List.map_filterMap]
  rfl
section
variable {prog : Program} {w : World} {A : Around} {E : Value → Shared → Prop} {s : Shared}
theorem sit_self {it : Addr} {o : Obj} {Q : Value → Shared → Prop} (hit : s.heap.get? it = some o) (hc : o.cls = .type "set_iterator") (h : Q (.ref it) s) : wpAny (model prog w) A (pyIter (.ref it)) Q E s := by
  have tI : s.TypeIs (.ref it) "set_iterator" := ⟨o, hit, hc⟩
  refine wpAny_pyIter_slot tI sit_iter (wpAny_call_entry sit_iter tI sit_entryI ?_ (sit_argsI _))
  exact (show wpAny _ _ (ret (.ref it)) _ _ s from wpAny_pure ⟨_, rfl, "set_iterator", _, tI, sit_next.lookup, h⟩)
theorem walk_int (I a : Addr) (hne : a ≠ I) {es : Array (Int × Value)} {ep : Nat} {t : SetTable} (hf : t.fits es.size = true) (ord : List Value) (sl : Nat → Nat) (ho : ord.length = es.size)
    (hN : ∀ (i : Nat) (x : Value) (s : Shared) (A' : Around) (Q' : Option (Value × Nat) → Shared → Prop) (E' : Value → Shared → Prop), s.heap.get? a = some (setObj es ep t) → ord[i]? = some x → Q' (some (x, sl (i + 1))) s → wpAny (model prog w) A' (setNext a (sl i) i ep) Q' E' s)
    (hE : ∀ (s : Shared) (A' : Around) (Q' : Option (Value × Nat) → Shared → Prop) (E' : Value → Shared → Prop), s.heap.get? a = some (setObj es ep t) → Q' none s → wpAny (model prog w) A' (setNext a (sl es.size) es.size ep) Q' E' s)
    (hh : A.handled = none) : WalksS prog w A I [I, a] [I] (fun a b => b = a) es.size (fun i v => ord[i]? = some v) (fun i s => s.heap.get? I = some (itO (.int (sl i) 0) i a es.size ep) ∧ s.heap.get? a = some (setObj es ep t)) where
  sub := fun b hb => by rw [List.mem_singleton.mp hb]; exact List.mem_cons_self
  grefl := fun _ => rfl
  gtrans := fun _ _ _ h1 h2 => h2.trans h1
  frame := fun i s h' tk st _ k => ⟨k I List.mem_cons_self _ st.1, k a (List.mem_cons_of_mem _ List.mem_cons_self) _ st.2⟩
  item := fun i s Q E hi st hQ => by
    obtain ⟨x, hx⟩ : ∃ x, ord[i]? = some x := ⟨_, List.getElem?_eq_getElem (by omega)⟩
    refine turn_int (nx := sl (i + 1)) st.1 st.2 hf rfl (fun A' Q' E' q => hN i x s A' Q' E' st.2 hx q) fun h' g b => hQ x _ hx ⟨g, by show h'.get? a = _; rw [b.2 a hne]; exact st.2⟩ ⟨fun c o hc e => ?_, rfl, rfl, rfl, Nat.le_refl _⟩
    show h'.get? c = _
    rw [b.2 c fun z => hc (by rw [z]; exact List.mem_singleton.mpr rfl)]; exact e
  done := fun s Q E st hQ => end_int hh st.1 st.2 hf rfl (fun A' Q' E' q => hE s A' Q' E' st.2 q) fun h' eb => hQ _ ⟨fun c o hc e => eb c o (fun z => hc (by rw [z]; exact List.mem_singleton.mpr rfl)) e, rfl, rfl, rfl, Nat.le_refl _⟩
  self := fun i s Q E st h => sit_self st.1 rfl h
theorem walk_drawn (I a T : Addr) (hne : a ≠ I) (hT : T ≠ I) {es : Array (Int × Value)} {ep : Nat} {t : SetTable} (hf : t.fits es.size = true) (ps : List Nat) (hp : ps.Perm (List.range es.size)) (hh : A.handled = none) :
    WalksS prog w A I [I, a, T] [I] (fun a b => b = a) es.size (fun i v => (ps.filterMap (at2 es))[i]? = some v) (fun i s => s.heap.get? I = some (itO (.ref T) i a es.size ep) ∧ s.heap.get? a = some (setObj es ep t) ∧ s.heap.get? T = some (plO ps)) where
  sub := fun b hb => by rw [List.mem_singleton.mp hb]; exact List.mem_cons_self
  grefl := fun _ => rfl
  gtrans := fun _ _ _ h1 h2 => h2.trans h1
  frame := fun i s h' tk st _ k => ⟨k I List.mem_cons_self _ st.1, k a (by simp) _ st.2.1, k T (by simp) _ st.2.2⟩
  item := fun i s Q E hi st hQ => by
    have hl : ps.length = es.size := by rw [hp.length_eq, List.length_range]
    obtain ⟨p, hpi⟩ : ∃ p, ps[i]? = some p := ⟨_, List.getElem?_eq_getElem (by omega)⟩
    have hpm : p < es.size := List.mem_range.mp (hp.mem_iff.mp (List.mem_of_getElem? hpi))
    have hx : (ps.filterMap (at2 es))[i]? = some es[p].2 := by
      rw [at2_get ps i fun q hq => List.mem_range.mp (hp.mem_iff.mp hq), hpi]
      exact at2_some hpm
    refine turn_drawn (h := es[p].1) (x := es[p].2) st.1 st.2.2 st.2.1 hf rfl hpi (by rw [Array.getElem?_eq_getElem hpm]) fun h' g b => hQ _ _ hx ⟨g, by show h'.get? a = _; rw [b.2 a hne]; exact st.2.1, by show h'.get? T = _; rw [b.2 T hT]; exact st.2.2⟩ ⟨fun c o hc e => ?_, rfl, rfl, rfl, Nat.le_refl _⟩
    show h'.get? c = _
    rw [b.2 c fun z => hc (by rw [z]; exact List.mem_singleton.mpr rfl)]; exact e
  done := fun s Q E st hQ => end_drawn hh st.1 st.2.2 st.2.1 hf rfl (List.getElem?_eq_none_iff.mpr (by rw [hp.length_eq, List.length_range]; exact Nat.le_refl _)) fun h' eb => hQ _ ⟨fun c o hc e => eb c o (fun z => hc (by rw [z]; exact List.mem_singleton.mpr rfl)) e, rfl, rfl, rfl, Nat.le_refl _⟩
  self := fun i s Q E st h => sit_self st.1 rfl h
/-- what a walk over a set of texts is -/
structure SetWalk (prog : Program) (w : World) (a : Addr) (xs : List Str) (s s1 : Shared) (I : Addr) (fp : List Addr) (ord : List Value) (ys : List Str) (St : Nat → Shared → Prop) : Prop where
  pm : ys.Perm xs
  st : StrsAre ord ys
  wk : ∀ A' : Around, A'.handled = none → WalksS prog w A' I fp [I] (fun a b => b = a) xs.length (fun i v => ord[i]? = some v) St
  s0 : St 0 s1
  lt : ∀ b ∈ fp, b < s1.heap.objs.size
  ii : I ∈ fp
  new : s.heap.objs.size ≤ I
  own : ∀ b ∈ fp, b = a ∨ s.heap.objs.size ≤ b
  eq : ∃ h d, s1 = { s with heap := h, drawn := d } ∧ ∀ b o, s.heap.get? b = some o → h.get? b = some o
theorem iter_set {a : Addr} {xs : List Str} {Q : Value → Shared → Prop} (hS : TxSet prog w s.heap a xs (!byT w)) (hQ : ∀ s1 I fp ord ys St, SetWalk prog w a xs s s1 I fp ord ys St → Q (.ref I) s1) :
    wpAny (model prog w) A (pyIter (.ref a)) Q E s := by
  obtain ⟨es, ep, t, ha, T⟩ := hS
  have hlen := T.len
  have tS : s.TypeIs (.ref a) "set" := ⟨_, ha, rfl⟩
  have hlt : a < s.heap.objs.size := Heap.lt_size ha
  refine wpAny_pyIter_slot tS F.slot_set_iter (wpAny_call_entry F.slot_set_iter tS set_entryI ?_ (F.args_set_iter_1 _))
  unfold Builtin.«frozenset.__iter__» Builtin.Frozenset.slot0 slotArgs
  simp only [List.isEmpty_nil, Bool.not_true, Bool.false_eq_true, ↓reduceIte, bind_assoc, List.length_nil, bne_self_eq_false]
  unfold Builtin.Frozenset.addrOf Builtin.Frozenset.sizeOf
  refine wpAny_bind (wpAny_pure ?_)
  try dsimp only
  refine wpAny_bind (wpAny_pure ?_)
  refine wpAny_bind (wpAny_bind (wpAny_setEntries_of ha rfl T.ft (wpAny_pure ?_)))
  have hdr : ∀ {Q' : Bool → Shared → Prop}, Q' (!byT w && (!t.plain && decide (es.size > 1))) s → wpAny (model prog w) A.in1 (setDrawn a) Q' (fun e s' => E e s') s := fun {Q'} q => by
    unfold setDrawn setsByText
    refine wpAny_bind (wpAny_setState_of ha rfl T.ft (wpAny_bind (wpAny_bind (wpAny_askSetting (wpAny_pure ?_)))))
    exact wpAny_pure q
  refine wpAny_bind (hdr ?_)
  by_cases hc : (!byT w && (!t.plain && decide (es.size > 1))) = true
  · rw [if_pos hc]
    rw [Bool.and_eq_true, Bool.and_eq_true] at hc
    have h2 : 1 < es.size := of_decide_eq_true hc.2.2
    refine wpAny_bind (draw_order es.size (List.range es.size) s (List.length_range ..) fun ps d hp => ?_)
    have hpl : ps.length = es.size := by rw [hp.length_eq, List.length_range]
    simp only [newTuple, newFields]
    refine wpAny_bind (wpAny_newObj_type ?_ (by show (ps.map fun (i : Nat) => rawInt i).toArray.size ≤ sizeLine; rw [List.size_toArray, List.length_map, hpl]; exact fits_of_scanBound T.sm))
    have ha1 : (s.heap.push (plO ps)).get? a = some (setObj es ep t) := Heap.get?_push_of_some _ ha
    refine wpAny_bind (wpAny_setEpoch_of (s := { s with heap := s.heap.push (plO ps), drawn := d }) ha1 rfl T.ft ?_)
    refine wpAny_bind (wpAny_newObj_type (wpAny_pure ⟨_, rfl, "set_iterator", _, ⟨_, Heap.get?_push_size _ rfl, rfl⟩, sit_next.lookup, ?_⟩))
    have hz : (s.heap.push (plO ps)).objs.size = s.heap.objs.size + 1 := Heap.size_push ..
    obtain ⟨ys, py, hy⟩ := strs_perm (vs' := ps.filterMap (at2 es)) ((hp.filterMap _).trans (by rw [at2_all])) T.st
    have neI : a ≠ (s.heap.push (plO ps)).objs.size := by rw [hz]; exact Nat.ne_of_lt (Nat.lt_succ_of_lt hlt)
    have neT : s.heap.objs.size ≠ (s.heap.push (plO ps)).objs.size := by rw [hz]; exact Nat.ne_of_lt (Nat.lt_succ_self _)
    have hz2 : ((s.heap.push (plO ps)).push (itO (.ref s.heap.objs.size) 0 a es.size ep)).objs.size = s.heap.objs.size + 1 + 1 := by rw [Heap.size_push, hz]
    refine hQ { s with heap := (s.heap.push (plO ps)).push (itO (.ref s.heap.objs.size) 0 a es.size ep), drawn := d } _ [_, a, s.heap.objs.size] _ ys (fun i s1 => s1.heap.get? (s.heap.push (plO ps)).objs.size = some (itO (.ref s.heap.objs.size) i a es.size ep) ∧ s1.heap.get? a = some (setObj es ep t) ∧ s1.heap.get? s.heap.objs.size = some (plO ps)) ⟨py, hy, fun A' hA => by rw [← hlen]; exact walk_drawn _ a s.heap.objs.size neI neT T.ft ps hp hA, ⟨Heap.get?_push_size _ rfl, Heap.get?_push_of_some _ ha1, Heap.get?_push_of_some _ (Heap.get?_push_size _ rfl)⟩, fun b hb => ?_, List.mem_cons_self, by rw [hz]; exact Nat.le_succ _, fun b hb => ?_, ⟨_, d, rfl, fun b o e => Heap.get?_push_of_some _ (Heap.get?_push_of_some _ e)⟩⟩
    · show b < ((s.heap.push (plO ps)).push (itO (.ref s.heap.objs.size) 0 a es.size ep)).objs.size
      rw [hz2]
      rcases List.mem_cons.mp hb with rfl | hb
      · rw [hz]; exact Nat.lt_succ_self _
      · rcases List.mem_cons.mp hb with rfl | hb
        · exact Nat.lt_succ_of_lt (Nat.lt_succ_of_lt hlt)
        · rw [List.mem_singleton.mp hb]; exact Nat.lt_succ_of_lt (Nat.lt_succ_self _)
    · rcases List.mem_cons.mp hb with rfl | hb
      · rw [hz]; exact .inr (Nat.le_succ _)
      · rcases List.mem_cons.mp hb with rfl | hb
        · exact .inl rfl
        · rw [List.mem_singleton.mp hb]; exact .inr (Nat.le_refl _)
  · rw [if_neg hc]
    simp only [newFields]
    refine wpAny_bind (wpAny_pure (wpAny_bind (wpAny_setEpoch_of ha rfl T.ft ?_)))
    refine wpAny_bind (wpAny_newObj_type (wpAny_pure ⟨_, rfl, "set_iterator", _, ⟨_, Heap.get?_push_size _ rfl, rfl⟩, sit_next.lookup, ?_⟩))
    have neI : a ≠ s.heap.objs.size := Nat.ne_of_lt hlt
    have common : ∀ (ord : List Value) (sl : Nat → Nat) (ys : List Str), sl 0 = 0 → ys.Perm xs → StrsAre ord ys → (∀ A' : Around, A'.handled = none → WalksS prog w A' s.heap.objs.size [s.heap.objs.size, a] [s.heap.objs.size] (fun a b => b = a) es.size (fun i v => ord[i]? = some v) (fun i s1 => s1.heap.get? s.heap.objs.size = some (itO (.int (sl i) 0) i a es.size ep) ∧ s1.heap.get? a = some (setObj es ep t))) →
        Q (.ref s.heap.objs.size) { s with heap := s.heap.push (itO (.int 0 0) 0 a es.size ep) } := by
      intro ord sl ys h0 py hy W
      refine hQ _ _ [_, a] ord ys (fun i s1 => s1.heap.get? s.heap.objs.size = some (itO (.int (sl i) 0) i a es.size ep) ∧ s1.heap.get? a = some (setObj es ep t)) ⟨py, hy, fun A' hA => by rw [← hlen]; exact W A' hA, ⟨by rw [h0]; exact Heap.get?_push_size _ rfl, Heap.get?_push_of_some _ ha⟩, fun b hb => ?_, List.mem_cons_self, Nat.le_refl _, fun b hb => ?_, ⟨_, s.drawn, rfl, fun b o e => Heap.get?_push_of_some _ e⟩⟩
      · show b < (s.heap.push (itO (.int 0 0) 0 a es.size ep)).objs.size
        rw [Heap.size_push]
        rcases List.mem_cons.mp hb with rfl | hb
        · exact Nat.lt_succ_self _
        · rw [List.mem_singleton.mp hb]; exact Nat.lt_succ_of_lt hlt
      · rcases List.mem_cons.mp hb with rfl | hb
        · exact .inr (Nat.le_refl _)
        · exact .inl (List.mem_singleton.mp hb)
    cases hb : byT w with
    | true =>
      obtain ⟨ys, py, hy⟩ := strs_perm (vs' := (pickOrder (w.params.setOrder a ep) es).toList.map (·.2)) ((pick_order _ es).map _) T.st
      have hsz : (pickOrder (w.params.setOrder a ep) es).size = es.size := by rw [← Array.length_toList, (pick_order _ es).length_eq, Array.length_toList]
      refine common ((pickOrder (w.params.setOrder a ep) es).toList.map (·.2)) (fun _ => 0) ys rfl py hy fun A' hA => walk_int _ a neI T.ft _ (fun _ => 0) (by rw [List.length_map, Array.length_toList, hsz]) (fun i x s' A' Q' E' ha' hx q => next_byT hb ha' T.ft ?_) (fun s' A' Q' E' ha' q => next_byT hb ha' T.ft ?_) hA
      · rw [List.getElem?_map, Array.getElem?_toList] at hx
        cases he : (pickOrder (w.params.setOrder a ep) es)[i]? with
        | none => rw [he] at hx; cases hx
        | some e => rw [he] at hx; cases hx; exact q
      · rw [Array.getElem?_eq_none (by omega)]; exact q
    | false =>
      have hld : t.led = true := by rw [T.ld, hb]; rfl
      have h1 : es.size ≤ 1 := by
        rcases T.pl with e | e
        · omega
        · rw [hb, e] at hc
          have : ¬ es.size > 1 := fun z => hc (by rw [decide_eq_true z]; rfl)
          omega
      have hpz : t.place.size = es.size := by
        have := T.ft
        unfold SetTable.fits at this
        rw [Bool.and_eq_true] at this
        exact beq_iff_eq.mp this.1
      refine common (es.toList.map (·.2)) (fun i => if i = 0 then 0 else t.place.getD 0 0 + 1) xs rfl (.refl _) T.st fun A' hA => walk_int _ a neI T.ft _ (fun i => if i = 0 then 0 else t.place.getD 0 0 + 1) (by rw [List.length_map, Array.length_toList]) (fun i x s' A' Q' E' ha' hx q => next_led hb hld ha' T.ft h1 ?_) (fun s' A' Q' E' ha' q => next_led hb hld ha' T.ft h1 ?_) hA
      · rw [List.getElem?_map, Array.getElem?_toList] at hx
        have hi : i = 0 := by
          cases he : es[i]? with
          | none => rw [he] at hx; cases hx
          | some e => have := (Array.getElem?_eq_some_iff.mp he).1; omega
        subst hi
        rw [if_pos rfl, below_0 _ (by omega)]
        cases he : es[0]? with
        | none => rw [he] at hx; cases hx
        | some e =>
          rw [he] at hx
          cases hx
          have h0 : 0 < t.place.size := by have := (Array.getElem?_eq_some_iff.mp he).1; omega
          rw [Array.getElem?_eq_getElem h0]
          obtain ⟨e1, e2⟩ := e
          have eg : t.place.getD 0 0 = t.place[0] := by rw [Array.getD_eq_getD_getElem?, Array.getElem?_eq_getElem h0]; rfl
          show Q' (some (e2, t.place[0] + 1)) s'
          rw [if_neg (by omega), eg] at q
          exact q
      · by_cases h0 : es.size = 0
        · rw [h0, if_pos rfl, below_0 _ (by omega), Array.getElem?_eq_none (by omega)]
          exact q
        · have he1 : es.size = 1 := by omega
          rw [if_neg h0]
          have hsh : ∃ j, t.place = #[j] := by
            match hp : t.place, (show t.place.size = 1 by omega) with
            | ⟨[j]⟩, _ => exact ⟨j, rfl⟩
          obtain ⟨j, hj⟩ := hsh
          rw [hj]
          show Q' (match es[SetTable.below #[j] (j + 1)]?, #[j][SetTable.below #[j] (j + 1)]? with | some (_, x), some j => some (x, j + 1) | _, _ => none) s'
          rw [below_1, Array.getElem?_eq_none (by omega)]
          exact q
end
end L2

set_option Elab.async false
set_option linter.all false
set_option maxRecDepth 100000
set_option maxHeartbeats 4000000
namespace L2
open PySem PyProof.Rows
section
variable {prog : Program} {w : World} {A : Around} {E : Value → Shared → Prop} {s : Shared}
theorem hint_set {r : Addr} {Q : Bool → Shared → Prop} (hT : s.TypeIs (.ref r) "set") (h : Q false s) : wpAny (model prog w) A (Builtin.List.listLengthHint (.ref r)) Q E s := by
  unfold Builtin.List.listLengthHint
  refine wpAny_bind (wpAny_specialOf hT F.slot_set_len.lookup ?_)
  generalize hid : ("set.__len__" : String) = id0
  wp_delta
  rw [show splitId id0 = some ("set", "__len__") from by subst hid; decide +kernel]
  subst hid
  refine wpAny_bind (wpAny_isInstance (T := "set") (b := true) hT sub_set_self (wpAny_ite_split (fun z => absurd z (by decide)) fun _ => ?_))
  exact wpAny_ite_split (fun _ => wpAny_bind (wpAny_typeOf hT (wpAny_pure h))) fun z => absurd (by decide +kernel) z
theorem collect_set {a : Addr} {xs : List Str} {R : List Value → Shared → Prop} (hh : A.handled = none) (hS : TxSet prog w s.heap a xs (!byT w)) (hz : xs.length ≤ sizeLine)
    (h : ∀ h' tk d vs ys, List.Perm ys xs → StrsAre vs ys → (∀ b o, s.heap.get? b = some o → h'.get? b = some o) → R vs { s with heap := h', toks := tk, drawn := d }) : wpAny (model prog w) A (collect (.ref a)) R E s := by
  have hlt : a < s.heap.objs.size := by obtain ⟨es, ep, t, ha, _⟩ := hS; exact Heap.lt_size ha
  unfold collect
  refine wpAny_bind (wpAny_runValue (codeAny_builtin PySem.F.entry_proto_collect ?_))
  rw [Around.under_plainId PySem.F.plain_proto_collect _]
  refine (show wpAny _ A.in1 (newList [] >>= fun l => again (.builtin "list.__iadd__" ⟨[l, .ref a], []⟩)) _ _ s from wpAny_bind (wpAny_newObj_type (wpAny_pure ⟨plainId_quiet PySem.F.plain_list_iadd _, codeAny_builtin PySem.F.entry_list_iadd ?_⟩)))
  rw [Around.under_plainId PySem.F.plain_list_iadd _]
  generalize hL0 : ({ cls := .type "list", data := .seq ([] : List Value).toArray } : Obj) = L0
  have g0 : (s.heap.push L0).get? s.heap.objs.size = some { cls := .type "list", data := .seq #[] } := by rw [← hL0]; exact Heap.get?_push_size _ rfl
  have hS1 : TxSet prog w (s.heap.push L0) a xs (!byT w) := tx_push _ hS
  refine (show wpAny _ A.in1 (Builtin.List.listExtendWith (.ref s.heap.objs.size) (.ref a) (.ref s.heap.objs.size)) _ _ _ from ?_)
  unfold Builtin.List.listExtendWith
  have tS : Shared.TypeIs { s with heap := s.heap.push L0 } (.ref a) "set" := by obtain ⟨es, ep, t, ha, _⟩ := hS1; exact ⟨_, ha, rfl⟩
  refine wpAny_bind (wpAny_typeOf tS ?_)
  have q1 : Builtin.List.listSameRef (.ref s.heap.objs.size) (.ref a) = false := by simp [Builtin.List.listSameRef, Nat.ne_of_gt hlt]
  have q2 : (Value.type "set" == Value.type "list") = false := by decide
  have q3 : (Value.type "set" == Value.type "tuple") = false := by decide
  rw [q1, q2, q3]
  refine (show wpAny _ A.in1 (pyIter (.ref a) >>= _) _ _ _ from wpAny_bind (iter_set hS1 fun s1 I fp ord ys St W => ?_))
  obtain ⟨h1, d1, rfl, hk1⟩ := W.eq
  have hz1 : (s.heap.push L0).objs.size = s.heap.objs.size + 1 := Heap.size_push ..
  have tS1 : Shared.TypeIs { s with heap := h1, drawn := d1 } (.ref a) "set" := by obtain ⟨es, ep, t, ha, _⟩ := hS1; exact ⟨_, hk1 _ _ ha, rfl⟩
  refine wpAny_bind (wpAny_holding (hint_set tS1 ?_))
  have hord : ord.length = xs.length := by rw [strs_len W.st, W.pm.length_eq]
  have hSf : s.heap.objs.size ∉ fp := fun z => by
    rcases W.own _ z with e | e
    · exact Nat.ne_of_gt hlt e
    · have e : (s.heap.push L0).objs.size ≤ s.heap.objs.size := e
      rw [hz1] at e
      exact absurd e (Nat.not_succ_le_self _)
  have key : ∀ {Rr : Result → Shared → Prop} (h2 : Heap) (c tk : Nat), St 0 { s with heap := h2, drawn := d1, toks := tk } → (∀ b o, s.heap.get? b = some o → h2.get? b = some o) → h2.get? s.heap.objs.size = some { cls := .type "list", data := .seq #[] c } →
      (∀ h3 tk3 c3, (∀ b o, s.heap.get? b = some o → h3.get? b = some o) → h3.get? s.heap.objs.size = some { cls := .type "list", data := .seq ord.toArray c3 } → Rr (.ok (.ret (.ref s.heap.objs.size))) { s with heap := h3, drawn := d1, toks := tk3 }) →
      codeAny (model prog w) A (.builtin "list.extend.loop" ⟨[.ref s.heap.objs.size, .ref I, .ref s.heap.objs.size], []⟩) Rr { s with heap := h2, drawn := d1, toks := tk } := by
    intro Rr h2 c tk st hk gS hR
    refine codeAny_extend_loopS (W.wk A.in1 hh) hz _ hSf _ xs.length 0 _ #[] c (by omega) (Nat.zero_le _) st gS (ItemsOf.nil _) fun s' acc c' mv gS' hacc => ?_
    have ev : acc = ord.toArray := by
      apply Array.ext'
      apply List.ext_getElem?
      intro i
      rw [Array.getElem?_toList]
      by_cases hi : i < acc.size
      · rw [Array.getElem?_eq_getElem hi]
        exact (hacc.2 i _ (Array.getElem?_eq_getElem hi)).symm
      · rw [Array.getElem?_eq_none (by omega)]
        exact (List.getElem?_eq_none_iff.mpr (by have := hacc.1; simp only [List.toList_toArray]; omega)).symm
    rw [ev] at gS'
    obtain ⟨h3, g3, d3, t3, o3⟩ := s'
    obtain rfl : g3 = s.gens := mv.gens
    obtain rfl : d3 = d1 := mv.drawn
    obtain rfl : o3 = s.os := mv.os
    refine hR h3 t3 c' (fun b o e => mv.heap b o (fun z => ?_) (hk b o e)) gS'
    have hb := Heap.lt_size e
    rcases List.mem_cons.mp z with z | z
    · exact Nat.ne_of_lt hb z
    · have hn := W.new
      have hn : (s.heap.push L0).objs.size ≤ I := hn
      rw [hz1] at hn
      rw [List.mem_singleton.mp z] at hb
      exact absurd (Nat.lt_of_lt_of_le hb (Nat.le_of_succ_le hn)) (Nat.lt_irrefl _)
  have kS : ∀ b o, s.heap.get? b = some o → h1.get? b = some o := fun b o e => hk1 b o (Heap.get?_push_of_some _ e)
  have g1 := hk1 _ _ g0
  have done : ∀ h3 tk3 c3, (∀ b o, s.heap.get? b = some o → h3.get? b = some o) → h3.get? s.heap.objs.size = some ({ cls := .type "list", data := .seq ord.toArray c3 } : Obj) → R ord { s with heap := h3, toks := tk3, drawn := d1 } := fun h3 tk3 c3 hk _ => h h3 tk3 d1 ord ys W.pm W.st hk
  refine wpAny_ite_split (fun _ => ?_) (fun _ => wpAny_pure ⟨plainId_quiet PySem.F.plain_extend_loop _, key h1 0 s.toks W.s0 kS g1 fun h3 tk3 c3 hk gS => ?_⟩)
  · refine wpAny_bind (wpAny_rule (wpAny_bind (show wpAny _ _ (updateSeq s.heap.objs.size (·.push .none) >>= fun _ => updateSeq s.heap.objs.size (·.pop)) _ _ _ from wpAny_bind (wpAny_updateSeq g1 rfl ?_))))
    have g2 := Heap.get?_update_self (Obj.mapSeq (·.push Value.none)) g1 rfl
    refine wpAny_updateSeq (hz := by seq_fits) g2 rfl ?_
    have g3 := Heap.get?_update_self (Obj.mapSeq (·.pop)) g2 rfl
    have oth : ∀ b o, b ≠ s.heap.objs.size → h1.get? b = some o → ((h1.update s.heap.objs.size (Obj.mapSeq (·.push Value.none))).update s.heap.objs.size (Obj.mapSeq (·.pop))).get? b = some o := fun b o hb e => (Heap.get?_update_other _ _ (Ne.symm hb)).trans ((Heap.get?_update_other _ _ (Ne.symm hb)).trans e)
    refine wpAny_pure ⟨plainId_quiet PySem.F.plain_extend_loop _, key _ _ s.toks ((W.wk A.in1 hh).frame 0 { s with heap := h1, drawn := d1 } _ s.toks W.s0 (Nat.le_refl _) fun b hb o e => oth b o (fun z => hSf (z ▸ hb)) e) (fun b o e => oth b o (Nat.ne_of_lt (Heap.lt_size e)) (kS b o e)) g3 fun h3 tk3 c3 hk gS => ?_⟩
    refine (show wpAny _ A (load s.heap.objs.size >>= _) _ _ _ from wpAny_bind (wpAny_load gS ?_))
    exact wpAny_pure (done h3 tk3 c3 hk gS)
  · refine (show wpAny _ A (load s.heap.objs.size >>= _) _ _ _ from wpAny_bind (wpAny_load gS ?_))
    exact wpAny_pure (done h3 tk3 c3 hk gS)
end
end L2

set_option Elab.async false
set_option linter.all false
set_option maxRecDepth 100000
set_option maxHeartbeats 4000000
namespace L2
open PySem PyProof.Rows
theorem Inv.drew {X : Cx} {pins : List (Addr × Obj)} {σ : St} {H : Hp} {s : Shared} (I : Inv X pins σ H s) (d : Drawn) : Inv X pins σ H { s with drawn := d } :=
  I.step (h' := s.heap) (g' := s.gens) (d' := d) (t' := s.toks) (ch := []) (fun _ z => nomatch z) (fun b o _ _ _ e _ => e) (fun b o _ _ _ e _ => ⟨o.slots, e⟩) (fun _ _ _ _ n => n) (fun b o _ e => ⟨o, e⟩) (fun _ _ e => e) (fun _ _ _ e => e) (fun b ps e => ⟨#[], by rw [e]; simp⟩) (fun m hm => hm) I.hok I.bare
section
variable {X : Cx} {pins : List (Addr × Obj)} {σ : St} {H : Hp} {s : Shared}
/-- sorted of a set of texts -/
theorem sorted_set {a : Addr} {xs : List Str} {Q : VK} (hc : X.calm = true) (I : Inv X pins σ H s) (hS : TxSet X.prog X.w s.heap a xs (!byT X.w)) (hz : xs.length < scanBound)
    (q : ∀ (ys : List Str) (p : Addr), ys.Perm xs → sortedS ys = true → H p = none → Q (.ref p) (upd H p (.lst (ys.map V.str)))) : wpAny (model X.prog X.w) X.A (call (.builtin "sorted") [.ref a]) (EP X pins σ Q) X.xe s := by
  have hz' : xs.length ≤ sizeLine := fits_of_scanBound hz
  refine PySem.Calls.call_function_entry kind_sorted plain_sorted entry_sorted (args_sorted1 _) ?_
  unfold Builtin.«sorted»
  refine wpAny_bind (m := checkCount "sorted" 1 1 _) (wpAny_pure (wpAny_bind (collect_set (A := X.A.in1) (I.ok.hd hc) hS hz' fun h' tk d vs ys hp hv hk => ?_)))
  have hlv : vs.length ≤ sizeLine := by rw [strs_len hv, hp.length_eq]; exact hz'
  refine wpAny_bind (wpAny_newList ?_ hlv)
  have I1 : Inv X pins σ H { s with heap := h', toks := tk, drawn := d } := (I.kept (t' := tk) hk).drew d
  have gL : (h'.push { cls := .type "list", data := .seq vs.toArray }).get? h'.objs.size = some (seqObj "list" vs.toArray 0) := Heap.get?_push_size _ rfl
  refine wpAny_bind (wpAny_holding (wpAny_call_entry slot_list_sort ⟨_, gL, rfl⟩ entry_list_sort (list_sort_treeKAny (s := { s with heap := h'.push { cls := .type "list", data := .seq vs.toArray }, toks := tk, drawn := d }) strKind_oneLt gL hv.keysOf (fun v1 v2 rest e => keyKind_strs (by rw [← e]; exact hv)) hlv fun st' h1 h2 => ⟨_, rfl, ?_⟩) (args_list_sort _)))
  obtain ⟨zs, g1, g2, g3⟩ := sorted_out_str hv h1 h2
  obtain ⟨ep', he'⟩ := sortedHeap_at (vs := vs) (out := (arrOf st').map (·.2)) gL
  refine wpAny_pure ⟨_, rfl, .ref _, upd H h'.objs.size (.lst (zs.map V.str)), I1.laid (t' := tk) (fun b o e => ?_) (Nat.le_refl _) ⟨by rw [List.length_map, g2.length_eq, hp.length_eq]; exact hz', ((arrOf st').map (·.2)).toList, ep', vals_of_strs g1, by rw [he']⟩, rfl, q zs _ (g2.trans hp) g3 (I1.hok.fresh (Nat.le_refl _))⟩
  have hlt := Heap.lt_size e
  rw [sortedHeap_old (Nat.ne_of_lt hlt) (by rw [size_push']; exact Nat.lt_succ_of_lt hlt)]
  exact Heap.get?_push_of_some _ e
end
/-- where the texts come from -/
def SrcOf (K : PySem.W.Frag) (H : Hp) (vs : List V) (ts : List Str) : Prop := (∃ z : Str, vs = [.str z] ∧ ts = z.cps.toList.map fun c => (⟨#[c]⟩ : Str)) ∨ ∃ a, vs = [.ref a] ∧ SqL K H a (ts.map V.str)
def tSortSet (K : PySem.W.Frag) (t : TA) : TE := fun σ H Q => t σ H fun vs H1 => ∃ ts : List Str, SrcOf K H1 vs ts ∧ ts.length < 4000 ∧ ∀ (ys : List Str) (p : Addr), ys.Nodup → (∀ x, x ∈ ys ↔ x ∈ ts) → sortedS ys = true → H1 p = none → Q (.ref p) (upd H1 p (.lst (ys.map V.str)))
def tLenSet (K : PySem.W.Frag) (t : TA) : TE := fun σ H Q => t σ H fun vs H1 => ∃ ts : List Str, SrcOf K H1 vs ts ∧ ts.length < 4000 ∧ ∀ (ys : List Str), ys.Nodup → (∀ x, x ∈ ys ↔ x ∈ ts) → Q (.int ys.length) H1
section
variable {X : Cx} {e : Expr} {t : TA} {p1 p2 pos pos2 : Pos}
theorem set_src {pins : List (Addr × Obj)} {σ : St} {H : Hp} {s : Shared} {vs : List V} {us : List Value} {ts : List Str} {Q : Value → Shared → Prop} (hc : X.calm = true) (I : Inv X pins σ H s) (r : Vals vs us) (hs : SrcOf X.K H vs ts) (hl : ts.length < 4000)
    (q : ∀ h' tk xs, TxSet X.prog X.w h' s.heap.objs.size xs (!byT X.w) → xs.Nodup → (∀ x, x ∈ xs ↔ x ∈ ts) → (∀ b o, s.heap.get? b = some o → h'.get? b = some o) → Q (.ref s.heap.objs.size) { s with heap := h', toks := tk }) :
    wpAny (model X.prog X.w) X.A (call (.type "set") us) Q X.xe s := by
  rcases hs with ⟨z, rfl, rfl⟩ | ⟨a, rfl, hq⟩
  · obtain ⟨u, rfl, ru⟩ := vals1 r
    obtain ⟨tk, rfl⟩ := ru
    have hz : z.cps.size < 4000 := by rw [List.length_map, Array.length_toList] at hl; exact hl
    refine set_of_text (I.ok.hd hc) (by show z.cps.size + 1 < 4096; omega) fun h' tk' xs hS nd hm hk => q h' tk' xs hS nd (fun x => ?_) hk
    rw [hm, List.mem_map]
    constructor
    · rintro ⟨c, h1, rfl⟩; exact ⟨c, h1, rfl⟩
    · rintro ⟨c, h1, rfl⟩; exact ⟨c, h1, rfl⟩
  · rw [Vals.ref1 r]
    obtain ⟨its, rv, hli, _⟩ := I.list hq
    refine set_of_list (I.ok.hd hc) hli.isList (by simpa using rv.strs) (by show ts.length + 1 < 4096; omega) fun h' tk' xs hS nd hm hk => q h' tk' xs hS nd hm hk
theorem set_len {val : Nat → Str} {xs : List Str} {ts : List Str} (nd : xs.Nodup) (hm : ∀ x, x ∈ xs ↔ x ∈ ts) : xs.length ≤ ts.length := by
  refine nodup_le (val := fun i => ts.getD i ⟨#[]⟩) nd fun x hx => ?_
  obtain ⟨i, hi, rfl⟩ := List.getElem_of_mem ((hm x).mp hx)
  exact ⟨i, hi, by show ts.getD i _ = _; rw [List.getD_eq_getElem?_getD, List.getElem?_eq_getElem hi]; rfl⟩
theorem pe_sortedSet (hc : X.calm = true) (hg1 : Gl X "sorted") (hm1 : X.mg "sorted" = none) (hg2 : Gl X "set") (hm2 : X.mg "set" = none) (ha : PA X [e] t)
    (he : starEach [e] X.env = [(false, eval e X.env)] := by rfl) : PE X (.Call (.Name "sorted" p1) [.Call (.Name "set" p2) [e] [] pos2] [] pos) (tSortSet X.K t) := by
  intro pins s σ H Q I h
  refine wpAny_Call_Name_kw (ld_blt I hg1 hm1 (u := .builtin "sorted") (by decide +kernel) ?_ (by decide) (by decide))
  refine callWith_builtin1 (Calls.spliced_cons (wpAny_Call_Name_kw (ld_blt I hg2 hm2 (u := .type "set") (by decide +kernel) ?_ (by decide) (by decide)))) rfl rfl
  refine callWith_type1 (thn (ha pos2 pins s σ H _ I h) fun us s1 ⟨vs, H1, I1, r1, ts, hs, hl, q⟩ => ?_) he rfl
  refine set_src hc I1 r1 hs hl fun h' tk xs hS nd hm hk => Calls.spliced_nil ?_
  have hxl : xs.length < 4000 := Nat.lt_of_le_of_lt (set_len (val := fun _ => ⟨#[]⟩) nd hm) hl
  exact sorted_set hc (I1.kept (t' := tk) hk) hS (by show xs.length < 4096; omega) fun ys p pm so hp => q ys p (pm.nodup_iff.mpr nd) (fun x => by rw [pm.mem_iff, hm]) so hp
theorem pe_lenSet (hc : X.calm = true) (hg1 : Gl X "len") (hm1 : X.mg "len" = none) (hg2 : Gl X "set") (hm2 : X.mg "set" = none) (ha : PA X [e] t)
    (he : starEach [e] X.env = [(false, eval e X.env)] := by rfl) : PE X (.Call (.Name "len" p1) [.Call (.Name "set" p2) [e] [] pos2] [] pos) (tLenSet X.K t) := by
  intro pins s σ H Q I h
  refine wpAny_Call_Name_kw (ld_blt I hg1 hm1 (u := .builtin "len") (by decide +kernel) ?_ (by decide) (by decide))
  refine callWith_builtin1 (Calls.spliced_cons (wpAny_Call_Name_kw (ld_blt I hg2 hm2 (u := .type "set") (by decide +kernel) ?_ (by decide) (by decide)))) rfl rfl
  refine callWith_type1 (thn (ha pos2 pins s σ H _ I h) fun us s1 ⟨vs, H1, I1, r1, ts, hs, hl, q⟩ => ?_) he rfl
  refine set_src hc I1 r1 hs hl fun h' tk xs hS nd hm hk => Calls.spliced_nil ?_
  obtain ⟨es, ep, tb, ho, T⟩ := id hS
  have hxl : xs.length < 4000 := Nat.lt_of_le_of_lt (set_len (val := fun _ => ⟨#[]⟩) nd hm) hl
  have hln := T.len
  have I2 : Inv X pins σ H1 { s1 with heap := h', toks := tk } := I1.kept (t' := tk) hk
  refine call_len_set ho ⟨rfl, rfl, rfl⟩ rfl T.ft (by omega) ?_
  exact ⟨.int xs.length, H1, I2.tok _, ⟨_, by rw [hln]⟩, q xs nd hm⟩
end
end L2

set_option Elab.async false
set_option linter.all false
set_option maxRecDepth 100000
set_option maxHeartbeats 4000000
namespace WM
/-- the signs that turns strike from a place -/
def stkP (l : List Nat) (p : Int) (ts : List Int) : Int × List Nat := ts.foldl (fun q t => ((q.1 + t) % (l.length : Int), q.2 ++ [l.getD ((q.1 + t) % (l.length : Int)).toNat 0])) (p, [])
/-- the word from each place -/
def wds (l : List Nat) (ts : List Int) : List (List Nat) := (List.range l.length).map fun k => (stkP l (k : Nat) ts).2
/-- where the head may have stood -/
def plb (l : List Nat) (ts : List Int) (o : List Nat) : List Nat := (List.range l.length).filter fun k => decide ((stkP l (k : Nat) ts).2 = o)
/-- are all words unlike -/
def apart (l : List Nat) (ts : List Int) : Bool := decide ((wds l ts).Nodup)
/-- what is refused of a report of turns -/
def rep (l o : List Nat) (ts : List Int) : Nat := if W.isWh l = false then 11 else if W.isW o = false then 12 else if ts.length ≠ o.length then 10 else 99
def kdr (n : Nat) : PySem.Str := if n = 11 then "NoWheel+" else if n = 12 then "NoWord+" else if n = 10 then "NoTurns+" else if n = 0 then "Lacks+" else ""
end WM
namespace L2
open PySem PySem.Spec PyProof.Rows
def CDivW (_ j : Int) : Prop := 0 < j ∧ j < 2 ^ 200
theorem op_fdivW {X : Cx} : OpR X (binaryOp .FloorDiv) (rI CDivW fun i j => .int (i / j)) := opI fun i j _ _ _ _ _ hc q => by
  have h1 : (0 : Int) < j := hc.1
  have h2 : j < 2 ^ 200 := hc.2
  refine floordiv_int (by omega) (by rw [Int.fdiv_eq_ediv_of_nonneg i (by omega)]; exact q) (.inl (PyProof.noPylong_of_log2 ?_))
  have h3 : j.natAbs.log2 < 200 := (Nat.log2_lt (by omega)).mpr (by
    have e : ((2 ^ 200 : Nat) : Int) = (2 : Int) ^ 200 := by norm_cast
    omega)
  omega
end L2
namespace W
open PySem L2 WM
def spDrawW : Sp := fun vs H Q _ => ∃ (p : Addr) (m : Int), vs = [.ref p, .int m] ∧ DrAt H p ∧ (0 < m ∧ m < 2 ^ 200) ∧ ∀ (r : Int) (H' : Hp), 0 ≤ r → r < m → DrAt H' p → But p H H' → Q (.int r) H'
end W

set_option Elab.async false
set_option linter.all false
set_option maxRecDepth 100000
set_option maxHeartbeats 4000000
namespace L2
open PySem PyProof.Rows
/-! min, max of two texts -/
def ltS (a b : Str) : Bool := decide (a.cps.toList < b.cps.toList)
section
variable {prog : Program} {w : World} {A : Around} {E : Value → Shared → Prop} {s : Shared}
def valTwo (a b : Str) (i : Nat) : Str := if i = 0 then a else b
end
section
variable {X : Cx}
/-! sorted of any number of texts -/
def rSortedSA (K : PySem.W.Frag) : List V → Hp → VK → Prop := fun vs H Q => ∃ (a : Addr) (xs : List Str), vs = [V.ref a] ∧ SqL K H a (xs.map V.str) ∧ xs.length ≤ sizeLine ∧
  ∀ (ys : List Str) (p : Addr), ys.Perm xs → sortedS ys = true → H p = none → Q (.ref p) (upd H p (.lst (ys.map V.str)))
/-! list(d), d a dict with texts or ints as keys -/
def rListDK : List V → Hp → VK → Prop := fun vs H Q => ∃ (d : Addr) (kvs : List (Key × V)), vs = [V.ref d] ∧ H d = some (.dK kvs) ∧ ∀ p : Addr, H p = none → Q (.ref p) (upd H p (.lst (kvs.map fun kv => kV kv.1)))
end
end L2

set_option Elab.async false
set_option linter.all false
set_option maxRecDepth 100000
set_option maxHeartbeats 4000000
namespace WM
/-! counts by pairs of signs -/
abbrev Pr := Nat × Nat
section
variable {α : Type} [DecidableEq α]
def cnP (xs : List α) (k : α) : Nat := xs.countP fun x => decide (x = k)
def lkP (m : List (α × Int)) (k : α) : Option Int := (m.find? fun x => decide (x.1 = k)).map (·.2)
def ptP (m : List (α × Int)) (k : α) (v : Int) : List (α × Int) := if (m.any fun x => decide (x.1 = k)) = true then m.map (fun x => if x.1 = k then (x.1, v) else x) else m ++ [(k, v)]
structure CntM (m : List (α × Int)) (xs : List α) : Prop where
  nd : (m.map (·.1)).Nodup
  mem : ∀ k n, (k, n) ∈ m ↔ (n = (cnP xs k : Int) ∧ 0 < cnP xs k)
end
section
open L2
variable {α κ : Type} [DecidableEq α] [DecidableEq κ] (kf : α → κ) (inj : ∀ a b, kf a = kf b → a = b)
/-- counts as a dict has them -/
def entK (m : List (α × Int)) : List (κ × V) := m.map fun x => (kf x.1, V.int x.2)
include inj
end
/-- neighbours in a word, the lesser sign first -/
def adjP (p : Pr) : Pr := (min p.1 p.2, max p.1 p.2)
def adj (w : List Nat) : List Pr := ((w.zip (w.drop 1)).filter fun p => decide (p.1 ≠ p.2)).map adjP
def adjU (w : List Nat) (i : Nat) : List Pr := (((w.zip (w.drop 1)).take i).filter fun p => decide (p.1 ≠ p.2)).map adjP
def adjs (bk : List (List Nat)) : List Pr := bk.flatMap adj
/-- what comes first -/
def pLt (a b : Pr) : Prop := a.1 < b.1 ∨ (a.1 = b.1 ∧ a.2 < b.2)
/-- the pairs of a book, told -/
structure IsPrs (xs : List Pr) (ps : List (Pr × Int)) : Prop where
  srt : ps.Pairwise fun a b => pLt a.1 b.1
  mem : ∀ k n, (k, n) ∈ ps ↔ (n = (cnP xs k : Int) ∧ 0 < cnP xs k)
/-- a cut -/
def cutV' (ps : List (Pr × Int)) (sg : List Nat) : Int := ((ps.filter fun x => decide (x.1.1 ∈ sg) != decide (x.1.2 ∈ sg)).map (·.2)).sum
/-- the signs of a book -/
def IsSg (bk : List (List Nat)) (sg : List Nat) : Prop := sg.Pairwise (· < ·) ∧ ∀ c, c ∈ sg ↔ c ∈ bk.flatten
end WM

set_option Elab.async false
set_option linter.all false
set_option maxRecDepth 100000
set_option maxHeartbeats 4000000
namespace W
open PySem L2 WM PyProof.Rows
def wkey (p : Pr) : Key := .inr (txt [p.1, p.2])
def tkey (p : Pr) : List Key := [.inr (txt [p.1]), .inr (txt [p.2])]
/-! sorted texts -/
/-! books in the heap -/
def isBk (bk : List (List Nat)) : Bool := decide (bk.length ≤ 20) && bk.all isW
/-- a pair of signs with its count -/
def Tr3s (H : Hp) (q : Addr) (x : Pr × Int) : Prop := H q = some (.tup [.str (txt [x.1.1]), .str (txt [x.1.2]), .int x.2])
def PrsAt (H : Hp) (a : Addr) (ps : List (Pr × Int)) (qs : List Addr) : Prop := H a = some (.lst (qs.map V.ref)) ∧ All2 (Tr3s H) qs ps
def d3s (x : Pr × Int) : PyData := .tuple [.str (txt [x.1.1]), .str (txt [x.1.2]), .int x.2]
def dPrs (ps : List (Pr × Int)) : PyData := .list (ps.map d3s)
end W
namespace W
open PySem L2 WM
/-- a dict of counts by tuples, by texts of two signs -/
def CntT (H : Hp) (d : Addr) (xs : List Pr) (m : List (Pr × Int)) : Prop := H d = some (.dT (entK tkey m)) ∧ CntM m xs
def CntW (H : Hp) (d : Addr) (xs : List Pr) (m : List (Pr × Int)) : Prop := H d = some (.dK (entK wkey m)) ∧ CntM m xs
end W

set_option Elab.async false
set_option linter.all false
set_option maxRecDepth 100000
set_option maxHeartbeats 4000000
namespace L2
open PySem WM
section
variable {D : Addr} {g : TG} {tt : TT} {te : TE} {vs : List Nat} {σ : St} {H1 : Hp} {Qd : Hp → Prop} {α : Type}
end
section
variable {g : TG} {tb : TS} {D : Ends} {σ : St} {H : Hp}
end
end L2
namespace W
open PySem L2 WM
theorem lt_sgn (a b : Nat) : decide ((txt [a]).cps.toList < (txt [b]).cps.toList) = decide (a < b) := decide_eq_decide.mpr (Iff.of_eq (lt1 a b))
end W

set_option Elab.async false
set_option linter.all false
set_option maxRecDepth 100000
set_option maxHeartbeats 4000000
namespace L2
open PySem PySem.Spec PyProof.Rows
section
variable {X : Cx}
/-- text.index(sign), where the sign is there -/
def rIndexS : V → List V → Hp → VK → Prop := fun x xs H Q => ∃ (z : Str) (c : Nat), x = V.str z ∧ xs = [V.str ⟨#[c]⟩] ∧ c ∈ z.cps.toList ∧ Q (.int (z.cps.toList.idxOf c : Nat)) H
/-- sorted(text) -/
def rSortedT1 : List V → Hp → VK → Prop := fun vs H Q => ∃ z : Str, vs = [V.str z] ∧ z.length ≤ sizeLine ∧
  ∀ (ys : List Str) (p : Addr), ys.Perm (z.cps.toList.map fun c => (⟨#[c]⟩ : Str)) → sortedS ys = true → H p = none → Q (.ref p) (upd H p (.lst (ys.map V.str)))
end
/-- f(g(..)) within try, f built in, g may raise -/
def qB1 (r : List V → Hp → VK → Prop) (te : TEx) : TEx := fun σ H Q R => te σ H (fun v H1 => r [v] H1 Q) R
end L2

set_option Elab.async false
set_option linter.all false
set_option maxRecDepth 100000
set_option maxHeartbeats 4000000
namespace W
open PySem L2 WM PyProof.Rows
/-- an order of a book's signs -/
def IsOrd (bk : List (List Nat)) (l : List Nat) : Prop := l.Nodup ∧ ∀ c, c ∈ l ↔ c ∈ bk.flatten
/-! places -/
def skey (c : Nat) : Key := .inr (txt [c])
def plcs (l : List Nat) : List (Nat × Int) := l.zipIdx.map fun x => (x.1, (x.2 : Int))
/-! reach and spread -/
def wyR (n a b : Int) : Int := min (if a - b < 0 then -(a - b) else a - b) (n - (if a - b < 0 then -(a - b) else a - b))
def rchV (l : List Nat) (ps : List (Pr × Int)) : Int := (ps.map fun x => x.2 * wyR l.length (l.idxOf x.1.1) (l.idxOf x.1.2)).sum
def sprV (l : List Nat) (ps : List (Pr × Int)) : Int := (ps.map fun x => x.2 * (if (l.idxOf x.1.1 : Int) - (l.idxOf x.1.2 : Int) < 0 then -((l.idxOf x.1.1 : Int) - (l.idxOf x.1.2 : Int)) else (l.idxOf x.1.1 : Int) - (l.idxOf x.1.2 : Int))).sum
/-- the halves of an order -/
def hlv (l : List Nat) : List (List Nat) := (List.range l.length).map fun i => ((l ++ l).drop i).take (l.length / 2)
end W

set_option Elab.async false
set_option linter.all false
set_option maxRecDepth 100000
set_option maxHeartbeats 4000000
namespace W
open PySem L2 WM PyProof.Rows
/-! counting -/
def sumN (f : Nat → Nat) : Nat → Nat
  | 0 => 0
  | n + 1 => sumN f n + f n
def iv (lo hi : Int) (i : Nat) : Nat := if lo < (i : Int) ∧ (i : Int) ≤ hi then 1 else 0
/-! places -/
/-! windows that hold just one of two places -/
def xr (p q : Prop) [Decidable p] [Decidable q] : Bool := decide p != decide q
def inHalf (a n k i : Nat) : Prop := (i ≤ a ∧ a < i + k) ∨ a + n < i + k
instance (a n k i : Nat) : Decidable (inHalf a n k i) := by unfold inHalf; infer_instance
/-! orders turned and from the end -/
end W

set_option Elab.async false
set_option linter.all false
set_option maxRecDepth 100000
set_option maxHeartbeats 4000000
namespace W
open PySem L2 WM PyProof.Rows
/-! wheels with each sign once, no slack -/
noncomputable def cW (l : List Nat) : List Nat → Nat → Int
  | [], _ => 0
  | c :: o, p => wyR l.length p (l.idxOf c) + cW l o (l.idxOf c)
noncomputable def cM (l : List Nat) : List Nat → Nat → Int
  | [], _ => 1
  | c :: o, p => (if 2 * (if (p : Int) - (l.idxOf c : Int) < 0 then -((p : Int) - (l.idxOf c : Int)) else (p : Int) - (l.idxOf c : Int)) = (l.length : Int) then 2 else 1) * cM l o (l.idxOf c)
/-! reach as the sum of the words' costs -/
noncomputable def wyP (l : List Nat) (x : Pr) : Int := wyR l.length (l.idxOf x.1) (l.idxOf x.2)
noncomputable def wCost (l w : List Nat) : Int := match w with | [] => 0 | a :: r => cW l (a :: r) (l.idxOf a)
end W

set_option Elab.async false
set_option linter.all false
set_option maxRecDepth 100000
set_option maxHeartbeats 4000000
/-! min of a list of tuples of ints and texts, all of one kind place by place -/
namespace L2
open PySem PySem.Spec PyProof.Rows
def kKind : Key → Bool
  | .inl _ => false
  | .inr _ => true
def kLt (a b : List Key) : Bool := PyProof.Rows.lexLt PyProof.Rows.itemOrd (a.map kItem) (b.map kItem)
section
open PySem.SeqAt
open PySem.AutoSeq1 (wpAny_loadPart')
open PySem.MeetsSeq PySem.MeetsSeq2 PySem.MeetsSeq3
end
section
variable {prog : Program} {w : World} {A : Around} {E : Value → Shared → Prop} {s : Shared}
end
/-- what the heap has of a list of tuples of keys -/
def KeysHp (h : Heap) (its : List Value) (xs : List (List Key)) : Prop := ∀ (i : Nat) (v : Value), its[i]? = some v → ∃ b items, v = .ref b ∧ IsTup h b items ∧ Vals ((xs.getD i []).map kV) items.toList
section
variable {X : Cx}
/-- min of a list of tuples of keys, told from what is known of the least one -/
def rMinK (K : PySem.W.Frag) : List V → Hp → VK → Prop := fun vs H Q => ∃ (a : Addr) (qs : List Addr) (kss : List (List Key)) (sh : List Bool), vs = [V.ref a] ∧ SqL K H a (qs.map V.ref) ∧ TupsAt H qs kss ∧ (∀ ks ∈ kss, ks.map kKind = sh) ∧ 0 < kss.length ∧ ∀ q ks, ks ∈ kss → H q = some (.tup (ks.map kV)) → (∀ ms ∈ kss, kLt ms ks = false) → Q (.ref q) H
end
end L2

set_option Elab.async false
set_option linter.all false
set_option maxRecDepth 100000
set_option maxHeartbeats 4000000
/-! loops of comprehensions with two clauses: one rule for each source, whatever a turn does -/
namespace L2
open PySem WM
section
variable {K : PySem.W.Frag} {a : Addr} {B : V → Hp → (Hp → Prop) → Prop} {S : Hp} {Qd : Hp → Prop}
end
end L2

set_option Elab.async false
set_option linter.all false
set_option maxRecDepth 100000
set_option maxHeartbeats 4000000
/-! a wheel with one sign more -/
namespace WM
open PySem L2 W
def wmore (l : List Nat) (p c : Nat) : List Nat := l.take p ++ [c] ++ l.drop p
def IsSo (o sg : List Nat) : Prop := sg.Pairwise (· < ·) ∧ ∀ c, c ∈ sg ↔ c ∈ o
def lck (l sg : List Nat) : List Nat := sg.filter fun c => !decide (c ∈ l)
def toAdd (l sg : List Nat) : List Nat := if lck l sg = [] then sg else lck l sg
/-- two signs of o that l lacks -/
def TwoL (l o : List Nat) : Prop := ∃ a ∈ o, ∃ b ∈ o, a ∉ l ∧ b ∉ l ∧ a ≠ b
/-- a try: its cost, its place, its sign -/
abbrev Try := Int × Nat × Nat
def tKey (t : Try) : List Key := [.inl t.1, .inl (t.2.1 : Int), .inr (txt [t.2.2])]
noncomputable def tCost (l o : List Nat) (s : Int) (p c : Nat) : Try := ((nd (wmore l p c) s o (0, 0)).1, p, c)
/-- the best of all tries -/
structure IsBest (l o : List Nat) (s : Int) (t : Try) : Prop where
  mem : ∃ p c, p ≤ l.length ∧ c ∈ o ∧ (∀ x ∈ o, x ∈ wmore l p c) ∧ t = tCost l o s p c
  low : ∀ p c, p ≤ l.length → c ∈ o → (∀ x ∈ o, x ∈ wmore l p c) → kLt (tKey (tCost l o s p c)) (tKey t) = false
open Classical in
/-- what is refused of a sign more, or 99 -/
noncomputable def bmr (l o : List Nat) (s : Int) : Nat := if isWh l = false then 11 else if isW o = false then 12 else if okS s = false then 8 else if l.length ≤ 12 ∧ 1 ≤ o.length ∧ o.length ≤ 20 then (if TwoL l o then 0 else 99) else 13
def kn (n : Nat) : Str := if n = 11 then "NoWheel+" else if n = 12 then "NoWord+" else if n = 8 then "NoSlack+" else if n = 0 then "Lacks+" else "TooMany+"
end WM

set_option Elab.async false
set_option linter.all false
set_option maxRecDepth 100000
set_option maxHeartbeats 4000000
/-! strikers: deeds one after another, and what they come to -/
namespace WM
open PySem L2
/-- the stand behind some turns -/
def stdL (l : List Nat) (ts : List Int) : Std := ts.foldl (bh l) (0, 0)
end WM
namespace W
open PySem L2 WM
/-! a method that may be called -/
def CalM (P : Program) (w : World) (K : PySem.W.Frag) (mg : Str → Option Value) (base : Heap) (CX : CXT) (k : Nat) (C : Addr) (m : Str) (ps : List Str) (sp : Sp) : Prop :=
  ∃ f fd, FnOk P w K mg base CX k f fd ps sp ∧ Binds K fd ps [] ∧ Meth K C m f
def DefM (K : PySem.W.Frag) (C : Addr) (m qual : Str) (st : Stmt) (ps : List Str) : Prop := ∃ f fd, Fun K m qual st f fd ∧ Binds K fd ps [] ∧ Meth K C m f
/-- a class of one's own, as it is made -/
def CalC (P : Program) (w : World) (K : PySem.W.Frag) (mg : Str → Option Value) (base : Heap) (CX : CXT) (k : Nat) (C : Addr) (x : Str) (ps : List Str) (sp : Sp) : Prop :=
  ∃ f fd, FnOk P w K mg base CX k f fd ps sp ∧ Binds K fd ps [] ∧ Mk K C f ∧ mg x = some (.ref C)
/-- the attributes of a striker, in the order in which they are stored -/
def sflds (l : List Nat) (s : Int) (d : Addr) : List (Str × V) := putF "deeds" (.ref d) (putF "slack" (.int s) (putF "wheel" (.str (txt l)) []))
/-- what the class has -/
structure SCls (K : PySem.W.Frag) (C : Addr) : Prop where
  cl : Cls K C
  nW : NoAttr K C "wheel"
  nS : NoAttr K C "slack"
  nD : NoAttr K C "deeds"
section
variable {K : PySem.W.Frag}
/-- one deed at q: pre the turns ahead of it, ts its own -/
def DeedAt (K : PySem.W.Frag) (H : Hp) (l : List Nat) (s : Int) (pre ts : List Int) (q : Addr) : Prop := ∃ (tq sq : Addr) (sg : List Nat), H q = some (.tup [.ref tq, .str (txt sg), .ref sq, .int (cf s (pre ++ ts)).1]) ∧ SqT K H tq (ts.map V.int) ∧
  SqT K H sq [.int (stdL l (pre ++ ts)).1, .int (stdL l (pre ++ ts)).2] ∧ (stk l pre).2 ++ sg = (stk l (pre ++ ts)).2
inductive Deeds (K : PySem.W.Frag) (H : Hp) (l : List Nat) (s : Int) : List Addr → List (List Int) → Prop
  | nil : Deeds K H l s [] []
  | snoc {qs : List Addr} {tss : List (List Int)} {q : Addr} {ts : List Int} : Deeds K H l s qs tss → DeedAt K H l s tss.flatten ts q → Deeds K H l s (qs ++ [q]) (tss ++ [ts])
/-- a striker at x, its deeds at d -/
structure StrAt (K : PySem.W.Frag) (C : Addr) (H : Hp) (x d : Addr) (l : List Nat) (s : Int) (tss : List (List Int)) : Prop where
  ob : ∃ dx, H x = some (.ins C dx (sflds l s d))
  ds : ∃ qs, H d = some (.lst (qs.map V.ref)) ∧ Deeds K H l s qs tss
end
end W

set_option Elab.async false
set_option linter.all false
set_option maxRecDepth 100000
set_option maxHeartbeats 4000000
/-! plans from any stand, gone through on the wheel turned -/
namespace WM
open PySem L2 W
/-- costs from a way, turn by turn -/
def cwf (s : Int) (w : Int) (ts : List Int) : Int × Int := ts.foldl (fun p t => (p.1 + tc p.2 t s, wb p.2 t)) (0, w)
end WM

set_option Elab.async false
set_option linter.all false
set_option maxRecDepth 100000
set_option maxHeartbeats 4000000
/-! methods that may raise, and classes whose __init__ may, within a try -/
namespace L2
open PySem PySem.Spec PyProof.Rows
section
variable {X : Cx} {C f : Addr} {k : Nat} {fd : FuncData} {ps : List Str} {sp : Sp} {m x : Str} {p pos apos : Pos} {e o : Expr} {es : List Expr} {ta : TE} {t : TA}
def qMeth (C : Addr) (m : Str) (sp : Sp) (ta : TE) (t : TA) : TEx := fun σ H Q R => ta σ H fun x H1 => ∃ a dx fs, x = .ref a ∧ H1 a = some (.ins C dx fs) ∧ fs.lookup m = none ∧ t σ H1 fun vs H2 => sp (x :: vs) H2 Q fun c _ H2 => ∃ C, c = .ref C ∧ R σ C H2
def qMake (C : Addr) (sp : Sp) (t : TA) : TEx := fun σ H Q R => t σ H fun vs H1 => ∀ x dx, H1 x = none → H1 dx = none → dx ≠ x → sp (.ref x :: vs) (upd (upd H1 dx (.own x)) x (.ins C dx [])) (fun v H2 => v = .non ∧ Q (.ref x) H2) fun c _ H2 => ∃ C, c = .ref C ∧ R σ C H2
/-- isinstance(t, tuple) of a tuple, tracked or the module's own -/
def rIsiT (K : PySem.W.Frag) : List V → Hp → VK → Prop := fun xs H Q => ∃ (a : Addr) (ys : List V), xs = [.ref a, .ty "tuple"] ∧ SqT K H a ys ∧ Q (.bl true) H
end
end L2

set_option Elab.async false
set_option linter.all false
set_option maxRecDepth 100000
set_option maxHeartbeats 4000000
/-! rows of stands that are reached, and what is left from each -/
namespace WM
open PySem L2
/-- reached behind k signs of o, from st -/
def Rch (l o : List Nat) (st : Std) : Nat → Std → Prop
  | 0, x => x = st
  | k + 1, x => ∃ y t c, Rch l o st k y ∧ o[k]? = some c ∧ t ∈ tts l y.1 c ∧ x = bh l y t
end WM
namespace W
open PySem L2 WM
/-- a dict of truths, by stands -/
def RB (x : Std × Bool) (kv : List Key × V) : Prop := kv = (key x.1, .bl x.2)
def DicB (H : Hp) (d : Addr) (m : List (Std × Bool)) : Prop := ∃ kvs, H d = some (.dT kvs) ∧ All2 RB m kvs
end W

set_option Elab.async false
set_option linter.all false
set_option maxRecDepth 100000
set_option maxHeartbeats 4000000
namespace WM
/-! the least of pairs, and the sum of what goes with it -/
structure GBest (xs : List (Int × Int)) (r : Int × Int) : Prop where
  mem : r.1 ∈ xs.map (·.1)
  le : ∀ y ∈ xs.map (·.1), r.1 ≤ y
  cnt : r.2 = ((xs.filter fun x => decide (x.1 = r.1)).map (·.2)).sum
def lmin : List Int → Int
  | [] => 0
  | [x] => x
  | x :: y :: r => if x ≤ lmin (y :: r) then x else lmin (y :: r)
def bst (xs : List (Int × Int)) : Int × Int := (lmin (xs.map (·.1)), ((xs.filter fun x => decide (x.1 = lmin (xs.map (·.1)))).map (·.2)).sum)
/-! moves from state to state that strike a word -/
section
variable {σ μ : Type} (mv : σ → Nat → List (μ × σ)) (ct : μ → Int)
def gP : List Nat → σ → List (List μ)
  | [], _ => [[]]
  | c :: o, s => (mv s c).flatMap fun m => (gP o m.2).map (m.1 :: ·)
def gC (ms : List μ) : Int := (ms.map ct).sum
def gCs (o : List Nat) (s : σ) : List Int := (gP mv o s).map (gC ct)
def gN : List Nat → σ → Int × Int
  | [], _ => (0, 1)
  | c :: o, s => bst ((mv s c).map fun m => (ct m.1 + (gN o m.2).1, (gN o m.2).2))
def gFit (c : Nat) (o : List Nat) (s : σ) : List (μ × σ) := (mv s c).filter fun m => decide (ct m.1 + (gN mv ct o m.2).1 = (gN mv ct (c :: o) s).1)
def gF : List Nat → σ → List μ
  | [], _ => []
  | c :: o, s => match gFit mv ct c o s with
    | [] => []
    | m :: _ => m.1 :: gF o m.2
/-- the least of a list, and how often it is there -/
structure GNd (xs : List Int) (x : Int × Int) : Prop where
  mem : x.1 ∈ xs
  le : ∀ y ∈ xs, x.1 ≤ y
  cnt : x.2 = (xs.count x.1 : Nat)
/-- the word can be struck on from each state that is reached -/
def gOk (S : σ → Prop) (o : List Nat) : Prop := ∀ s, S s → ∀ c ∈ o, mv s c ≠ [] ∧ ∀ m ∈ mv s c, S m.2
end
/-! some moves are enough -/
section
variable {σ μ : Type} {mv mw : σ → Nat → List (μ × σ)} {ct : μ → Int}
/-- mw: some of the moves of mv; for each other one there is one to the same state that costs less -/
def Enough (mv mw : σ → Nat → List (μ × σ)) (ct : μ → Int) (S : σ → Prop) : Prop := ∀ s, S s → ∀ c, ∃ p : μ × σ → Bool, mw s c = (mv s c).filter p ∧ ∀ m ∈ mv s c, p m = false → ∃ n ∈ mv s c, p n = true ∧ n.2 = m.2 ∧ ct n.1 < ct m.1
end
end WM

set_option Elab.async false
set_option linter.all false
set_option maxRecDepth 100000
set_option maxHeartbeats 4000000
namespace PySem.F
open PySem
end PySem.F

set_option Elab.async false
set_option linter.all false
set_option maxRecDepth 100000
set_option maxHeartbeats 4000000
namespace L2
open PySem PySem.Spec PyProof.Rows
def rvsObj (x : Str) (t : Tok) (i : Int) : Obj := { cls := .type "reversed", data := .fields #[.str x t, rawInt i] }
def IsRvs (h : Heap) (a : Addr) (x : Str) (t : Tok) (i : Int) : Prop := ∃ o, h.get? a = some o ∧ o.cls = .type "reversed" ∧ o.data = .fields #[.str x t, rawInt i]
section
variable {prog : Program} {w : World} {A : Around} {E : Value → Shared → Prop} {s : Shared}
end
end L2
namespace L2
open PySem PySem.Spec PyProof.Rows
/-! for sign in reversed(text) -/
def Itrs (x : Str) : It := ⟨fun i _ => i < x.cps.size, fun i H v H' => H' = H ∧ ∃ c, x.cps[x.cps.size - 1 - i]? = some c ∧ v = .str ⟨#[c]⟩, fun i _ => x.cps.size ≤ i⟩
def iRevS (ta : TA) : TI := fun σ H R => ta σ H fun vs H1 => ∃ x : Str, vs = [.str x] ∧ x.length ≤ sizeLine ∧ R (Itrs x) H1
section
variable {X : Cx} {tg : Expr}
end
section
variable {g : TG} {tb : TS} {D : Ends} {σ : St} {H : Hp}
open WM
end
end L2

set_option Elab.async false
set_option linter.all false
set_option maxRecDepth 100000
set_option maxHeartbeats 4000000
namespace L2
open PySem PySem.Spec PyProof.Rows
/-! t + u, any of them perhaps empty -/
section
variable {prog : Program} {w : World} {A : Around} {E : Value → Shared → Prop} {s : Shared}
end
section
variable {X : Cx}
def rCatG : R2 := fun x y H Q => ∃ a b xs ys, x = .ref a ∧ y = .ref b ∧ H a = some (.tup xs) ∧ H b = some (.tup ys) ∧ xs.length + ys.length ≤ sizeLine ∧
  ∀ p H', Same H H' → H' p = some (.tup (xs ++ ys)) → Q (.ref p) H'
def ipM : TIp := fun x y H Q => ∃ i j, x = .int i ∧ y = .int j ∧ CMul i j ∧ Q (.int (i * j)) H
end
end L2

set_option Elab.async false
set_option linter.all false
set_option maxRecDepth 100000
set_option maxHeartbeats 4000000
namespace WM
/-! banks: several wheels with a head each -/
abbrev Mv := (Int × Int) × List Int
/-- the shortest turns -/
def sts (l : List Nat) (p : Int) (c : Nat) : List Int :=
  ((List.range (2 * (l.length / 2) + 1)).filter fun i : Nat => decide (l.getD ((p + (-((l.length / 2 : Nat) : Int) + (i : Int))) % (l.length : Int)).toNat 0 = c)).map fun i : Nat => -((l.length / 2 : Nat) : Int) + (i : Int)
def isShort (l : List Nat) (t : Int) : Bool := decide (-((l.length / 2 : Nat) : Int) ≤ t) && decide (t ≤ ((l.length / 2 : Nat) : Int))
/-- the moves of all heads that strike a sign -/
def mvs (tt : List Nat → Int → Nat → List Int) (b : List (List Nat)) (ps : List Int) (c : Nat) : List Mv :=
  (List.range b.length).flatMap fun k => (tt (b.getD k []) (ps.getD k 0) c).map fun t => (((k : Int), t), ps.set k ((ps.getD k 0 + t) % ((b.getD k []).length : Int)))
abbrev mvA (b : List (List Nat)) : List Int → Nat → List Mv := mvs tts b
abbrev mvS (b : List (List Nat)) : List Int → Nat → List Mv := mvs sts b
def mct (m : Int × Int) : Int := ab m.2
structure InB (b : List (List Nat)) (ps : List Int) : Prop where
  len : ps.length = b.length
  at_ : ∀ k, k < b.length → 0 ≤ ps.getD k 0 ∧ ps.getD k 0 < ((b.getD k []).length : Int)
def OkB (b : List (List Nat)) : Prop := ∀ l ∈ b, 1 ≤ l.length
def covers (b : List (List Nat)) (o : List Nat) : Prop := ∀ c ∈ o, ∃ l ∈ b, c ∈ l
def shortM (b : List (List Nat)) (m : Mv) : Bool := isShort (b.getD m.1.1.toNat []) m.1.2
/-- least joint cost and count; the first joint plan -/
def bN (b : List (List Nat)) (o : List Nat) (ps : List Int) : Int × Int := gN (mvA b) mct o ps
def bF (b : List (List Nat)) (o : List Nat) (ps : List Int) : List (Int × Int) := gF (mvA b) mct o ps
/-! all stands -/
def cntB (b : List (List Nat)) : Nat := b.foldl (fun c l => c * l.length) 1
def stB (b : List (List Nat)) : List (List Int) := b.foldl (fun S l => S.flatMap fun s => (List.range l.length).map fun p : Nat => s ++ [(p : Int)]) [[]]
end WM

set_option Elab.async false
set_option linter.all false
set_option maxRecDepth 100000
set_option maxHeartbeats 4000000
namespace W
open PySem L2 WM
/-! stands and moves in the heap -/
def kS (ps : List Int) : List Key := ps.map Sum.inl
def vS (ps : List Int) : List V := ps.map V.int
/-- a tuple of places -/
def StAt (H : Hp) (q : Addr) (ps : List Int) : Prop := H q = some (.tup (vS ps))
/-- a dict from stands -/
def DicV (R : Hp → V → List Int → Prop) (H : Hp) (d : Addr) (n : Nat) (S : List Int → Prop) : Prop :=
  ∃ kvs, H d = some (.dT kvs) ∧ kvs.length ≤ n ∧ ∀ ps, S ps → ∃ v, valV kvs (kS ps) = some v ∧ R H v ps
def Mon (R : Hp → V → List Int → Prop) : Prop := ∀ H H' v ps, Same H H' → R H v ps → R H' v ps
def Stb (R : Hp → V → List Int → Prop) : Prop := ∀ H H' D kvs v ps, H D = some (.dT kvs) → But D H H' → R H v ps → R H' v ps
/-- a pair of ints that a dict tells -/
def R2v (f : List Int → Int × Int) : Hp → V → List Int → Prop := fun H v ps => ∃ q, v = .ref q ∧ Tr2 H q (f ps)
/-- a move -/
def MvAt (H : Hp) (q : Addr) (m : Mv) : Prop := ∃ a, H q = some (.tup [.int m.1.1, .int m.1.2, .ref a]) ∧ StAt H a m.2
/-- a list of moves -/
def MvsAt (H : Hp) (a : Addr) (ms : List Mv) : Prop := ∃ qs : List Addr, H a = some (.lst (qs.map V.ref)) ∧ All2 (MvAt H) qs ms
def RMv (f : List Int → List Mv) : Hp → V → List Int → Prop := fun H v ps => ∃ a, v = .ref a ∧ MvsAt H a (f ps)
/-- the moves by signs and stands -/
def DicM (b : List (List Nat)) (H : Hp) (d : Addr) (n : Nat) (S : Nat → Prop) : Prop :=
  ∃ kvs : List (Key × V), H d = some (.dK kvs) ∧ kvs.length ≤ n ∧ ∀ c, S c → ∃ e, valV kvs (Sum.inr (txt [c])) = some (.ref e) ∧ DicV (RMv fun ps => mvS b ps c) H e 400 (InB b)
/-! a bank -/
def isBnk (b : List (List Nat)) : Bool := (decide (1 ≤ b.length) && decide (b.length ≤ 3)) && (b.all isWh && decide (cntB b ≤ 400))
structure Bnk (b : List (List Nat)) : Prop where
  l1 : 1 ≤ b.length
  l3 : b.length ≤ 3
  wh : ∀ l ∈ b, Wheel l
  cn : cntB b ≤ 400
end W
namespace L2
open PySem WM
section
variable {g : TG} {tb : TS} {D : Ends} {σ : St} {H : Hp}
end
end L2
namespace W
open PySem L2 WM
end W
namespace WM
end WM
namespace W
open PySem L2 WM
end W
namespace L2
open PySem WM
/-! a written list of lists of constants, all at once -/
def listsE : List Expr → Option (List (List V))
  | [] => some []
  | .List es _ :: r => (consV es).bind fun zs => (listsE r).map (zs :: ·)
  | _ => none
def setLL : Stmt → Option (Str × List (List V))
  | .Assign [.Name n _] (.List es _) _ => (listsE es).map fun ws => (n, ws)
  | _ => none
def tLLs (zss : List (List V)) : TA := fun _ H Q => ∀ (as : List Addr) (H' : Hp), Same H H' → All2 (fun a zs => H a = none ∧ H' a = some (.lst zs)) as zss → Q (as.map V.ref) H'
section
variable {X : Cx}
end
end L2
namespace L2
open PySem PySem.Spec PyProof.Rows
/-- sep.join(a list of texts), within a comprehension -/
def tJoin (K : PySem.W.Frag) (to te : TE) : TE := tM1 (fun x xs H Q => ∃ a p, ∃ ys : List Str, x = .str a ∧ xs = [.ref p] ∧ (SqL K H p (ys.map V.str) ∨ SqT K H p (ys.map V.str)) ∧
      (ys.map (·.length)).sum + ys.length * a.length ≤ 16777216 ∧ Q (.str (Txt.join a ys)) H) to te
end L2

set_option Elab.async false
set_option linter.all false
set_option maxRecDepth 100000
set_option maxHeartbeats 4000000
namespace WM
/-! one system of moves within another -/
section
variable {σ μ σ' μ' : Type} {mv : σ → Nat → List (μ × σ)} {ct : μ → Int} {mv' : σ' → Nat → List (μ' × σ')} {ct' : μ' → Int}
end
/-! orders of the same things -/
structure Bij (n : Nat) (π ρ : Nat → Nat) : Prop where
  to : ∀ i, i < n → π i < n ∧ ρ (π i) = i
  fro : ∀ j, j < n → ρ j < n ∧ π (ρ j) = j
def prm {α : Type} (n : Nat) (π : Nat → Nat) (d : α) (xs : List α) : List α := (List.range n).map fun i => xs.getD (π i) d
end WM

set_option Elab.async false
set_option linter.all false
set_option maxRecDepth 100000
set_option maxHeartbeats 4000000
namespace WM
/-- heads of one bank that are among those of another one -/
structure Emb (up : Nat → Nat) (b' b : List (List Nat)) : Prop where
  lt : ∀ j, j < b'.length → up j < b.length
  eq : ∀ j, j < b'.length → b'.getD j [] = b.getD (up j) []
  inj : ∀ i j, i < b'.length → j < b'.length → up i = up j → i = j
def REmb (up : Nat → Nat) (b' b : List (List Nat)) (ps' ps : List Int) : Prop := ps'.length = b'.length ∧ ps.length = b.length ∧ ∀ j, j < b'.length → ps'.getD j 0 = ps.getD (up j) 0
end WM
namespace W
open PySem L2 WM
end W

set_option Elab.async false
set_option linter.all false
set_option maxRecDepth 100000
set_option maxHeartbeats 4000000
namespace L2
open PySem PySem.Spec PyProof.Rows PySem.Builtin
/-! a tuple times an int from 1 on -/
section
variable {X : Cx}
def rRepT : R2 := fun x y H Q => ∃ a k xs, x = .ref a ∧ y = .int k ∧ H a = some (.tup xs) ∧ xs ≠ [] ∧ 1 ≤ k ∧ k ≤ 1000 ∧ xs.length * k.toNat ≤ sizeLine ∧
  ∀ p H', Same H H' → H' p = some (.tup (List.replicate k.toNat xs).flatten) → Q (.ref p) H'
end
end L2

set_option Elab.async false
set_option linter.all false
set_option maxRecDepth 100000
set_option maxHeartbeats 4000000
namespace WM
/-! all plans, sign by sign -/
section
variable {σ μ : Type} (mv : σ → Nat → List (μ × σ))
def gQs (X : List (List μ × σ)) (c : Nat) : List (List μ × σ) := X.flatMap fun x => (mv x.2 c).map fun m => (x.1 ++ [m.1], m.2)
def gQ (o : List Nat) (s : σ) : List (List μ × σ) := o.foldl (gQs mv) [([], s)]
end
/-! how many turns strike a sign -/
/-- so many plans at most -/
def capB (b : List (List Nat)) (o : List Nat) : Nat := o.foldl (fun m c => m * 2 * b.flatten.count c) 1
end WM
namespace W
open PySem L2 WM
/-! deeds: ((head, turn), stand) -/
def DdAt (H : Hp) (q : Addr) (m : Mv) : Prop := ∃ a b, H q = some (.tup [.ref a, .ref b]) ∧ Tr2 H a m.1 ∧ StAt H b m.2
def DdsAt (H : Hp) (a : Addr) (ms : List Mv) : Prop := ∃ qs : List Addr, H a = some (.lst (qs.map V.ref)) ∧ All2 (DdAt H) qs ms
/-- a plan and the stand behind it -/
def BQAt (H : Hp) (q : Addr) (x : List (Int × Int) × List Int) : Prop := ∃ a b rs, H q = some (.tup [.ref a, .ref b]) ∧ PrAt H a x.1 rs ∧ StAt H b x.2
end W

set_option Elab.async false
set_option linter.all false
set_option maxRecDepth 100000
set_option maxHeartbeats 4000000
namespace W
open PySem L2 WM
/-! text.count(sign) -/
/-! plans of several heads, as data -/
def dPl (pl : List (Int × Int)) : PyData := .list (pl.map fun x => d2 x.1 x.2)
end W

set_option Elab.async false
set_option linter.all false
set_option maxRecDepth 100000
set_option maxHeartbeats 4000000
namespace WM
/-- stands that are come to -/
def RcB (b : List (List Nat)) (o : List Nat) (s : List Int) (k : Nat) (ps : List Int) : Prop := ∃ x ∈ gQ (mvA b) (o.take k) s, x.2 = ps
end WM
namespace W
open PySem L2 WM
/-- a dict whose keys are these stands -/
def LatAt (H : Hp) (d : Addr) (L : List (List Int)) : Prop := ∃ kvs, H d = some (.dT kvs) ∧ kvs.map (·.1) = L.map kS ∧ L.Nodup
end W

set_option Elab.async false
set_option linter.all false
set_option maxRecDepth 100000
set_option maxHeartbeats 4000000
/-! min of a list of tuples of ints that end in a reference; no two of the same ints -/
namespace L2
open PySem PySem.Spec PyProof.Rows
section
open PySem.SeqAt
open PySem.AutoSeq1 (wpAny_loadPart')
open PySem.MeetsSeq PySem.MeetsSeq2 PySem.MeetsSeq3
end
section
variable {prog : Program} {w : World} {A : Around} {E : Value → Shared → Prop} {s : Shared}
end
def KeysHpP (h : Heap) (its : List Value) (xs : List (List Key)) (rs : List Addr) : Prop := ∀ (i : Nat) (v : Value), its[i]? = some v → ∃ b items, v = .ref b ∧ IsTup h b items ∧ ∃ us, items.toList = us ++ [Value.ref (rs.getD i 0)] ∧ Vals ((xs.getD i []).map kV) us
section
variable {X : Cx}
/-- min of a list of tuples of keys that end in a reference, no two of the same keys -/
def rMinP (K : PySem.W.Frag) : List V → Hp → VK → Prop := fun vs H Q => ∃ (a : Addr) (qs : List Addr) (kss : List (List Key)) (rs : List Addr) (sh : List Bool), vs = [V.ref a] ∧ SqL K H a (qs.map V.ref) ∧ qs.length = kss.length ∧ rs.length = kss.length ∧
  (∀ (i : Nat) (q : Addr) (ks : List Key) (r : Addr), qs[i]? = some q → kss[i]? = some ks → rs[i]? = some r → H q = some (.tup (ks.map kV ++ [.ref r]))) ∧ kss.Nodup ∧ (∀ ks ∈ kss, ks.map kKind = sh) ∧ 0 < kss.length ∧
  ∀ (i : Nat) (q : Addr) (ks : List Key) (r : Addr), qs[i]? = some q → kss[i]? = some ks → rs[i]? = some r → (∀ ms ∈ kss, kLt ms ks = false) → Q (.ref q) H
end
end L2

set_option Elab.async false
set_option linter.all false
set_option maxRecDepth 100000
set_option maxHeartbeats 4000000
namespace WM
/-! the near plan: for each sign the first of the shortest turns -/
def lm (ms : List Mv) : Int := lmin (ms.map fun m => mct m.1)
def nr (ms : List Mv) : List Mv := ms.filter fun m => decide (mct m.1 = lm ms)
def nF (b : List (List Nat)) : List Nat → List Int → List (Int × Int)
  | [], _ => []
  | c :: o, ps => match nr (mvA b ps c) with
    | [] => []
    | m :: _ => m.1 :: nF b o m.2
/-- moves rise by head and turn -/
def mLt (m n : Mv) : Prop := m.1.1 < n.1.1 ∨ (m.1.1 = n.1.1 ∧ m.1.2 < n.1.2)
end WM
namespace W
open PySem L2 WM
def tri (m : Mv) : List Key := [Sum.inl (mct m.1), Sum.inl m.1.1, Sum.inl m.1.2]
end W

set_option Elab.async false
set_option linter.all false
set_option maxRecDepth 100000
set_option maxHeartbeats 4000000
namespace WM
end WM

set_option Elab.async false
set_option linter.all false
set_option maxRecDepth 100000
set_option maxHeartbeats 4000000
/-! slips: what the doors of slips.py ask and answer, by GenM -/
namespace WM
/-- the place behind some turns, from 0 -/
def pls (n : Int) (ts : List Int) : Int := ts.foldl (fun p t => (p + t) % n) 0
/-- the places told -/
def ptl (n : Int) (ts : List Int) : List Int := (List.range ts.length).map fun i => pls n (ts.take (i + 1))
/-- all ways on: how far it slips, how far it is off then -/
def wys (l : List Nat) (p off : Int) (c : Nat) : List (Int × Int) :=
  ((List.range l.length).filter fun b : Nat => decide (l.getD ((p + off + (b : Int)) % (l.length : Int)).toNat 0 = c)).map fun b : Nat => ((b : Int), (off + (b : Int)) % (l.length : Int))
/-- how many slips it takes to go by so many places more -/
def sfo (b : Int) : Int := if b > 0 then 1 else 0
/-- the moves, for GenM: how far it slips; what stands behind: the places told that are left, how far it is off -/
def wyM (l : List Nat) (s : List Int × Int) (c : Nat) : List ((Int × Int) × (List Int × Int)) := (wys l (s.1.headD 0) s.2 c).map fun m => (m, (s.1.tail, m.2))
def wyC (m : Int × Int) : Int := sfo m.1
/-- fewest slips, and how many lists -/
def wyN (l o : List Nat) (ps : List Int) (off : Int) : Int × Int := gN (wyM l) wyC o (ps, off)
end WM
namespace W
open PySem L2 WM
/-- what need_report refuses with (99: nothing) -/
def rpk (l : List Nat) (ts : List Int) (o : List Nat) : Nat :=
  if isWh l = false then 11 else if isW o = false then 12 else if ts.length ≠ o.length then 10 else if o.all (fun c => decide (c ∈ l)) = false then 0 else 99
end W

set_option Elab.async false
set_option linter.all false
set_option maxRecDepth 100000
set_option maxHeartbeats 4000000
namespace L2
open PySem PySem.Spec PyProof.Rows
/-! list(zip(list, text)) -/
abbrev IsZipF (h : Heap) (z TI TO a : Addr) (f : Bool) : Prop :=
  h.get? z = some { cls := .type "zip", dict := none, data := .fields #[rawInt a, .bool f, .bool false, .ref TI, .ref TO], slots := #[] }
section
variable {prog : Program} {w : World} {A : Around} {E : Value → Shared → Prop} {s : Shared}
end
end L2

set_option Elab.async false
set_option linter.all false
set_option maxRecDepth 100000
set_option maxHeartbeats 4000000
namespace L2
open PySem PySem.Spec PyProof.Rows
open Sem (wp)
/-! list(zip(list, text)): the walk -/
section
variable {prog : Program} {w : World} {A : Around} {E : Value → Shared → Prop} {s : Shared}
end
/-- a walk whose items live in the heap: `P` may speak of it, and stays where the objects beside `wr` stay -/
structure WalkZ (prog : Program) (w : World) (A : Around) (I S : Addr) (wr : List Addr) (n : Nat) (P : Nat → Value → Heap → Prop) (St : Nat → Heap → Prop) : Prop where
  frame : ∀ i h h', St i h → (∀ b o, b ≠ S → h.get? b = some o → h'.get? b = some o) → St i h'
  keepS : ∀ i v h h', P i v h → (∀ b o, b ≠ S → h.get? b = some o → h'.get? b = some o) → P i v h'
  keep : ∀ i v h h', P i v h → (∀ b o, b ∉ wr → h.get? b = some o → h'.get? b = some o) → P i v h'
  item : ∀ i (s : Shared) (Q : Option Value → Shared → Prop) (E : Value → Shared → Prop), i < n → St i s.heap → (∃ o, s.heap.get? S = some o) →
    (∀ v h' tk, s.toks ≤ tk → P i v h' → St (i + 1) h' → (∀ b o, b ∉ wr → s.heap.get? b = some o → h'.get? b = some o) → Q (some v) { s with heap := h', toks := tk }) → wpAny (model prog w) A (pyNext (.ref I)) Q E s
  done : ∀ (s : Shared) (Q : Option Value → Shared → Prop) (E : Value → Shared → Prop), St n s.heap → (∀ h' tk, s.toks ≤ tk → (∀ b o, b ∉ wr → s.heap.get? b = some o → h'.get? b = some o) → Q none { s with heap := h', toks := tk }) → wpAny (model prog w) A (pyNext (.ref I)) Q E s
  self : ∀ (s : Shared) (Q : Value → Shared → Prop) (E : Value → Shared → Prop), St 0 s.heap → Q (.ref I) s → wpAny (model prog w) A (pyIter (.ref I)) Q E s
section
variable {prog : Program} {w : World} {A : Around} {R : Result → Shared → Prop} {I S : Addr} {wr : List Addr} {n : Nat} {P : Nat → Value → Heap → Prop} {St : Nat → Heap → Prop}
/-- what stands beside `wr` stays -/
def Kept (wr : List Addr) (s s' : Shared) : Prop := (∀ b o, b ∉ wr → s.heap.get? b = some o → s'.heap.get? b = some o) ∧ s'.gens = s.gens ∧ s'.drawn = s.drawn ∧ s'.os = s.os ∧ s.toks ≤ s'.toks
def ItemsZ (P : Nat → Value → Heap → Prop) (acc : Array Value) (i : Nat) (h : Heap) : Prop := acc.size = i ∧ ∀ j v, acc[j]? = some v → P j v h
end
section
variable {prog : Program} {w : World} {A : Around} {E : Value → Shared → Prop} {s : Shared}
variable {I : Addr} {wr : List Addr} {n : Nat} {P : Nat → Value → Heap → Prop} {St : Nat → Heap → Prop}
end
section
variable {prog : Program} {w : World} {A : Around}
def ZItem (z TO i1 i2 S : Addr) (P1 P2 : Nat → Value → Prop) (i : Nat) (v : Value) (h : Heap) : Prop := ∃ q x y, v = .ref q ∧ q ≠ z ∧ q ≠ TO ∧ q ≠ i1 ∧ q ≠ i2 ∧ S < q ∧ P1 i x ∧ P2 i y ∧ IsPair h q x y
def ZSt (z TI TO i1 i2 S : Addr) (St1 St2 : Nat → Heap → Prop) (i : Nat) (h : Heap) : Prop := IsPair h TI (.ref i1) (.ref i2) ∧ (∃ a b, IsPair h TO a b) ∧ St1 i h ∧ St2 i h ∧
  ((i = 0 ∧ IsZip h z TI TO .none) ∨ (0 < i ∧ ∃ a f oa, IsZipF h z TI TO a f ∧ h.get? a = some oa ∧ a ≠ z ∧ a ≠ i1 ∧ a ≠ i2 ∧ a ≠ S))
end
end L2

set_option Elab.async false
set_option linter.all false
set_option maxRecDepth 100000
set_option maxHeartbeats 4000000
namespace L2
open PySem PySem.Spec PyProof.Rows
open Sem (wp)
/-! many new objects laid at once -/
def upds (H : Hp) : List (Addr × HO) → Hp
  | [] => H
  | p :: r => upd (upds H r) p.1 p.2
section
variable {P : Program} {w : World} {H : Hp} {h h' : Heap} {news : List (Addr × HO)}
end
def adr : Value → Addr
  | .ref q => q
  | _ => 0
def tListZip (K : PySem.W.Frag) (t : TA) : TE := fun σ H Q => t σ H fun vs H1 => ∃ (a : Addr) (ts : List Int) (y : Str), vs = [.ref a, .str y] ∧ SqL K H1 a (ts.map V.int) ∧ ts.length = y.cps.size ∧ ts.length ≤ 1000 ∧
  ∀ (D : Addr) (qs : List Addr) (H' : Hp), (∀ b o, H1 b = some o → H' b = some o) → H1 D = none → H' D = some (.lst (qs.map V.ref)) → qs.length = ts.length → (∀ (i : Nat) (q : Addr) (t c), qs[i]? = some q → ts[i]? = some t → y.cps[i]? = some c → H' q = some (.tup [.int t, .str ⟨#[c]⟩])) → Q (.ref D) H'
section
variable {X : Cx} {e e2 : Expr} {t : TA} {p1 p2 pos pos2 : Pos}
end
end L2

set_option Elab.async false
set_option linter.all false
set_option maxRecDepth 100000
set_option maxHeartbeats 4000000
namespace L2
open PySem PySem.Spec PyProof.Rows
section
variable {g : TG} {tb : TS} {D : Ends} {σ : St} {H : Hp}
end
end L2

set_option Elab.async false
set_option linter.all false
set_option maxRecDepth 100000
set_option maxHeartbeats 4000000
namespace W
open PySem L2 WM
end W

set_option Elab.async false
set_option linter.all false
set_option maxRecDepth 100000
set_option maxHeartbeats 4000000
/-! finders: which turns tell places apart, by the places on that they reach -/
namespace WM
/-- the sign at any number of places on -/
def sg (l : List Nat) (z : Int) : Nat := l.getD (z % (l.length : Int)).toNat 0
/-- the places on that turns reach -/
def osm (ts : List Int) : List Int := (List.range ts.length).map fun i => (ts.take (i + 1)).sum
/-- places on that tell all places apart -/
def Tel (l : List Nat) (S : List Int) : Prop := ∀ p q : Nat, p < l.length → q < l.length → (∀ o ∈ S, sg l (p + o) = sg l (q + o)) → p = q
/-- in the glass: the places on, the other way round -/
def mirS (n : Nat) (S : List Int) : List Int := S.map fun o => (-o) % (n : Int)
/-! the lists of turns that go on and never past a round -/
def nxt (n : Nat) (ts : List Int) : List Int := if ts = [] then (List.range n).map fun i : Nat => (i : Int) else (List.range ((n : Int) - ts.sum - 1).toNat).map fun i : Nat => 1 + (i : Int)
def onl (n : Nat) (ls : List (List Int)) : List (List Int) := ls.flatMap fun ts => (nxt n ts).map fun t => ts ++ [t]
def LL (n : Nat) : Nat → List (List Int)
  | 0 => [[]]
  | k + 1 => onl n (LL n k)
def InS (n : Nat) (S : List Int) : Prop := S.Pairwise (· < ·) ∧ ∀ o ∈ S, 0 ≤ o ∧ o < (n : Int)
/-- so many turns tell places apart -/
def HasK (l : List Nat) (k : Nat) : Prop := ∃ S : List Int, S.Nodup ∧ S.length = k ∧ (∀ o ∈ S, 0 ≤ o ∧ o < (l.length : Int)) ∧ Tel l S
def tel (l : List Nat) (ls : List (List Int)) : List (List Int) := ls.filter fun ts => apart l ts
end WM

set_option Elab.async false
set_option linter.all false
set_option maxRecDepth 100000
set_option maxHeartbeats 4000000
namespace WM
def fullS (n : Nat) : List Int := (List.range n).map fun i : Nat => (i : Int)
/-- some turned wheel is the wheel -/
def alk (l : List Nat) : Bool := decide (l ∈ (rots l).drop 1)
def fndK (l : List Nat) : Nat := ((List.range l.length).find? fun k => decide (tel l (LL l.length k) ≠ [])).getD 0
/-- what a finder tells -/
def fnd (l : List Nat) : Option (List Int) := if alk l = true then none else some ((tel l (LL l.length (fndK l))).headD [])
end WM

set_option Elab.async false
set_option linter.all false
set_option maxRecDepth 100000
set_option maxHeartbeats 4000000
namespace L2
open PySem PySem.Spec PyProof.Rows
section
variable {X : Cx} {tg : Expr}
/-- list(range(i, j)) -/
def tListRange2 (ta : TA) : TE := fun σ H Q => ta σ H fun vs H1 => ∃ i j : Int, vs = [.int i, .int j] ∧ (-(2 ^ 60) ≤ i ∧ i < 2 ^ 60 ∧ -(2 ^ 60) ≤ j ∧ j < 2 ^ 60) ∧ (j - i).toNat ≤ 1000 ∧ ∀ p, H1 p = none → Q (.ref p) (upd H1 p (.lst ((List.range (j - i).toNat).map fun k : Nat => V.int (i + k))))
end
end L2

set_option Elab.async false
set_option linter.all false
set_option maxRecDepth 100000
set_option maxHeartbeats 4000000
namespace L2
open PySem PySem.Spec PyProof.Rows
section
variable {X : Cx}
/-- len of a list, within a comprehension -/
def rLenQ (K : PySem.W.Frag) : List V → Hp → VK → Prop := fun xs H Q => ∃ (p : Addr) (ys : List V), xs = [V.ref p] ∧ (SqL K H p ys ∨ SqT K H p ys) ∧ Q (V.int (ys.length : Int)) H
/-- None in a list of lists -/
def rInNL (K : PySem.W.Frag) : R2 := fun x y H Q => ∃ (p : Addr) (qs : List Addr), x = .non ∧ y = .ref p ∧ SqL K H p (qs.map V.ref) ∧ (∀ q ∈ qs, ∃ xs, SqL K H q xs) ∧ Q (.bl false) H
end
end L2

set_option Elab.async false
set_option linter.all false
set_option maxRecDepth 100000
set_option maxHeartbeats 4000000
/-! finders: what the law of finders reckons -/
namespace WM
/-- rising lists, one place more -/
def lst (S : List Int) : Int := S.getLastD (-1) + 1
def nextS (n : Nat) (S : List Int) : List (List Int) := (List.range ((n : Int) - lst S).toNat).map fun j : Nat => S ++ [lst S + (j : Int)]
/-- does a set tell places apart, by the words -/
def telB (l : List Nat) (S : List Int) : Bool := decide (((List.range l.length).map fun p : Nat => S.map fun o => sg l ((p : Int) + o)).Nodup)
/-- all least sets -/
def stl (l : List Nat) : List (List Int) := if alk l = true then [] else (tel l (LL l.length (fndK l))).map osm
/-! which comes first -/
def lexL (a b : List Int) : Prop := ∃ j, j < a.length ∧ a.take j = b.take j ∧ a.getD j 0 < b.getD j 0
/-- all lists of turns -/
def AL (n : Nat) : Nat → List (List Int)
  | 0 => [[]]
  | k + 1 => (AL n k).flatMap fun ts => (List.range n).map fun t : Nat => ts ++ [(t : Int)]
end WM

set_option Elab.async false
set_option linter.all false
set_option maxRecDepth 100000
set_option maxHeartbeats 4000000
namespace WM
/-- those that begin so -/
def FF (h : List Int) (Ls : List (List Int)) (i : Nat) : List (List Int) := Ls.filter fun ts => decide (ts.take i = h.take i)
def lft (h : List Int) (Ls : List (List Int)) (i : Nat) : List (List Int) := (FF h Ls i).map fun ts => (osm ts).drop i
section
variable {n k : Nat} {Ls : List (List Int)} {h : List Int} {rest : List (List Int)}
end
end WM

set_option Elab.async false
set_option linter.all false
set_option maxRecDepth 100000
set_option maxHeartbeats 4000000
namespace L2
open PySem PyProof.Rows
section
variable {X : Cx}
end
end L2

set_option Elab.async false
set_option linter.all false
set_option maxRecDepth 100000
set_option maxHeartbeats 4000000
/-! turns written as texts -/
namespace WM
open PySem
def digs (w : List Nat) : Bool := w.all fun c => decide (48 ≤ c) && decide (c ≤ 57)
theorem digs_iff {w : List Nat} : digs w = true ↔ NumText.AllDigits w := by
  unfold digs NumText.AllDigits
  rw [List.all_eq_true]
  exact ⟨fun h c hc => by have := h c hc; rw [Bool.and_eq_true, decide_eq_true_iff, decide_eq_true_iff] at this; exact this, fun h c hc => by rw [Bool.and_eq_true, decide_eq_true_iff, decide_eq_true_iff]; exact h c hc⟩
/-- the number that 1 to 9 figures write -/
def figN (w : List Nat) : Option Int := if w.length < 1 ∨ 9 < w.length ∨ (w.headD 0 = 48 ∧ w ≠ [48]) then none else if digs w = true then some ((NumText.digitsVal w : Nat) : Int) else none
def backW (w : List Nat) : Bool := decide (w.take 1 = [45])
def bodyN (w : List Nat) : List Nat := if backW w = true then w.drop 1 else w
def numN (w : List Nat) : Option Int := match figN (bodyN w) with
  | none => none
  | some v => if backW w = true ∧ v = 0 then none else some (if backW w = true then -v else v)
def isNum (w : List Nat) : Bool := decide (1 ≤ (bodyN w).length) && (decide ((bodyN w).length ≤ 9) && (digs (bodyN w) && (decide ((bodyN w).headD 0 ≠ 48) || decide (w = [48]))))
theorem foldl_ge : ∀ (r : List Nat) (a : Nat), 1 ≤ a → 1 ≤ r.foldl (fun acc c => acc * 10 + (c - 48)) a
  | [], a, h => h
  | c :: r, a, h => by
    show 1 ≤ r.foldl (fun acc c => acc * 10 + (c - 48)) (a * 10 + (c - 48))
    exact foldl_ge r _ (by omega)
theorem val_pos {c : Nat} {r : List Nat} (h : 49 ≤ c) : 1 ≤ NumText.digitsVal (c :: r) := by
  unfold NumText.digitsVal
  rw [List.foldl_cons]
  exact foldl_ge r _ (by omega)
theorem back_iff {w : List Nat} : backW w = true ↔ ∃ r, w = 45 :: r := by
  unfold backW
  rw [decide_eq_true_iff]
  constructor
  · intro h
    cases w with
    | nil => cases h
    | cons c r =>
      injection h with h _
      exact ⟨r, by rw [h]⟩
  · rintro ⟨r, rfl⟩
    rfl
/-- the two ways to tell a number are one -/
theorem num_iff (w : List Nat) : isNum w = (numN w).isSome := by
  unfold isNum numN figN
  cases hb : backW w with
  | true =>
    obtain ⟨r, rfl⟩ := back_iff.mp hb
    have eb : bodyN (45 :: r) = r := by unfold bodyN; rw [if_pos hb]; rfl
    have en : decide ((45 :: r) = [48]) = false := decide_eq_false fun z => by injection z with z _; cases z
    rw [eb, en, Bool.or_false]
    by_cases h1 : 1 ≤ r.length
    rotate_left
    · rw [decide_eq_false h1, if_pos (.inl (by omega))]; rfl
    rw [decide_eq_true h1]
    by_cases h9 : r.length ≤ 9
    rotate_left
    · rw [decide_eq_false h9, if_pos (.inr (.inl (by omega)))]; rfl
    rw [decide_eq_true h9]
    obtain ⟨c, q, rfl⟩ : ∃ c q, r = c :: q := by
      cases r with
      | nil => exact absurd h1 (by decide)
      | cons c q => exact ⟨c, q, rfl⟩
    by_cases h0 : c = 48
    · subst h0
      have e0 : decide ((48 :: q).headD 0 ≠ 48) = false := decide_eq_false fun z => z rfl
      rw [e0]
      by_cases hq : q = []
      · subst hq
        rfl
      · rw [if_pos (.inr (.inr ⟨rfl, fun z => hq (by injection z)⟩))]
        cases digs (48 :: q) <;> rfl
    · have e0 : decide ((c :: q).headD 0 ≠ 48) = true := decide_eq_true h0
      rw [e0, if_neg (fun z => z.elim (fun z => by omega) fun z => z.elim (fun z => by omega) fun z => h0 z.1)]
      cases hd : digs (c :: q) with
      | false => rfl
      | true =>
        have hc := digs_iff.mp hd c List.mem_cons_self
        have hv := val_pos (c := c) (r := q) (by omega)
        rw [if_pos rfl]
        dsimp only
        rw [if_neg (fun z => by omega)]
        rfl
  | false =>
    have eb : bodyN w = w := by unfold bodyN; rw [if_neg (by rw [hb]; decide)]
    rw [eb]
    by_cases h1 : 1 ≤ w.length
    rotate_left
    · rw [decide_eq_false h1, if_pos (.inl (by omega))]; rfl
    rw [decide_eq_true h1]
    by_cases h9 : w.length ≤ 9
    rotate_left
    · rw [decide_eq_false h9, if_pos (.inr (.inl (by omega)))]; rfl
    rw [decide_eq_true h9]
    by_cases hz : w.headD 0 = 48 ∧ w ≠ [48]
    · rw [if_pos (.inr (.inr hz)), decide_eq_false (fun z => z hz.1), decide_eq_false hz.2]
      cases digs w <;> rfl
    · rw [if_neg (fun z => z.elim (fun z => by omega) fun z => z.elim (fun z => by omega) hz)]
      have e0 : (decide (w.headD 0 ≠ 48) || decide (w = [48])) = true := by
        by_cases e : w.headD 0 = 48
        · have : w = [48] := Classical.byContradiction fun z => hz ⟨e, z⟩
          rw [decide_eq_true this, Bool.or_true]
        · rw [decide_eq_true e, Bool.true_or]
      rw [e0]
      cases hd : digs w with
      | false => rfl
      | true =>
        rw [if_pos rfl]
        dsimp only
        rw [if_neg (fun z => absurd z.1 Bool.false_ne_true)]
        rfl
theorem fig_some {w : List Nat} {v : Int} (h : figN w = some v) : 1 ≤ w.length ∧ w.length ≤ 9 ∧ NumText.AllDigits w ∧ v = ((NumText.digitsVal w : Nat) : Int) := by
  unfold figN at h
  split at h
  · cases h
  · rename_i hc
    split at h
    · rename_i hd
      exact ⟨by omega, by omega, digs_iff.mp hd, (Option.some.inj h).symm⟩
    · cases h
/-- int of a figure word -/
theorem fig_int {w : List Nat} {v : Int} (h : figN w = some v) : intText? (txt w) = some v ∧ w.length ≤ 9 := by
  obtain ⟨h1, h9, hd, rfl⟩ := fig_some h
  have := intText_digits (x := txt w) (by rw [txt_cps]; exact hd) (by rw [txt_cps]; intro e; rw [e] at h1; cases h1) (by rw [txt_length]; omega)
  rw [txt_cps] at this
  exact ⟨this, h9⟩
theorem num_int {w : List Nat} {n : Int} (h : numN w = some n) : intText? (txt w) = some n ∧ w.length ≤ 10 := by
  unfold numN at h
  cases hf : figN (bodyN w) with
  | none => rw [hf] at h; cases h
  | some v =>
    rw [hf] at h
    dsimp only at h
    split at h
    · cases h
    rename_i hz
    have h := Option.some.inj h
    cases hb : backW w with
    | false =>
      have eb : bodyN w = w := by unfold bodyN; rw [if_neg (by rw [hb]; decide)]
      rw [eb] at hf
      rw [hb, if_neg Bool.false_ne_true] at h
      subst h
      have := fig_int hf
      exact ⟨this.1, by omega⟩
    | true =>
      obtain ⟨r, rfl⟩ := back_iff.mp hb
      have eb : bodyN (45 :: r) = r := by unfold bodyN; rw [if_pos hb]; rfl
      rw [eb] at hf
      rw [hb, if_pos rfl] at h
      subst h
      obtain ⟨h1, h9, hd, rfl⟩ := fig_some hf
      refine ⟨intText_neg (x := txt (45 :: r)) (cs := r) (txt_cps _) hd (fun e => by rw [e] at h1; cases h1) (by rw [txt_length, List.length_cons]; omega), by rw [List.length_cons]; omega⟩
/-- the words of a text -/
def prts (x : List Nat) : List (List Nat) := (Txt.split (txt x) (txt [32])).map fun s => s.cps.toList
theorem txt_back (s : Str) : txt s.cps.toList = s := by
  cases s with
  | mk a => show (⟨a.toList.toArray⟩ : Str) = ⟨a⟩; rw [Array.toArray_toList]
theorem split_prts (x : List Nat) : Txt.split (txt x) (txt [32]) = (prts x).map txt := by
  unfold prts
  rw [List.map_map]
  exact (List.map_id _).symm.trans (List.map_congr_left fun s _ => (txt_back s).symm)
theorem spl_mem : ∀ (L acc : List Nat), TL.spl [32] 0 acc L ≠ [] ∧ ∀ w ∈ TL.spl [32] 0 acc L, w.length ≤ acc.length + L.length ∧ ∀ c ∈ w, c ∈ acc ∨ c ∈ L
  | [], acc => by
    rw [TL.spl_nil]
    exact ⟨by simp, fun w hw => by rw [List.mem_singleton.mp hw]; exact ⟨Nat.le_refl _, fun c hc => .inl hc⟩⟩
  | c :: r, acc => by
    cases hp : TL.pre [32] (c :: r) with
    | true =>
      rw [TL.spl_hit hp]
      obtain ⟨_, ih⟩ := spl_mem r []
      refine ⟨by simp, fun w hw => ?_⟩
      rcases List.mem_cons.mp hw with rfl | hw
      · exact ⟨Nat.le_add_right _ _, fun c hc => .inl hc⟩
      · obtain ⟨a, b⟩ := ih w hw
        rw [List.length_nil] at a
        refine ⟨by rw [List.length_cons]; omega, fun d hd => ?_⟩
        rcases b d hd with z | z
        · cases z
        · exact .inr (List.mem_cons_of_mem _ z)
    | false =>
      rw [TL.spl_miss hp]
      obtain ⟨h0, ih⟩ := spl_mem r (acc ++ [c])
      refine ⟨h0, fun w hw => ?_⟩
      obtain ⟨a, b⟩ := ih w hw
      rw [List.length_append] at a
      refine ⟨by rw [List.length_cons]; have : [c].length = 1 := rfl; omega, fun d hd => ?_⟩
      rcases b d hd with z | z
      · rcases List.mem_append.mp z with z | z
        · exact .inl z
        · exact .inr (by rw [List.mem_singleton.mp z]; exact List.mem_cons_self)
      · exact .inr (List.mem_cons_of_mem _ z)
theorem prts_ok (x : List Nat) : prts x ≠ [] ∧ (prts x).length ≤ x.length + 2 ∧ ∀ w ∈ prts x, w.length ≤ x.length ∧ ∀ c ∈ w, c ∈ x := by
  have e : prts x = TL.spl [32] 0 [] x := by
    have := TL.split_spl (txt x) (txt [32]) (by show [32].toArray.toList ≠ []; simp) (TL.kind_ok (by decide +kernel))
    have e1 : TL.tl (txt [32]) = [32] := rfl
    have e2 : TL.tl (txt x) = x := txt_cps x
    rw [e1, e2] at this
    exact this
  obtain ⟨a, b⟩ := spl_mem x []
  have hl : (prts x).length ≤ x.length + 2 := by
    unfold prts
    rw [List.length_map]
    have := PyProof.Rows.split_le (txt x) (txt [32])
    rwa [txt_length] at this
  refine ⟨by rw [e]; exact a, hl, fun w hw => ?_⟩
  rw [e] at hw
  obtain ⟨c, d⟩ := b w hw
  rw [List.length_nil] at c
  exact ⟨by omega, fun z hz => (d z hz).elim (fun q => by cases q) id⟩
/-- the turns that a text writes -/
def rdT (x : List Nat) : Option (List Int) := if x = [110, 111, 110, 101] then some [] else if (prts x).all isNum = true then some ((prts x).map fun w => (numN w).getD 0) else none
end WM
namespace L2
open PySem PySem.Spec PyProof.Rows
theorem remp_eq (l : List Nat) : Txt.removeprefix (WM.txt l) (WM.txt [45]) = WM.txt (WM.bodyN l) := by
  rw [StrLaws.removeprefix_eq]
  have h1 := StrLaws.subAt_one (WM.txt l) 45 0
  have e1 : (WM.txt [45]).length = 1 := rfl
  have el : (WM.txt l).cps.toList = l := rfl
  rw [el] at h1
  cases l with
  | nil =>
    rw [if_neg]
    · rfl
    · intro h
      rw [Bool.and_eq_true] at h
      have := of_decide_eq_true h.1
      exact absurd this (by decide)
  | cons c r =>
    have hl : (WM.txt (c :: r)).length = r.length + 1 := by rw [WM.txt_length]; rfl
    have hle : decide (0 + (WM.txt [45]).length ≤ (WM.txt (c :: r)).length) = true := decide_eq_true (by rw [hl, e1]; omega)
    by_cases hc : c = 45
    · subst hc
      have h2 := (h1.mpr rfl).2
      have hb : WM.backW (45 :: r) = true := rfl
      rw [hle, if_pos (by rw [Bool.true_and]; exact h2)]
      unfold WM.bodyN
      rw [if_pos hb, hl, e1]
      show (⟨((((45 :: r).toArray.toList).drop 1).take (r.length + 1 - 1)).toArray⟩ : Str) = WM.txt r
      rw [List.toList_toArray]
      show (⟨(r.take (r.length + 1 - 1)).toArray⟩ : Str) = _
      rw [Nat.add_sub_cancel, List.take_length]
      rfl
    · have h2 : ¬ Builtin.Str.subAt (WM.txt (c :: r)) (WM.txt [45]) 0 = true := fun z => by
        have := h1.mp ⟨by rw [hl]; show 0 + 1 ≤ _; omega, z⟩
        exact hc (by injection this)
      have hb : WM.backW (c :: r) = false := Bool.eq_false_iff.mpr fun z => by
        obtain ⟨q, e⟩ := WM.back_iff.mp z
        injection e with e _
        exact hc e
      rw [if_neg (by rw [hle, Bool.true_and]; exact h2)]
      unfold WM.bodyN
      rw [if_neg (by rw [hb]; decide)]
section
variable {X : Cx}
/-- text.removeprefix("-") -/
def rRemP : V → List V → Hp → VK → Prop := fun x xs H Q => ∃ l : List Nat, x = .str (WM.txt l) ∧ xs = [.str (WM.txt [45])] ∧ l.length ≤ 100000 ∧ Q (.str (WM.txt (WM.bodyN l))) H
theorem mt_remp : MtR X "str.removeprefix" rRemP := by
  intro pins s σ H x xs v us Q I rx rs h
  obtain ⟨l, rfl, rfl, hl, q⟩ := h
  obtain ⟨t, rfl⟩ := rx
  cases rs with
  | cons r1 rs =>
    cases rs
    obtain ⟨u, rfl⟩ := r1
    refine PySem.SC.removeprefix (fun t' k => ?_) (by rw [WM.txt_length, sizeLine_eq]; omega)
    rw [remp_eq]
    exact ⟨.str _, H, I.tok _, ⟨_, rfl⟩, q⟩
end
end L2
namespace WM
open PySem
theorem num_len {t : Int} (h : -(10 ^ 9) < t ∧ t < 10 ^ 9) : (Str.ofString (toString t)).length ≤ 31 := by
  have h2 : t.natAbs.log2 < 30 := by
    by_cases h0 : t.natAbs = 0
    · rw [h0]; decide
    · exact (Nat.log2_lt h0).mpr (by omega)
  have := PySem.int_text_length_le (a := t) (k := 30) (by decide) h2
  have e : (Str.ofString (toString t)).length = (toString t).length := by
    have e2 : (Str.ofString (toString t)).cps.toList = (toString t).toList.map Char.toNat := PyProof.Rows.signs_ofString _
    have e3 := congrArg List.length e2
    rw [List.length_map, Array.length_toList] at e3
    exact e3
  rw [e]
  exact this
theorem str_cp (s : String) : ∀ c ∈ (Str.ofString s).cps.toList, c < 1114112 := by
  intro c hc
  rw [PyProof.Rows.signs_ofString] at hc
  obtain ⟨ch, _, rfl⟩ := List.mem_map.mp hc
  have := ch.valid
  rcases this with h | h
  · show ch.val.toNat < _; omega
  · show ch.val.toNat < _; omega
/-- texts with a blank between, or none -/
def lstd (ws : List Str) : Str := if ws = [] then "none" else Txt.join " " ws
/-- what turns are written as -/
def shT (ts : List Int) : Str := lstd (ts.map fun t => Str.ofString (toString t))
end WM

set_option Elab.async false
set_option linter.all false
set_option maxRecDepth 100000
set_option maxHeartbeats 4000000
namespace WM
open PySem
theorem spl_sum : ∀ (L acc : List Nat), ((TL.spl [32] 0 acc L).map List.length).sum + (TL.spl [32] 0 acc L).length = acc.length + L.length + 1
  | [], acc => by
    rw [TL.spl_nil]
    show acc.length + 0 + 1 = _
    rfl
  | c :: r, acc => by
    cases hp : TL.pre [32] (c :: r) with
    | true =>
      rw [TL.spl_hit hp]
      have ih := spl_sum r []
      rw [show [32].length - 1 = 0 from rfl]
      generalize TL.spl [32] 0 [] r = A at ih ⊢
      rw [List.map_cons, List.sum_cons, List.length_cons, List.length_cons]
      rw [List.length_nil] at ih
      generalize (A.map List.length).sum = S at ih ⊢
      omega
    | false =>
      rw [TL.spl_miss hp]
      have ih := spl_sum r (acc ++ [c])
      rw [List.length_append, show [c].length = 1 from rfl] at ih
      rw [ih, List.length_cons]
      omega
theorem prts_sum (x : List Nat) : ((prts x).map List.length).sum + (prts x).length = x.length + 1 := by
  have e : prts x = TL.spl [32] 0 [] x := by
    have := TL.split_spl (txt x) (txt [32]) (by show [32].toArray.toList ≠ []; simp) (TL.kind_ok (by decide +kernel))
    have e1 : TL.tl (txt [32]) = [32] := rfl
    have e2 : TL.tl (txt x) = x := txt_cps x
    rw [e1, e2] at this
    exact this
  rw [e]
  have := spl_sum x []
  rw [List.length_nil] at this
  omega
theorem join_txt (ws : List (List Nat)) : Txt.join (txt [32]) (ws.map txt) = txt (TL.joinL [32] ws) := by
  rw [← txt_back (Txt.join (txt [32]) (ws.map txt))]
  congr 1
  show TL.tl _ = _
  rw [TL.join_eq, TL.tl_join, List.map_map]
  congr 1
  exact (List.map_congr_left fun w _ => (txt_cps w : TL.tl (txt w) = w)).trans (List.map_id _)
theorem joinL_len : ∀ ws : List (List Nat), (TL.joinL [32] ws).length ≤ (ws.map List.length).sum + ws.length
  | [] => Nat.le_refl _
  | [w] => by
    show w.length ≤ w.length + 0 + 1
    omega
  | p :: q :: r => by
    show (p ++ ([32] ++ TL.joinL [32] (q :: r))).length ≤ _
    have := joinL_len (q :: r)
    rw [List.length_append, List.length_append, show [32].length = 1 from rfl]
    generalize q :: r = B at this ⊢
    rw [List.map_cons, List.sum_cons, List.length_cons]
    generalize (B.map List.length).sum = S at this ⊢
    omega
theorem joinL_mem : ∀ {ws : List (List Nat)} {c : Nat}, c ∈ TL.joinL [32] ws → c = 32 ∨ ∃ w ∈ ws, c ∈ w
  | [], c, h => by cases h
  | [w], c, h => .inr ⟨w, List.mem_cons_self, h⟩
  | p :: q :: r, c, h => by
    have h : c ∈ p ++ ([32] ++ TL.joinL [32] (q :: r)) := h
    rcases List.mem_append.mp h with h | h
    · exact .inr ⟨p, List.mem_cons_self, h⟩
    rcases List.mem_append.mp h with h | h
    · exact .inl (List.mem_singleton.mp h)
    · rcases joinL_mem h with h | ⟨w, hw, h⟩
      · exact .inl h
      · exact .inr ⟨w, List.mem_cons_of_mem _ hw, h⟩
end WM

set_option Elab.async false
set_option linter.all false
set_option maxRecDepth 100000
set_option maxHeartbeats 4000000
namespace W
open PySem L2 WM
def top (i : Nat) : Stmt := PySem.Challenge.pw_strikewheel_k61_turns_written.main.body.getD i (.Pass ⟨0, 0, 0, 0⟩)
end W

set_option Elab.async false
set_option linter.all false
set_option maxRecDepth 100000
set_option maxHeartbeats 4000000
namespace W
open PySem L2 WM
abbrev sKind : Stmt := top 23
abbrev psKind : List Str := ["e"]
theorem scKind : FnScope ["e", "some", "names", "k"] ["e"] (defScope sKind) := ⟨rfl, rfl, rfl, by decide +kernel, rfl, by decide +kernel, by decide +kernel⟩
theorem lKind_1 : Loc (defScope sKind) "some" := Or.inr (by decide +kernel)
theorem vKind_1 : Vis (defScope sKind) "some" := Or.inr (Or.inl (by decide +kernel))
theorem lKind_2 : Loc (defScope sKind) "names" := Or.inr (by decide +kernel)
theorem vKind_2 : Vis (defScope sKind) "names" := Or.inr (Or.inl (by decide +kernel))
section
variable {P : Program} {w : World} {K : PySem.W.Frag} {mg : Str → Option Value} {base : Heap}
theorem ok_kind {f : Addr} {fd : FuncData} {c : Cls14} (F : Fun K "_law_kind" "_law_kind" sKind f fd) (T : Txt mg) (R : Ref K mg c) : FnOkH P w K mg base 1 f fd ["e"] (spKind K c) := by
  obtain ⟨oc, od, kV, doc, pm, an, cdv, ct, osl, rfl, lk, hcd⟩ := F.ex
  refine fn_ofH lk hcd scKind (fun x C vs H Q h => ?_) (fun A outer s H vs Q x C hX h => ?_)
  · obtain ⟨bs, rfl, _⟩ := h
    rfl
  · obtain ⟨bs, rfl, ⟨⟨b0, b1, b2, b3, b4, b5, b6, b7, b8, b9, b10, b11, b12, b13, b14, rfl, k0, k1, k2, k3, k4, k5, k6, k7, k8, k9, k10, k11, k12, k13, k14⟩, Z⟩, hz, k⟩ := h
    have hX' : HdX (cxH P w K mg base ["e", "some", "names", "k"] "_law_kind" (defScope sKind) f cdv A outer s H).nox x C := hX
    have pI : ∀ {nm : Str} {a : Addr} {p1 p2 p3 pos : Pos}, Gl (cxH P w K mg base ["e", "some", "names", "k"] "_law_kind" (defScope sKind) f cdv A outer s H).nox nm → mg nm = some (.ref a) → (nm == ("__debug__" : Str)) = false →
        PE (cxH P w K mg base ["e", "some", "names", "k"] "_law_kind" (defScope sKind) f cdv A outer s H).nox (.Call (.Name "isinstance" p1) [.Name "e" p2, .Name nm p3] [] pos) (tCB (rIsE K x C) (tCons (tVar 0) (tCons (tC (.ref a)) tNil))) :=
      fun hg hm hd => pe_callB (cr_isE hX' Z) (by rfl) T.isi boot_isi (pa_cons (pv 0) (pa_cons (pe_glob hg hm rfl hd) pa_nil))
    refine ⟨_, (@pss_cons _ _ _ _ _ (@ps_set _ _ 1 _ _ _ _ scKind.nd rfl lKind_1 (@pe_lst _ _ _ _ (@pa_cons _ _ _ _ _ (@pI _ _ _ _ _ _ (by rfl) R.m0 (by decide)) (@pa_cons _ _ _ _ _ (@pI _ _ _ _ _ _ (by rfl) R.m1 (by decide)) (@pa_cons _ _ _ _ _ (@pI _ _ _ _ _ _ (by rfl) R.m2 (by decide)) (@pa_cons _ _ _ _ _ (@pI _ _ _ _ _ _ (by rfl) R.m3 (by decide)) (@pa_nil _) (by rfl)) (by rfl)) (by rfl)) (by rfl))) (by rfl) (by first | exact .inl rfl | exact .inr rfl | assumption)) (@pss_cons _ _ _ _ _ (@ps_set _ _ 1 _ _ _ _ scKind.nd rfl lKind_1 (@pe_op _ _ _ _ _ _ _ _ op_cat (@pv _ 1 _ _ (by rfl) vKind_1 (by decide) (by decide)) (@pe_lst _ _ _ _ (@pa_cons _ _ _ _ _ (@pI _ _ _ _ _ _ (by rfl) R.m4 (by decide)) (@pa_cons _ _ _ _ _ (@pI _ _ _ _ _ _ (by rfl) R.m5 (by decide)) (@pa_cons _ _ _ _ _ (@pI _ _ _ _ _ _ (by rfl) R.m6 (by decide)) (@pa_cons _ _ _ _ _ (@pI _ _ _ _ _ _ (by rfl) R.m7 (by decide)) (@pa_nil _) (by rfl)) (by rfl)) (by rfl)) (by rfl)))) (by rfl) (by first | exact .inl rfl | exact .inr rfl | assumption)) (@pss_cons _ _ _ _ _ (@ps_set _ _ 1 _ _ _ _ scKind.nd rfl lKind_1 (@pe_op _ _ _ _ _ _ _ _ op_cat (@pv _ 1 _ _ (by rfl) vKind_1 (by decide) (by decide)) (@pe_lst _ _ _ _ (@pa_cons _ _ _ _ _ (@pI _ _ _ _ _ _ (by rfl) R.m8 (by decide)) (@pa_cons _ _ _ _ _ (@pI _ _ _ _ _ _ (by rfl) R.m9 (by decide)) (@pa_cons _ _ _ _ _ (@pI _ _ _ _ _ _ (by rfl) R.m10 (by decide)) (@pa_cons _ _ _ _ _ (@pI _ _ _ _ _ _ (by rfl) R.m11 (by decide)) (@pa_nil _) (by rfl)) (by rfl)) (by rfl)) (by rfl)))) (by rfl) (by first | exact .inl rfl | exact .inr rfl | assumption)) (@pss_cons _ _ _ _ _ (@ps_set _ _ 1 _ _ _ _ scKind.nd rfl lKind_1 (@pe_op _ _ _ _ _ _ _ _ op_cat (@pv _ 1 _ _ (by rfl) vKind_1 (by decide) (by decide)) (@pe_lst _ _ _ _ (@pa_cons _ _ _ _ _ (@pI _ _ _ _ _ _ (by rfl) R.m12 (by decide)) (@pa_cons _ _ _ _ _ (@pI _ _ _ _ _ _ (by rfl) R.m13 (by decide)) (@pa_cons _ _ _ _ _ (@pe_callB _ _ _ _ _ _ _ _ _ (cr_isE hX' Z) (by rfl) T.isi boot_isi (@pa_cons _ _ _ _ _ (@pv _ 0 _ _ (by rfl) (by first | exact Or.inl rfl | exact Or.inr (Or.inl rfl) | exact Or.inr (Or.inr rfl)) (by decide) (by decide)) (@pa_cons _ _ _ _ _ (@pe_bltn _ _ (.ty "ValueError") _ _ (by rfl) T.ve (by decide +kernel) rfl (by decide) (by decide)) (@pa_nil _) (by rfl)) (by rfl)) (by decide) (by decide) (by rfl) (by rfl)) (@pa_nil _) (by rfl)) (by rfl)) (by rfl)))) (by rfl) (by first | exact .inl rfl | exact .inr rfl | assumption)) (@pss_cons _ _ _ _ _ (@ps_setC _ _ 2 "names" ((kinds.take 10).map V.str) (by decide +kernel) scKind.nd rfl lKind_2 (by first | exact .inl rfl | exact .inr rfl | assumption)) (@pss_cons _ _ _ _ _ (@ps_catC _ _ 2 2 "names" "names" ((kinds.drop 10).map V.str) (by decide +kernel) scKind.nd rfl lKind_2 rfl vKind_2 (by decide) (by decide) (by first | exact .inl rfl | exact .inr rfl | assumption)) (@pss_one _ _ _ (@ps_ret _ _ _ _ (@pe_join _ _ _ _ _ _ _ (@pe_str _ _ _ _) (@pe_lcR _ _ _ _ _ _ [("k", 3)] _ _ (gName 3) _ _ _ _ hX' scKind.nd (pi_range1R (by rfl) T.range (@pa_cons _ _ _ _ _ (@pe_int _ _ _ _) (@pa_nil _) (by rfl))) (blkOk_by (own := [("k", 3)]) (N := ["e", "some", "names", "k"]) (sc := defScope sKind) (by decide +kernel)) (fun _ _ _ _ _ => (@pg_name _ _ 3 _ scKind.nd rfl (Or.inl rfl) (by first | exact .inl rfl | exact .inr rfl | assumption))) (fun _ _ _ _ _ => (@pts_one _ _ _ (@pt_val _ _ _ (@pe_ix _ _ _ _ _ _ (rIxL K) ix_list (@pv _ 1 _ _ (by rfl) (by first | exact Or.inl rfl | exact Or.inr (Or.inl rfl) | exact Or.inr (Or.inr rfl)) (by decide) (by decide)) (@pv _ 3 _ _ (by rfl) (by first | exact Or.inl rfl | exact Or.inr (Or.inl rfl) | exact Or.inr (Or.inr rfl)) (by decide) (by decide)) (fun _ _ => rfl)) (by intro _ ; rfl)))) (fun _ _ _ _ _ => (@pe_ix _ _ _ _ _ _ (rIxL K) ix_list (@pv _ 2 _ _ (by rfl) (by first | exact Or.inl rfl | exact Or.inr (Or.inl rfl) | exact Or.inr (Or.inr rfl)) (by decide) (by decide)) (@pv _ 3 _ _ (by rfl) (by first | exact Or.inl rfl | exact Or.inr (Or.inl rfl) | exact Or.inr (Or.inr rfl)) (by decide) (by decide)) (fun _ _ => rfl))) (by intro _ ; rfl)) (by rfl) (by rfl) (by rfl)))))))))), ?_⟩
    -- some
    have sm0 : Same H H := Same.refl H
    refine ⟨_, rfl, _, _, _, rfl, rfl, k0, _, rfl, _, _, _, rfl, rfl, k1, _, rfl, _, _, _, rfl, rfl, k2, _, rfl, _, _, _, rfl, rfl, k3, (by show 4 ≤ sizeLine; decide), fun l1 h1 => ?_⟩
    refine ⟨_, rfl, _, rfl, _, _, _, rfl, rfl, k4, _, rfl, _, _, _, rfl, rfl, k5, _, rfl, _, _, _, rfl, rfl, k6, _, rfl, _, _, _, rfl, rfl, k7, (by show 4 ≤ sizeLine; decide), fun l2 h2 => ?_⟩
    have n12 : l1 ≠ l2 := ne_of_none upd_same h2
    refine ⟨l1, l2, _, _, rfl, rfl, (by rw [upd_ne n12]; exact upd_same), upd_same, (by show 8 ≤ sizeLine; decide), fun l3 h3 => ?_⟩
    refine ⟨_, rfl, _, rfl, _, _, _, rfl, rfl, k8, _, rfl, _, _, _, rfl, rfl, k9, _, rfl, _, _, _, rfl, rfl, k10, _, rfl, _, _, _, rfl, rfl, k11, (by show 4 ≤ sizeLine; decide), fun l4 h4 => ?_⟩
    have n34 : l3 ≠ l4 := ne_of_none upd_same h4
    refine ⟨l3, l4, _, _, rfl, rfl, (by rw [upd_ne n34]; exact upd_same), upd_same, (by show 12 ≤ sizeLine; decide), fun l5 h5 => ?_⟩
    refine ⟨_, rfl, _, rfl, _, _, _, rfl, rfl, k12, _, rfl, _, _, _, rfl, rfl, k13, _, rfl, _, _, _, rfl, rfl, k14, (by show 3 ≤ sizeLine; decide), fun l6 h6 => ?_⟩
    have n56 : l5 ≠ l6 := ne_of_none upd_same h6
    refine ⟨l5, l6, _, _, rfl, rfl, (by rw [upd_ne n56]; exact upd_same), upd_same, (by show 15 ≤ sizeLine; decide), fun l7 h7 => ?_⟩
    generalize hbs : [b0, b1, b2, b3, b4, b5, b6, b7, b8, b9, b10, b11, b12, b13, b14] = bs at hz k
    have hb15 : bs.length = 15 := by rw [← hbs]; rfl
    have hl7 : ∀ H1 : Hp, H1 l7 = none → (upd H1 l7 (.lst ((([V.bl b0, V.bl b1, V.bl b2, V.bl b3] ++ [V.bl b4, V.bl b5, V.bl b6, V.bl b7]) ++ [V.bl b8, V.bl b9, V.bl b10, V.bl b11]) ++ [V.bl b12, V.bl b13, V.bl b14]))) l7 = some (.lst (bs.map V.bl)) := fun H1 _ => by rw [upd_same, ← hbs]; rfl
    have e7 := hl7 _ h7
    have s7 : Same H (upd (upd (upd (upd (upd (upd (upd H l1 (.lst [V.bl b0, V.bl b1, V.bl b2, V.bl b3])) l2 (.lst [V.bl b4, V.bl b5, V.bl b6, V.bl b7])) l3 (.lst ([V.bl b0, V.bl b1, V.bl b2, V.bl b3] ++ [V.bl b4, V.bl b5, V.bl b6, V.bl b7]))) l4 (.lst [V.bl b8, V.bl b9, V.bl b10, V.bl b11])) l5 (.lst (([V.bl b0, V.bl b1, V.bl b2, V.bl b3] ++ [V.bl b4, V.bl b5, V.bl b6, V.bl b7]) ++ [V.bl b8, V.bl b9, V.bl b10, V.bl b11]))) l6 (.lst [V.bl b12, V.bl b13, V.bl b14])) l7 (.lst ((([V.bl b0, V.bl b1, V.bl b2, V.bl b3] ++ [V.bl b4, V.bl b5, V.bl b6, V.bl b7]) ++ [V.bl b8, V.bl b9, V.bl b10, V.bl b11]) ++ [V.bl b12, V.bl b13, V.bl b14]))) :=
      (((((((Same.new h1).trans (Same.new h2)).trans (Same.new h3)).trans (Same.new h4)).trans (Same.new h5)).trans (Same.new h6)).trans (Same.new h7))
    generalize (upd (upd (upd (upd (upd (upd (upd H l1 (.lst [V.bl b0, V.bl b1, V.bl b2, V.bl b3])) l2 (.lst [V.bl b4, V.bl b5, V.bl b6, V.bl b7])) l3 (.lst ([V.bl b0, V.bl b1, V.bl b2, V.bl b3] ++ [V.bl b4, V.bl b5, V.bl b6, V.bl b7]))) l4 (.lst [V.bl b8, V.bl b9, V.bl b10, V.bl b11])) l5 (.lst (([V.bl b0, V.bl b1, V.bl b2, V.bl b3] ++ [V.bl b4, V.bl b5, V.bl b6, V.bl b7]) ++ [V.bl b8, V.bl b9, V.bl b10, V.bl b11]))) l6 (.lst [V.bl b12, V.bl b13, V.bl b14])) l7 (.lst ((([V.bl b0, V.bl b1, V.bl b2, V.bl b3] ++ [V.bl b4, V.bl b5, V.bl b6, V.bl b7]) ++ [V.bl b8, V.bl b9, V.bl b10, V.bl b11]) ++ [V.bl b12, V.bl b13, V.bl b14]))) = H7 at e7 s7 ⊢
    -- names
    refine ⟨(by show 10 ≤ sizeLine; decide), fun l8 h8 => ?_⟩
    refine ⟨_, rfl, (by show 5 ≤ sizeLine; decide), fun l9 h9 => ?_⟩
    have n89 : l8 ≠ l9 := ne_of_none upd_same h9
    refine ⟨l8, l9, _, _, rfl, rfl, (by rw [upd_ne n89]; exact upd_same), upd_same, (by show 15 ≤ sizeLine; decide), fun l10 h10 => ?_⟩
    have e10 : (upd (upd (upd H7 l8 (.lst ((kinds.take 10).map V.str))) l9 (.lst ((kinds.drop 10).map V.str))) l10 (.lst ((kinds.take 10).map V.str ++ (kinds.drop 10).map V.str))) l10 = some (.lst (kinds.map V.str)) := by rw [upd_same]; rfl
    have s10 : Same H7 (upd (upd (upd H7 l8 (.lst ((kinds.take 10).map V.str))) l9 (.lst ((kinds.drop 10).map V.str))) l10 (.lst ((kinds.take 10).map V.str ++ (kinds.drop 10).map V.str))) := ((Same.new h8).trans (Same.new h9)).trans (Same.new h10)
    generalize (upd (upd (upd H7 l8 (.lst ((kinds.take 10).map V.str))) l9 (.lst ((kinds.drop 10).map V.str))) l10 (.lst ((kinds.take 10).map V.str ++ (kinds.drop 10).map V.str))) = H10 at e10 s10 ⊢
    -- the join
    refine ⟨⟨_, rfl⟩, 15, rfl, by decide, by decide, fun D hD => lc_range (lo := 0) (n := 15) (fun i H1 => Same H10 H1 ∧ i ≤ 15 ∧ H1 D = some (.lst ((sel (kinds.take i) (bs.take i)).map V.str))) ?_ ?_ ?_⟩
    · exact ⟨Same.new hD, Nat.zero_le _, upd_same⟩
    · rintro i H1 hi ⟨s1, hi', hL⟩
      obtain ⟨b, hb⟩ : ∃ b, bs[i]? = some b := ⟨_, List.getElem?_eq_getElem (by omega)⟩
      obtain ⟨nm, hn⟩ := kinds_at i hi
      have ez : (0 : Int) + (i : Int) = ((i : Nat) : Int) := Int.zero_add _
      refine ⟨rfl, ?_⟩
      refine ⟨_, rfl, _, rfl, l7, _, _, _, rfl, rfl, SqL.of (s1 _ _ (s10 _ _ e7)), (by rw [ez]; exact atI_nat (by rw [List.getElem?_map, hb]; rfl)), _, rfl, ?_⟩
      have hst := sel_take kinds bs i hn hb
      cases b with
      | true =>
        dsimp only
        rw [if_pos rfl]
        refine ⟨_, rfl, _, rfl, l10, _, _, _, rfl, rfl, SqL.of (s1 _ _ e10), (by rw [ez]; exact atI_nat (by rw [List.getElem?_map, hn]; rfl)), _, hL, ?_, ?_⟩
        · rw [List.length_map]
          have := sel_len (kinds.take i) (bs.take i)
          rw [List.length_take] at this
          exact small1000 (by omega)
        · refine ⟨fun b o e => ?_, hi, ?_⟩
          · rw [upd_ne (ne_of_none e hD)]; exact s1 b o e
          · rw [upd_same, hst, List.map_append]; rfl
      | false =>
        dsimp only
        rw [if_neg Bool.false_ne_true]
        refine ⟨s1, hi, ?_⟩
        rw [hst]
        simp only [Bool.false_eq_true, if_false, List.append_nil]
        exact hL
    · rintro H1 ⟨s1, hi', hL⟩
      have ek : kinds.take 15 = kinds := rfl
      rw [ek, List.take_of_length_le (by omega)] at hL
      refine ⟨_, D, sel kinds bs, rfl, rfl, .inl (SqL.of hL), ?_, ?_⟩
      · show _ + _ * 0 ≤ _
        omega
      · exact k H1 (s7.trans (s10.trans s1))
theorem cal_kind {c : Cls14} (D : Def K mg "_law_kind" sKind psKind) (T : Txt mg) (R : Ref K mg c) : CalH P w K mg base 1 "_law_kind" psKind (spKind K c) := by
  obtain ⟨f, fd, F, m, b⟩ := D
  exact ⟨f, fd, ok_kind F T R, F.kp, b, m⟩
end
end W

set_option Elab.async false
set_option linter.all false
set_option maxRecDepth 100000
set_option maxHeartbeats 4000000
namespace W
open PySem L2 WM
abbrev sDraw : Stmt := top 27
abbrev psDraw : List Str := ["draws", "many"]
theorem scDraw : FnScope ["draws", "many", "found"] ["draws", "many"] (defScope sDraw) := ⟨rfl, rfl, rfl, by decide +kernel, rfl, by decide +kernel, by decide +kernel⟩
section
variable {P : Program} {w : World} {K : PySem.W.Frag} {mg : Str → Option Value} {base : Heap}
theorem ok_draw {f : Addr} {fd : FuncData} (F : Fun K "_law_draw" "_law_draw" sDraw f fd) : FnOk P w K mg base CX0 1 f fd ["draws", "many"] spDraw := by
  refine F.ok scDraw (fun vs H Q E h => ?_) (fun cdv A outer s H vs Q E hr h => ?_)
  · obtain ⟨p, m, rfl, _⟩ := h
    rfl
  · obtain ⟨p, m, rfl, ⟨a, b, c, hp, D⟩, m0, m1, k⟩ := h
    refine ⟨_, (@pss_cons _ _ _ _ _ (@ps_if _ _ _ _ _ _ _ _ (@pt_cmpR _ _ _ _ _ _ _ _ op_gt (@pe_ix _ _ _ _ _ _ _ ix_list (@pv _ 0 _ _ (by rfl) (by first | exact Or.inl rfl | exact Or.inr (Or.inl rfl) | exact Or.inr (Or.inr rfl)) (by decide) (by decide)) (@pe_int _ _ _ _) (fun _ _ => rfl)) (@pe_int _ _ _ _) (nomark _)) (@pss_cons _ _ _ _ _ (@ps_set _ _ 2 _ _ _ _ scDraw.nd rfl (Or.inl rfl) (@pe_op _ _ _ _ _ _ _ _ op_mod (@pe_ix _ _ _ _ _ _ _ ix_list (@pv _ 0 _ _ (by rfl) (by first | exact Or.inl rfl | exact Or.inr (Or.inl rfl) | exact Or.inr (Or.inr rfl)) (by decide) (by decide)) (@pe_int _ _ _ _) (fun _ _ => rfl)) (@pv _ 1 _ _ (by rfl) (by first | exact Or.inl rfl | exact Or.inr (Or.inl rfl) | exact Or.inr (Or.inr rfl)) (by decide) (by decide))) (by rfl) (by first | exact .inl rfl | exact .inr rfl | assumption)) (@pss_cons _ _ _ _ _ (@ps_asg _ _ _ _ _ _ (@pe_op _ _ _ _ _ _ _ _ op_fdiv (@pe_ix _ _ _ _ _ _ _ ix_list (@pv _ 0 _ _ (by rfl) (by first | exact Or.inl rfl | exact Or.inr (Or.inl rfl) | exact Or.inr (Or.inr rfl)) (by decide) (by decide)) (@pe_int _ _ _ _) (fun _ _ => rfl)) (@pv _ 1 _ _ (by rfl) (by first | exact Or.inl rfl | exact Or.inr (Or.inl rfl) | exact Or.inr (Or.inr rfl)) (by decide) (by decide))) (@pg_sub _ _ _ _ _ _ _ (@pv _ 0 _ _ (by rfl) (by first | exact Or.inl rfl | exact Or.inr (Or.inl rfl) | exact Or.inr (Or.inr rfl)) (by decide) (by decide)) (@pe_int _ _ _ _) set_list (by intro _ ; rfl)) (by rfl) (by rfl) (by rfl)) (@pss_one _ _ _ (@ps_ret _ _ _ _ (@pv _ 2 _ _ (by rfl) (by first | exact Or.inl rfl | exact Or.inr (Or.inl rfl) | exact Or.inr (Or.inr rfl)) (by decide) (by decide)))))) (@pss_nil _)) (@pss_cons _ _ _ _ _ (@ps_asg _ _ _ _ _ _ (@pe_op _ _ _ _ _ _ _ _ op_add (@pe_op _ _ _ _ _ _ _ _ op_mod (@pe_op _ _ _ _ _ _ _ _ op_mul (@pe_ix _ _ _ _ _ _ _ ix_list (@pv _ 0 _ _ (by rfl) (by first | exact Or.inl rfl | exact Or.inr (Or.inl rfl) | exact Or.inr (Or.inr rfl)) (by decide) (by decide)) (@pe_int _ _ _ _) (fun _ _ => rfl)) (@pe_int _ _ _ _)) (@pe_ix _ _ _ _ _ _ _ ix_list (@pv _ 0 _ _ (by rfl) (by first | exact Or.inl rfl | exact Or.inr (Or.inl rfl) | exact Or.inr (Or.inr rfl)) (by decide) (by decide)) (@pe_int _ _ _ _) (fun _ _ => rfl))) (@pe_int _ _ _ _)) (@pg_sub _ _ _ _ _ _ _ (@pv _ 0 _ _ (by rfl) (by first | exact Or.inl rfl | exact Or.inr (Or.inl rfl) | exact Or.inr (Or.inr rfl)) (by decide) (by decide)) (@pe_int _ _ _ _) set_list (by intro _ ; rfl)) (by rfl) (by rfl) (by rfl)) (@pss_one _ _ _ (@ps_ret _ _ _ _ (@pe_op _ _ _ _ _ _ _ _ op_mod (@pe_op _ _ _ _ _ _ _ _ op_fdiv (@pe_op _ _ _ _ _ _ _ _ op_mod (@pe_op _ _ _ _ _ _ _ _ op_mul (@pe_ix _ _ _ _ _ _ _ ix_list (@pv _ 0 _ _ (by rfl) (by first | exact Or.inl rfl | exact Or.inr (Or.inl rfl) | exact Or.inr (Or.inr rfl)) (by decide) (by decide)) (@pe_int _ _ _ _) (fun _ _ => rfl)) (@pe_op _ _ _ _ _ _ _ _ op_add (@pe_op _ _ _ _ _ _ _ _ op_fdiv (@pe_ix _ _ _ _ _ _ _ ix_list (@pv _ 0 _ _ (by rfl) (by first | exact Or.inl rfl | exact Or.inr (Or.inl rfl) | exact Or.inr (Or.inr rfl)) (by decide) (by decide)) (@pe_int _ _ _ _) (fun _ _ => rfl)) (@pe_int _ _ _ _)) (@pe_int _ _ _ _))) (@pe_int _ _ _ _)) (@pe_int _ _ _ _)) (@pv _ 1 _ _ (by rfl) (by first | exact Or.inl rfl | exact Or.inr (Or.inl rfl) | exact Or.inr (Or.inr rfl)) (by decide) (by decide))))))), ?_⟩
    refine ⟨_, rfl, p, _, _, _, rfl, rfl, SqL.of hp, atI_nat (j := 0) rfl, _, _, rfl, rfl, _, rfl, ?_⟩
    refine ite2 (fun _ => ?_) (fun _ => ?_)
    · refine ⟨_, rfl, p, _, _, _, rfl, rfl, SqL.of hp, atI_nat (j := 0) rfl, _, rfl, _, _, rfl, rfl, m0, ?_⟩
      refine ⟨_, rfl, p, _, _, _, rfl, rfl, SqL.of hp, atI_nat (j := 0) rfl, _, rfl, _, _, rfl, rfl, ⟨m0, m1⟩, ?_⟩
      refine ⟨_, rfl, p, _, _, 0, rfl, rfl, hp, rfl, ?_⟩
      refine ⟨_, rfl, ?_⟩
      refine k _ _ (Int.emod_nonneg _ (by omega)) (Int.emod_lt_of_pos _ m0) ⟨a / m, b, c, upd_same, ?_⟩ (But.upd _ _ _)
      exact ⟨Int.ediv_nonneg D.a0 (by omega), D.b0, D.b1, D.c0, D.c1⟩
    · refine ⟨_, rfl, p, _, _, _, rfl, rfl, SqL.of hp, atI_nat (j := 1) rfl, _, _, rfl, rfl, .inr ⟨by decide, by decide⟩, _, rfl, p, _, _, _, rfl, rfl, SqL.of hp, atI_nat (j := 2) rfl, _, _, rfl, rfl, D.c0, _, _, rfl, rfl, ?_⟩
      refine ⟨_, rfl, p, _, _, 1, rfl, rfl, hp, rfl, ?_⟩
      have r0 : 0 ≤ b * 69621 % c := Int.emod_nonneg _ (by have := D.c0; omega)
      have r1 : b * 69621 % c < c := Int.emod_lt_of_pos _ D.c0
      have c1 := D.c1
      refine ⟨_, rfl, p, _, _, _, rfl, rfl, SqL.of upd_same, atI_nat (j := 1) rfl, _, rfl, p, _, _, _, rfl, rfl, SqL.of upd_same, atI_nat (j := 1) rfl, _, _, rfl, rfl, ⟨by decide, by decide⟩, _, _, rfl, rfl,
        _, _, rfl, rfl, .inl ⟨by show -(2 ^ 64) < b * 69621 % c + 1; omega, by show b * 69621 % c + 1 < 2 ^ 64; omega⟩, _, _, rfl, rfl, (by show (0 : Int) < 2147483423; decide), _, _, rfl, rfl, ⟨by decide, by decide⟩, _, rfl, _, _, rfl, rfl, m0, ?_⟩
      refine k _ _ (Int.emod_nonneg _ (by omega)) (Int.emod_lt_of_pos _ m0) ⟨a, b * 69621 % c + 1, c, upd_same, ?_⟩ (But.upd _ _ _)
      exact ⟨D.a0, by omega, by omega, D.c0, D.c1⟩
theorem cal_draw (D : Def K mg "_law_draw" sDraw psDraw) : Cal P w K mg base CX0 1 "_law_draw" psDraw spDraw := cal_mk D fun f fd F => ok_draw F
end
end W

set_option Elab.async false
set_option linter.all false
set_option maxRecDepth 100000
set_option maxHeartbeats 4000000
namespace W
open PySem L2 WM
abbrev sDraws : Stmt := top 29
abbrev psDraws : List Str := ["script", "k"]
theorem scDraws : FnScope ["script", "k", "primes", "cell", "seed"] ["script", "k"] (defScope sDraws) := ⟨rfl, rfl, rfl, by decide +kernel, rfl, by decide +kernel, by decide +kernel⟩
section
variable {P : Program} {w : World} {K : PySem.W.Frag} {mg : Str → Option Value} {base : Heap}
theorem ok_draws {f : Addr} {fd : FuncData} (F : Fun K "_law_draws" "_law_draws" sDraws f fd) (T : Txt mg) : FnOk P w K mg base CX0 1 f fd ["script", "k"] (spDraws K) := by
  refine F.ok scDraws (fun vs H Q E h => ?_) (fun cdv A outer s H vs Q E hr h => ?_)
  · obtain ⟨a, ns, j, rfl, _⟩ := h
    rfl
  · obtain ⟨a, ns, j, rfl, hS, hlen, j0, j63, k⟩ := h
    refine ⟨_, (@pss_cons _ _ _ _ _ (@ps_set _ _ 2 _ _ _ _ scDraws.nd rfl (Or.inl rfl) (@pe_tup _ _ _ _ _ (@pa_cons _ _ _ _ _ (@pe_int _ _ _ _) (@pa_cons _ _ _ _ _ (@pe_int _ _ _ _) (@pa_cons _ _ _ _ _ (@pe_int _ _ _ _) (@pa_cons _ _ _ _ _ (@pe_int _ _ _ _) (@pa_cons _ _ _ _ _ (@pe_int _ _ _ _) (@pa_cons _ _ _ _ _ (@pe_int _ _ _ _) (@pa_cons _ _ _ _ _ (@pe_int _ _ _ _) (@pa_cons _ _ _ _ _ (@pe_int _ _ _ _) (@pa_nil _) (by rfl)) (by rfl)) (by rfl)) (by rfl)) (by rfl)) (by rfl)) (by rfl)) (by rfl))) (by rfl) (by first | exact .inl rfl | exact .inr rfl | assumption)) (@pss_cons _ _ _ _ _ (@ps_set _ _ 3 _ _ _ _ scDraws.nd rfl (Or.inl rfl) (@pe_op _ _ _ _ _ _ _ _ op_add (@pe_op _ _ _ _ _ _ _ _ op_mul (@pe_int _ _ _ _) (@pv _ 1 _ _ (by rfl) (by first | exact Or.inl rfl | exact Or.inr (Or.inl rfl) | exact Or.inr (Or.inr rfl)) (by decide) (by decide))) (@pe_int _ _ _ _)) (by rfl) (by first | exact .inl rfl | exact .inr rfl | assumption)) (@pss_cons _ _ _ _ _ (@ps_cut _ _ _ (@ps_if _ _ _ _ _ _ _ _ (@pt_cmpR _ _ _ _ _ _ _ _ op_lt (@pv _ 1 _ _ (by rfl) (by first | exact Or.inl rfl | exact Or.inr (Or.inl rfl) | exact Or.inr (Or.inr rfl)) (by decide) (by decide)) (@pe_callB _ _ _ _ _ _ _ _ _ call_len_seq (by rfl) T.len PySem.boot_len (@pa_cons _ _ _ _ _ (@pv _ 0 _ _ (by rfl) (by first | exact Or.inl rfl | exact Or.inr (Or.inl rfl) | exact Or.inr (Or.inr rfl)) (by decide) (by decide)) (@pa_nil _) (by rfl)) (by decide) (by decide) (by rfl) (by rfl)) (nomark _)) (@pss_one _ _ _ (@ps_set _ _ 3 _ _ _ _ scDraws.nd rfl (Or.inl rfl) (@pe_op _ _ _ _ _ _ _ _ op_mod (@pe_ix _ _ _ _ _ _ _ ix_list (@pv _ 0 _ _ (by rfl) (by first | exact Or.inl rfl | exact Or.inr (Or.inl rfl) | exact Or.inr (Or.inr rfl)) (by decide) (by decide)) (@pv _ 1 _ _ (by rfl) (by first | exact Or.inl rfl | exact Or.inr (Or.inl rfl) | exact Or.inr (Or.inr rfl)) (by decide) (by decide)) (fun _ _ => rfl)) (@pe_op _ _ _ _ _ _ _ _ op_mulX (@pe_op _ _ _ _ _ _ _ _ op_pow (@pe_int _ _ _ _) (@pe_int _ _ _ _)) (@pe_op _ _ _ _ _ _ _ _ op_pow (@pe_int _ _ _ _) (@pe_int _ _ _ _)))) (by rfl) (by first | exact .inl rfl | exact .inr rfl | assumption))) (@pss_one _ _ _ (@ps_if _ _ _ _ _ _ _ _ (@pt_cmpR _ _ _ _ _ _ _ _ op_gt (@pe_callB _ _ _ _ _ _ _ _ _ call_len_seq (by rfl) T.len PySem.boot_len (@pa_cons _ _ _ _ _ (@pv _ 0 _ _ (by rfl) (by first | exact Or.inl rfl | exact Or.inr (Or.inl rfl) | exact Or.inr (Or.inr rfl)) (by decide) (by decide)) (@pa_nil _) (by rfl)) (by decide) (by decide) (by rfl) (by rfl)) (@pe_int _ _ _ _) (nomark _)) (@pss_one _ _ _ (@ps_set _ _ 3 _ _ _ _ scDraws.nd rfl (Or.inl rfl) (@pe_op _ _ _ _ _ _ _ _ op_add (@pe_op _ _ _ _ _ _ _ _ op_mod (@pe_ix _ _ _ _ _ _ _ ix_list (@pv _ 0 _ _ (by rfl) (by first | exact Or.inl rfl | exact Or.inr (Or.inl rfl) | exact Or.inr (Or.inr rfl)) (by decide) (by decide)) (@pe_op _ _ _ _ _ _ _ _ op_mod (@pv _ 1 _ _ (by rfl) (by first | exact Or.inl rfl | exact Or.inr (Or.inl rfl) | exact Or.inr (Or.inr rfl)) (by decide) (by decide)) (@pe_callB _ _ _ _ _ _ _ _ _ call_len_seq (by rfl) T.len PySem.boot_len (@pa_cons _ _ _ _ _ (@pv _ 0 _ _ (by rfl) (by first | exact Or.inl rfl | exact Or.inr (Or.inl rfl) | exact Or.inr (Or.inr rfl)) (by decide) (by decide)) (@pa_nil _) (by rfl)) (by decide) (by decide) (by rfl) (by rfl))) (fun _ _ => rfl)) (@pe_op _ _ _ _ _ _ _ _ op_pow (@pe_int _ _ _ _) (@pe_int _ _ _ _))) (@pe_op _ _ _ _ _ _ _ _ op_mul (@pe_int _ _ _ _) (@pv _ 1 _ _ (by rfl) (by first | exact Or.inl rfl | exact Or.inr (Or.inl rfl) | exact Or.inr (Or.inr rfl)) (by decide) (by decide)))) (by rfl) (by first | exact .inl rfl | exact .inr rfl | assumption))) (@pss_nil _))))) (@pss_cons _ _ _ _ _ (@ps_cut _ _ _ (@ps_set _ _ 4 _ _ _ _ scDraws.nd rfl (Or.inl rfl) (@pe_op _ _ _ _ _ _ _ _ op_mod (@pe_op _ _ _ _ _ _ _ _ op_mul (@pe_op _ _ _ _ _ _ _ _ op_add (@pe_op _ _ _ _ _ _ _ _ op_add (@pe_op _ _ _ _ _ _ _ _ op_mod (@pv _ 3 _ _ (by rfl) (by first | exact Or.inl rfl | exact Or.inr (Or.inl rfl) | exact Or.inr (Or.inr rfl)) (by decide) (by decide)) (@pe_int _ _ _ _)) (@pe_op _ _ _ _ _ _ _ _ op_mul (@pe_int _ _ _ _) (@pv _ 1 _ _ (by rfl) (by first | exact Or.inl rfl | exact Or.inr (Or.inl rfl) | exact Or.inr (Or.inr rfl)) (by decide) (by decide)))) (@pe_int _ _ _ _)) (@pe_op _ _ _ _ _ _ _ _ op_add (@pe_int _ _ _ _) (@pe_op _ _ _ _ _ _ _ _ op_mul (@pe_op _ _ _ _ _ _ _ _ op_mul (@pe_int _ _ _ _) (@pv _ 1 _ _ (by rfl) (by first | exact Or.inl rfl | exact Or.inr (Or.inl rfl) | exact Or.inr (Or.inr rfl)) (by decide) (by decide))) (@pv _ 1 _ _ (by rfl) (by first | exact Or.inl rfl | exact Or.inr (Or.inl rfl) | exact Or.inr (Or.inr rfl)) (by decide) (by decide))))) (@pe_int _ _ _ _)) (by rfl) (by first | exact .inl rfl | exact .inr rfl | assumption))) (@pss_cons _ _ _ _ _ (@ps_set _ _ 4 _ _ _ _ scDraws.nd rfl (Or.inl rfl) (@pe_op _ _ _ _ _ _ _ _ op_add (@pe_op _ _ _ _ _ _ _ _ op_add (@pe_op _ _ _ _ _ _ _ _ op_mod (@pe_op _ _ _ _ _ _ _ _ op_mul (@pe_op _ _ _ _ _ _ _ _ op_mul (@pv _ 4 _ _ (by rfl) (by first | exact Or.inl rfl | exact Or.inr (Or.inl rfl) | exact Or.inr (Or.inr rfl)) (by decide) (by decide)) (@pv _ 4 _ _ (by rfl) (by first | exact Or.inl rfl | exact Or.inr (Or.inl rfl) | exact Or.inr (Or.inr rfl)) (by decide) (by decide))) (@pv _ 4 _ _ (by rfl) (by first | exact Or.inl rfl | exact Or.inr (Or.inl rfl) | exact Or.inr (Or.inr rfl)) (by decide) (by decide))) (@pe_int _ _ _ _)) (@pv _ 1 _ _ (by rfl) (by first | exact Or.inl rfl | exact Or.inr (Or.inl rfl) | exact Or.inr (Or.inr rfl)) (by decide) (by decide))) (@pe_int _ _ _ _)) (by rfl) (by first | exact .inl rfl | exact .inr rfl | assumption)) (@pss_one _ _ _ (@ps_ret _ _ _ _ (@pe_lst _ _ _ _ (@pa_cons _ _ _ _ _ (@pe_op _ _ _ _ _ _ _ _ op_mul (@pv _ 3 _ _ (by rfl) (by first | exact Or.inl rfl | exact Or.inr (Or.inl rfl) | exact Or.inr (Or.inr rfl)) (by decide) (by decide)) (@pe_callTy _ _ _ _ _ _ _ _ _ call_int1 (by rfl) T.int (by decide +kernel) (@pa_cons _ _ _ _ _ (@pe_cmpR _ _ _ _ _ _ _ _ op_ge (@pv _ 3 _ _ (by rfl) (by first | exact Or.inl rfl | exact Or.inr (Or.inl rfl) | exact Or.inr (Or.inr rfl)) (by decide) (by decide)) (@pe_op _ _ _ _ _ _ _ _ op_pow (@pe_int _ _ _ _) (@pe_int _ _ _ _)) (nomark _)) (@pa_nil _) (by rfl)) (by decide) (by decide) (by rfl) (by rfl))) (@pa_cons _ _ _ _ _ (@pv _ 4 _ _ (by rfl) (by first | exact Or.inl rfl | exact Or.inr (Or.inl rfl) | exact Or.inr (Or.inr rfl)) (by decide) (by decide)) (@pa_cons _ _ _ _ _ (@pe_ix _ _ _ _ _ _ _ ix_tup (@pv _ 2 _ _ (by rfl) (by first | exact Or.inl rfl | exact Or.inr (Or.inl rfl) | exact Or.inr (Or.inr rfl)) (by decide) (by decide)) (@pe_op _ _ _ _ _ _ _ _ op_mod (@pv _ 1 _ _ (by rfl) (by first | exact Or.inl rfl | exact Or.inr (Or.inl rfl) | exact Or.inr (Or.inr rfl)) (by decide) (by decide)) (@pe_int _ _ _ _)) (fun _ _ => rfl)) (@pa_nil _) (by rfl)) (by rfl)) (by rfl)))))))))), ?_⟩
    refine ⟨(by show 8 ≤ sizeLine; decide), fun pt ht => ?_⟩
    have sm : Same H (upd H pt (.tup primes)) := fun b o e => by rw [upd_ne (ne_of_none e ht)]; exact e
    refine ⟨_, rfl, _, _, rfl, rfl, .inl ⟨by decide, by decide⟩, _, _, rfl, rfl, ?_⟩
    refine ⟨fun σ' H' => ∃ c : Int, 0 ≤ c ∧ σ' = [some (.ref a), some (.int j), some (.ref pt), some (.int c), none] ∧ H' = upd H pt (.tup primes), ?_, ?_⟩
    rotate_left
    · rintro σ' H' ⟨c, c0, rfl, rfl⟩
      have e1 : 0 ≤ c % 2147483423 := Int.emod_nonneg _ (by decide)
      have e2 : c % 2147483423 < 2147483423 := Int.emod_lt_of_pos _ (by decide)
      refine ⟨fun σ' H' => ∃ sd : Int, 0 ≤ sd ∧ sd < 2147483423 ∧ σ' = [some (.ref a), some (.int j), some (.ref pt), some (.int c), some (.int sd)] ∧ H' = upd H pt (.tup primes), ?_, ?_⟩
      · refine ⟨_, rfl, _, _, rfl, rfl, (by show (0 : Int) < 2147483423; decide), _, rfl, _, _, rfl, rfl, .inl ⟨by decide, by decide⟩, _, _, rfl, rfl, _, _, rfl, rfl, _, rfl, _, _, rfl, rfl, .inl ⟨by decide, by decide⟩, _, rfl, _, _, rfl, rfl,
        .inl ⟨by show -(2 ^ 64) < 2 * j; omega, by show 2 * j < 2 ^ 64; omega⟩, _, _, rfl, rfl, _, _, rfl, rfl, .inl ⟨by show -(2 ^ 64) < c % 2147483423 + 3 * j + 1; omega, by show c % 2147483423 + 3 * j + 1 < 2 ^ 64; omega⟩, _, _, rfl, rfl, (by show (0 : Int) < 2147483423; decide), ?_⟩
        exact ⟨_, Int.emod_nonneg _ (by decide), Int.emod_lt_of_pos _ (by decide), rfl, rfl⟩
      rintro σ' H' ⟨sd, f0, f1, rfl, rfl⟩
      have hsq : 0 ≤ sd * sd := Int.mul_nonneg f0 f0
      have hsq2 : sd * sd ≤ 2147483423 * 2147483423 := Int.mul_le_mul (by omega) (by omega) f0 (by decide)
      have g0 : 0 ≤ sd * sd * sd % 2147483399 := Int.emod_nonneg _ (by decide)
      have g1 : sd * sd * sd % 2147483399 < 2147483399 := Int.emod_lt_of_pos _ (by decide)
      refine ⟨_, rfl, _, rfl, _, _, rfl, rfl, .inl ⟨by show -(2 ^ 64) < sd; omega, by show sd < 2 ^ 64; omega⟩, _, rfl, _, _, rfl, rfl, .inl ⟨by show -(2 ^ 64) < sd * sd; omega, by show sd * sd < 2 ^ 64; omega⟩, _, _, rfl, rfl, (by show (0 : Int) < 2147483399; decide), _, rfl, _, _, rfl, rfl, _, _, rfl, rfl, ?_⟩
      refine ⟨_, rfl, _, rfl, _, _, rfl, rfl, ⟨by decide, by decide, by decide⟩, _, _, rfl, rfl, .inr ⟨_, rfl, ?_⟩⟩
      obtain ⟨pc, hpc, pc0, pc1⟩ := primes_at (z := j % 8) (Int.emod_nonneg _ (by decide)) (Int.emod_lt_of_pos _ (by decide))
      have hb : ∃ z : Int, (if decide ((10 : Int) ^ (18 : Int).toNat ≤ c) = true then (1 : Int) else 0) = z ∧ 0 ≤ z ∧ z ≤ 1 := by
        by_cases h : decide ((10 : Int) ^ (18 : Int).toNat ≤ c) = true
        · rw [if_pos h]; exact ⟨_, rfl, by decide, by decide⟩
        · rw [if_neg h]; exact ⟨_, rfl, by decide, by decide⟩
      obtain ⟨z, hz, z0, z1⟩ := hb
      rw [hz]
      refine ⟨_, _, rfl, rfl, .inr ⟨by omega, by omega⟩, _, rfl, _, rfl, _, rfl, _, _, rfl, rfl, (by show (0 : Int) < 8; decide), pt, _, _, _, rfl, rfl, SqT.of upd_same, hpc, (by show 3 ≤ sizeLine; decide), fun L hL => ?_⟩
      refine k L _ ?_ ⟨_, _, _, upd_same, Int.mul_nonneg c0 z0, by omega, by omega, pc0, pc1⟩ fun b o e => ?_
      · exact sm.free hL
      · rw [upd_ne (ne_of_none (sm b o e) hL)]
        exact sm b o e
    refine ⟨_, rfl, _, rfl, a, _, rfl, .inl (sm.seq hS), _, _, rfl, rfl, _, rfl, ?_⟩
    refine ite2 (fun hlt => ?_) (fun hge => ?_)
    · have hlt' : j < (ns.length : Int) := by
        have := of_decide_eq_true hlt
        rw [List.length_map] at this
        exact this
      obtain ⟨y, hy⟩ := int_at j0 hlt'
      refine ⟨_, rfl, _, rfl, a, _, _, _, rfl, rfl, sm.seq hS, hy, _, _, rfl, rfl, ⟨by decide, by decide, by decide⟩, _, _, rfl, rfl, ⟨by decide, by decide, by decide⟩, _, _, rfl, rfl, big_ok, _, _, rfl, rfl, big_pos, ?_⟩
      exact ⟨_, Int.emod_nonneg _ (Int.ne_of_gt big_pos), rfl, rfl⟩
    · refine ⟨_, rfl, a, _, rfl, .inl (sm.seq hS), _, _, rfl, rfl, _, rfl, ?_⟩
      rw [List.length_map]
      refine ite2 (fun hp => ?_) (fun _ => ?_)
      · have hp' : 0 < (ns.length : Int) := of_decide_eq_true hp
        obtain ⟨y, hy⟩ := int_at (ns := ns) (z := j % (ns.length : Int)) (Int.emod_nonneg _ (by omega)) (Int.emod_lt_of_pos _ hp')
        refine ⟨_, rfl, _, rfl, _, rfl, a, _, rfl, .inl (sm.seq hS), _, _, rfl, rfl, (by rw [List.length_map]; exact hp'), a, _, _, _, rfl, rfl, sm.seq hS, (by rw [List.length_map]; exact hy), _, _, rfl, rfl, ⟨by decide, by decide, by decide⟩, _, _, rfl, rfl, p15, _, rfl, _, _, rfl, rfl, .inl ⟨by decide, by decide⟩, _, _, rfl, rfl, ?_⟩
        refine ⟨_, ?_, rfl, rfl⟩
        have := Int.emod_nonneg y (Int.ne_of_gt p15)
        omega
      · exact ⟨_, by omega, rfl, rfl⟩
theorem cal_draws (D : Def K mg "_law_draws" sDraws psDraws) (T : Txt mg) : Cal P w K mg base CX0 1 "_law_draws" psDraws (spDraws K) := cal_mk D fun f fd F => ok_draws F T
end
end W

set_option Elab.async false
set_option linter.all false
set_option maxRecDepth 100000
set_option maxHeartbeats 4000000
namespace W
open PySem L2 WM
abbrev sLetters : Stmt := top 30
abbrev psLetters : List Str := ["draws", "many", "kinds"]
theorem scLetters : FnScope ["draws", "many", "kinds", "letters", "first", "k"] ["draws", "many", "kinds"] (defScope sLetters) := ⟨rfl, rfl, rfl, by decide +kernel, rfl, by decide +kernel, by decide +kernel⟩
section
variable {P : Program} {w : World} {K : PySem.W.Frag} {mg : Str → Option Value} {base : Heap}
theorem ok_letters {f f1 : Addr} {fd fd1 : FuncData} (F : Fun K "_law_letters" "_law_letters" sLetters f fd) (T : Txt mg) (F1 : Fun K "_law_draw" "_law_draw" sDraw f1 fd1) (b1 : Binds K fd1 ["draws", "many"] []) (m1 : mg "_law_draw" = some (.ref f1)) :
    FnOk P w K mg base CX0 2 f fd ["draws", "many", "kinds"] spLetters := by
  refine F.ok scLetters (fun vs H Q E h => ?_) (fun cdv A outer s H vs Q E hr h => ?_)
  · obtain ⟨p, m, kd, rfl, _⟩ := h
    rfl
  · obtain ⟨p, m, kd, rfl, D, m0, m100, k1, k26, k⟩ := h
    have G1 : FnOk P w K mg base CX0 1 f1 fd1 ["draws", "many"] spDraw := ok_draw F1
    refine ⟨_, (@pss_cons _ _ _ _ _ (@ps_set _ _ 3 _ _ _ _ scLetters.nd rfl (Or.inr rfl) (@pe_str _ _ _ _) (by rfl) (by first | exact .inl rfl | exact .inr rfl | assumption)) (@pss_cons _ _ _ _ _ (@ps_set _ _ 4 _ _ _ _ scLetters.nd rfl (Or.inr rfl) (@pe_call _ _ _ _ _ _ _ _ _ _ _ _ _ _ _ _ G1 hr (by rfl) m1 F1.kp b1 .nil pass0 (@pa_cons _ _ _ _ _ (@pv _ 0 _ _ (by rfl) (by first | exact Or.inl rfl | exact Or.inr (Or.inl rfl) | exact Or.inr (Or.inr rfl)) (by decide) (by decide)) (@pa_cons _ _ _ _ _ (@pe_op _ _ _ _ _ _ _ _ op_sub (@pe_int _ _ _ _) (@pv _ 2 _ _ (by rfl) (by first | exact Or.inl rfl | exact Or.inr (Or.inl rfl) | exact Or.inr (Or.inr rfl)) (by decide) (by decide))) (@pa_nil _) (by rfl)) (by rfl)) (by decide) (by rfl) (by rfl)) (by rfl) (by first | exact .inl rfl | exact .inr rfl | assumption)) (@pss_one _ _ _ (@ps_ret _ _ _ _ (@pe_join _ _ _ _ _ _ _ (@pe_str _ _ _ _) (@pe_lc _ _ _ _ _ _ [("k", 5)] _ _ (gName 5) _ _ (by rfl) scLetters.nd (@pi_range1 _ _ _ _ _ _ (by rfl) T.range (@pa_cons _ _ _ _ _ (@pv _ 1 _ _ (by rfl) (by first | exact Or.inl rfl | exact Or.inr (Or.inl rfl) | exact Or.inr (Or.inr rfl)) (by decide) (by decide)) (@pa_nil _) (by rfl)) (by rfl)) (blkOk_by (own := [("k", 5)]) (N := ["draws", "many", "kinds", "letters", "first", "k"]) (sc := defScope sLetters) (by decide +kernel)) (fun _ _ _ _ _ => (@pg_name _ _ 5 _ scLetters.nd rfl (Or.inl rfl) (by first | exact .inl rfl | exact .inr rfl | assumption))) (fun _ _ _ _ _ => (@pts_nil _)) (fun _ _ _ _ _ => (@pe_ix _ _ _ _ _ _ _ ix_str (@pv _ 3 _ _ (by rfl) (by first | exact Or.inl rfl | exact Or.inr (Or.inl rfl) | exact Or.inr (Or.inr rfl)) (by decide) (by decide)) (@pe_op _ _ _ _ _ _ _ _ op_add (@pv _ 4 _ _ (by rfl) (by first | exact Or.inl rfl | exact Or.inr (Or.inl rfl) | exact Or.inr (Or.inr rfl)) (by decide) (by decide)) (@pe_call _ _ _ _ _ _ _ _ _ _ _ _ _ _ _ _ G1 hr (by rfl) m1 F1.kp b1 .nil pass0 (@pa_cons _ _ _ _ _ (@pv _ 0 _ _ (by rfl) (by first | exact Or.inl rfl | exact Or.inr (Or.inl rfl) | exact Or.inr (Or.inr rfl)) (by decide) (by decide)) (@pa_cons _ _ _ _ _ (@pv _ 2 _ _ (by rfl) (by first | exact Or.inl rfl | exact Or.inr (Or.inl rfl) | exact Or.inr (Or.inr rfl)) (by decide) (by decide)) (@pa_nil _) (by rfl)) (by rfl)) (by decide) (by rfl) (by rfl))) (fun _ _ => rfl))) (by intro _ ; rfl)) (by rfl) (by rfl) (by rfl)))))), ?_⟩
    refine ⟨_, rfl, _, rfl, _, _, rfl, rfl, p, _, rfl, D, by omega, by omega, fun r H1 r0 r1 D1 B1 => ?_⟩
    refine ⟨⟨_, rfl⟩, _, rfl, m, rfl, by omega, by omega, fun L hL => lc_range (lo := 0) (n := m.toNat) (fun i H2 => DrAt H2 p ∧ But p H H2 ∧ ∃ l : List Nat, l.length = i ∧ Low l ∧ H2 L = some (.lst (l.map fun c => V.str (txt [c])))) ?_ ?_ ?_⟩
    · refine ⟨D1.new hL, B1.trans (But.new hL), [], rfl, (fun c h => by cases h), upd_same⟩
    · rintro i H2 hi ⟨D2, B2, l, hl, low, hL2⟩
      refine ⟨rfl, ?_⟩
      dsimp only [tYes]
      rw [if_pos rfl]
      have hLp : L ≠ p := D1.ne hL
      refine ⟨_, rfl, _, rfl, _, rfl, _, rfl, p, _, rfl, D2, by omega, by omega, fun r2 H3 q0 q1 D3 B3 => ?_⟩
      refine ⟨_, _, rfl, rfl, _, _, _, rfl, rfl, (by show 26 ≤ sizeLine; decide), abc_get (z := r + r2) (by omega) (by omega), ?_⟩
      refine ⟨_, B3 _ _ hL2 hLp, ?_, ?_⟩
      · rw [List.length_map]; exact small1000 (by omega)
      · refine ⟨?_, ?_, l ++ [97 + (r + r2).toNat], ?_, ?_, ?_⟩
        · obtain ⟨a, b, c, e, dd⟩ := D3
          exact ⟨a, b, c, by rw [upd_ne hLp.symm]; exact e, dd⟩
        · intro q o e n
          by_cases hq : q = L
          · subst hq
            exact absurd (B1 _ _ e n) (by rw [hL]; intro z; cases z)
          · rw [upd_ne hq]
            exact B3 q o (B2 q o e n) n
        · rw [List.length_append, hl]; rfl
        · intro c hc
          rcases List.mem_append.mp hc with hc | hc
          · exact low c hc
          · have := List.mem_singleton.mp hc
            omega
        · rw [upd_same, List.map_append]; rfl
    · rintro H2 ⟨D2, B2, l, hl, low, hL2⟩
      refine ⟨_, L, l.map (fun c => txt [c]), rfl, rfl, .inl ?_, ?_, ?_⟩
      · rw [List.map_map]; exact SqL.of hL2
      · rw [List.map_map, List.length_map]
        have : ∀ l : List Nat, (l.map ((fun x : Str => x.length) ∘ fun c => txt [c])).sum = l.length := by
          intro l
          induction l with
          | nil => rfl
          | cons a r ih =>
            rw [List.map_cons, List.sum_cons, ih]
            show (txt [a]).length + _ = _
            rw [txt_length]
            show 1 + r.length = r.length + 1
            omega
        rw [this]
        show _ + _ * 0 ≤ _
        omega
      · show Q (.str (Txt.join (txt []) _)) H2
        rw [join_signs]
        exact k l H2 hl low D2 B2
theorem cal_letters (D : Def K mg "_law_letters" sLetters psLetters) (T : Txt mg) (D1 : Def K mg "_law_draw" sDraw psDraw) : Cal P w K mg base CX0 2 "_law_letters" psLetters spLetters := by
  obtain ⟨f1, fd1, F1, m1, b1⟩ := D1
  exact cal_mk D fun f fd F => ok_letters F T F1 b1 m1
end
end W

set_option Elab.async false
set_option linter.all false
set_option maxRecDepth 100000
set_option maxHeartbeats 4000000
namespace W
open PySem L2 WM
abbrev sBent : Stmt := top 28
abbrev psBent : List Str := ["text", "draws"]
theorem scBent : FnScope ["text", "draws", "signs", "way", "sign", "at"] ["text", "draws"] (defScope sBent) := ⟨rfl, rfl, rfl, by decide +kernel, rfl, by decide +kernel, by decide +kernel⟩
section
variable {P : Program} {w : World} {K : PySem.W.Frag} {mg : Str → Option Value} {base : Heap}
def spBentL : Sp := fun vs H Q _ => ∃ (l : List Nat) (p : Addr), vs = [.str (txt l), .ref p] ∧ Cp l ∧ l.length ≤ 20000 ∧ DrAt H p ∧ ∀ (m : List Nat) (H' : Hp), Cp m → m.length ≤ l.length + 1 → DrAt H' p → But p H H' → Q (.str (txt m)) H'
theorem ok_bent {f f1 : Addr} {fd fd1 : FuncData} (F : Fun K "_law_bent" "_law_bent" sBent f fd) (T : Txt mg) (F1 : Fun K "_law_draw" "_law_draw" sDraw f1 fd1) (b1 : Binds K fd1 ["draws", "many"] []) (m1 : mg "_law_draw" = some (.ref f1)) : FnOk P w K mg base CX0 2 f fd ["text", "draws"] spBentL := by
  have G1 : FnOk P w K mg base CX0 1 f1 fd1 ["draws", "many"] spDraw := ok_draw F1
  refine F.ok scBent (fun vs H Q E h => ?_) (fun cdv A outer s H vs Q E hr h => ?_)
  · obtain ⟨l, p, rfl, _⟩ := h
    rfl
  · obtain ⟨l, p, rfl, hcp, hl, D, k⟩ := h
    refine ⟨_, (@pss_cons _ _ _ _ _ (@ps_set _ _ 2 _ _ _ _ scBent.nd rfl (Or.inl rfl) (@pe_str _ _ _ _) (by rfl) (by first | exact .inl rfl | exact .inr rfl | assumption)) (@pss_cons _ _ _ _ _ (@ps_set _ _ 2 _ _ _ _ scBent.nd rfl (Or.inl rfl) (@pe_op _ _ _ _ _ _ _ _ op_add_str (@pv _ 2 _ _ (by rfl) (by first | exact Or.inl rfl | exact Or.inr (Or.inl rfl) | exact Or.inr (Or.inr rfl)) (by decide) (by decide)) (@pe_str _ _ _ _)) (by rfl) (by first | exact .inl rfl | exact .inr rfl | assumption)) (@pss_cons _ _ _ _ _ (@ps_set _ _ 3 _ _ _ _ scBent.nd rfl (Or.inl rfl) (@pe_call _ _ _ _ _ _ _ _ _ _ _ _ _ _ _ _ G1 hr (by rfl) m1 F1.kp b1 .nil pass0 (@pa_cons _ _ _ _ _ (@pv _ 1 _ _ (by rfl) (by first | exact Or.inl rfl | exact Or.inr (Or.inl rfl) | exact Or.inr (Or.inr rfl)) (by decide) (by decide)) (@pa_cons _ _ _ _ _ (@pe_int _ _ _ _) (@pa_nil _) (by rfl)) (by rfl)) (by decide) (by rfl) (by rfl)) (by rfl) (by first | exact .inl rfl | exact .inr rfl | assumption)) (@pss_cons _ _ _ _ _ (@ps_set _ _ 4 _ _ _ _ scBent.nd rfl (Or.inl rfl) (@pe_ix _ _ _ _ _ _ _ ix_list (@pe_lst _ _ _ _ (@pa_cons _ _ _ _ _ (@pe_ix _ _ _ _ _ _ _ ix_str (@pv _ 2 _ _ (by rfl) (by first | exact Or.inl rfl | exact Or.inr (Or.inl rfl) | exact Or.inr (Or.inr rfl)) (by decide) (by decide)) (@pe_call _ _ _ _ _ _ _ _ _ _ _ _ _ _ _ _ G1 hr (by rfl) m1 F1.kp b1 .nil pass0 (@pa_cons _ _ _ _ _ (@pv _ 1 _ _ (by rfl) (by first | exact Or.inl rfl | exact Or.inr (Or.inl rfl) | exact Or.inr (Or.inr rfl)) (by decide) (by decide)) (@pa_cons _ _ _ _ _ (@pe_callB _ _ _ _ _ _ _ _ _ call_len_str (by rfl) T.len PySem.boot_len (@pa_cons _ _ _ _ _ (@pv _ 2 _ _ (by rfl) (by first | exact Or.inl rfl | exact Or.inr (Or.inl rfl) | exact Or.inr (Or.inr rfl)) (by decide) (by decide)) (@pa_nil _) (by rfl)) (by decide) (by decide) (by rfl) (by rfl)) (@pa_nil _) (by rfl)) (by rfl)) (by decide) (by rfl) (by rfl)) (fun _ _ => rfl)) (@pa_cons _ _ _ _ _ (@pe_ix _ _ _ _ _ _ _ ix_str (@pe_str _ _ _ _) (@pe_call _ _ _ _ _ _ _ _ _ _ _ _ _ _ _ _ G1 hr (by rfl) m1 F1.kp b1 .nil pass0 (@pa_cons _ _ _ _ _ (@pv _ 1 _ _ (by rfl) (by first | exact Or.inl rfl | exact Or.inr (Or.inl rfl) | exact Or.inr (Or.inr rfl)) (by decide) (by decide)) (@pa_cons _ _ _ _ _ (@pe_int _ _ _ _) (@pa_nil _) (by rfl)) (by rfl)) (by decide) (by rfl) (by rfl)) (fun _ _ => rfl)) (@pa_nil _) (by rfl)) (by rfl))) (@pe_call _ _ _ _ _ _ _ _ _ _ _ _ _ _ _ _ G1 hr (by rfl) m1 F1.kp b1 .nil pass0 (@pa_cons _ _ _ _ _ (@pv _ 1 _ _ (by rfl) (by first | exact Or.inl rfl | exact Or.inr (Or.inl rfl) | exact Or.inr (Or.inr rfl)) (by decide) (by decide)) (@pa_cons _ _ _ _ _ (@pe_int _ _ _ _) (@pa_nil _) (by rfl)) (by rfl)) (by decide) (by rfl) (by rfl)) (fun _ _ => rfl)) (by rfl) (by first | exact .inl rfl | exact .inr rfl | assumption)) (@pss_cons _ _ _ _ _ (@ps_set _ _ 5 _ _ _ _ scBent.nd rfl (Or.inl rfl) (@pe_call _ _ _ _ _ _ _ _ _ _ _ _ _ _ _ _ G1 hr (by rfl) m1 F1.kp b1 .nil pass0 (@pa_cons _ _ _ _ _ (@pv _ 1 _ _ (by rfl) (by first | exact Or.inl rfl | exact Or.inr (Or.inl rfl) | exact Or.inr (Or.inr rfl)) (by decide) (by decide)) (@pa_cons _ _ _ _ _ (@pe_op _ _ _ _ _ _ _ _ op_add (@pe_callB _ _ _ _ _ _ _ _ _ call_len_str (by rfl) T.len PySem.boot_len (@pa_cons _ _ _ _ _ (@pv _ 0 _ _ (by rfl) (by first | exact Or.inl rfl | exact Or.inr (Or.inl rfl) | exact Or.inr (Or.inr rfl)) (by decide) (by decide)) (@pa_nil _) (by rfl)) (by decide) (by decide) (by rfl) (by rfl)) (@pe_int _ _ _ _)) (@pa_nil _) (by rfl)) (by rfl)) (by decide) (by rfl) (by rfl)) (by rfl) (by first | exact .inl rfl | exact .inr rfl | assumption)) (@pss_cons _ _ _ _ _ (@ps_if _ _ _ _ _ _ _ _ (@pt_cmpR _ _ _ _ _ _ _ _ op_lt (@pv _ 3 _ _ (by rfl) (by first | exact Or.inl rfl | exact Or.inr (Or.inl rfl) | exact Or.inr (Or.inr rfl)) (by decide) (by decide)) (@pe_int _ _ _ _) (nomark _)) (@pss_one _ _ _ (@ps_ret _ _ _ _ (@pe_op _ _ _ _ _ _ _ _ op_add_str (@pe_op _ _ _ _ _ _ _ _ op_add_str (@pe_slice _ _ _ _ _ _ _ _ _ _ sl_str (@pv _ 0 _ _ (by rfl) (by first | exact Or.inl rfl | exact Or.inr (Or.inl rfl) | exact Or.inr (Or.inr rfl)) (by decide) (by decide)) (@po_none _) (@po_some _ _ _ (@pv _ 5 _ _ (by rfl) (by first | exact Or.inl rfl | exact Or.inr (Or.inl rfl) | exact Or.inr (Or.inr rfl)) (by decide) (by decide)))) (@pv _ 4 _ _ (by rfl) (by first | exact Or.inl rfl | exact Or.inr (Or.inl rfl) | exact Or.inr (Or.inr rfl)) (by decide) (by decide))) (@pe_slice _ _ _ _ _ _ _ _ _ _ sl_str (@pv _ 0 _ _ (by rfl) (by first | exact Or.inl rfl | exact Or.inr (Or.inl rfl) | exact Or.inr (Or.inr rfl)) (by decide) (by decide)) (@po_some _ _ _ (@pe_op _ _ _ _ _ _ _ _ op_add (@pv _ 5 _ _ (by rfl) (by first | exact Or.inl rfl | exact Or.inr (Or.inl rfl) | exact Or.inr (Or.inr rfl)) (by decide) (by decide)) (@pv _ 3 _ _ (by rfl) (by first | exact Or.inl rfl | exact Or.inr (Or.inl rfl) | exact Or.inr (Or.inr rfl)) (by decide) (by decide)))) (@po_none _))))) (@pss_nil _)) (@pss_cons _ _ _ _ _ (@ps_if _ _ _ _ _ _ _ _ (@pt_cmpR _ _ _ _ _ _ _ _ op_eq (@pv _ 3 _ _ (by rfl) (by first | exact Or.inl rfl | exact Or.inr (Or.inl rfl) | exact Or.inr (Or.inr rfl)) (by decide) (by decide)) (@pe_int _ _ _ _) (nomark _)) (@pss_one _ _ _ (@ps_ret _ _ _ _ (@pe_op _ _ _ _ _ _ _ _ op_add_str (@pe_slice _ _ _ _ _ _ _ _ _ _ sl_str (@pv _ 0 _ _ (by rfl) (by first | exact Or.inl rfl | exact Or.inr (Or.inl rfl) | exact Or.inr (Or.inr rfl)) (by decide) (by decide)) (@po_none _) (@po_some _ _ _ (@pv _ 5 _ _ (by rfl) (by first | exact Or.inl rfl | exact Or.inr (Or.inl rfl) | exact Or.inr (Or.inr rfl)) (by decide) (by decide)))) (@pe_slice _ _ _ _ _ _ _ _ _ _ sl_str (@pv _ 0 _ _ (by rfl) (by first | exact Or.inl rfl | exact Or.inr (Or.inl rfl) | exact Or.inr (Or.inr rfl)) (by decide) (by decide)) (@po_some _ _ _ (@pe_op _ _ _ _ _ _ _ _ op_add (@pv _ 5 _ _ (by rfl) (by first | exact Or.inl rfl | exact Or.inr (Or.inl rfl) | exact Or.inr (Or.inr rfl)) (by decide) (by decide)) (@pe_int _ _ _ _))) (@po_none _))))) (@pss_nil _)) (@pss_one _ _ _ (@ps_ret _ _ _ _ (@pe_op _ _ _ _ _ _ _ _ op_add_str (@pe_slice _ _ _ _ _ _ _ _ _ _ sl_str (@pv _ 0 _ _ (by rfl) (by first | exact Or.inl rfl | exact Or.inr (Or.inl rfl) | exact Or.inr (Or.inr rfl)) (by decide) (by decide)) (@po_none _) (@po_some _ _ _ (@pe_op _ _ _ _ _ _ _ _ op_add (@pv _ 5 _ _ (by rfl) (by first | exact Or.inl rfl | exact Or.inr (Or.inl rfl) | exact Or.inr (Or.inr rfl)) (by decide) (by decide)) (@pe_int _ _ _ _)))) (@pe_slice _ _ _ _ _ _ _ _ _ _ sl_str (@pv _ 0 _ _ (by rfl) (by first | exact Or.inl rfl | exact Or.inr (Or.inl rfl) | exact Or.inr (Or.inr rfl)) (by decide) (by decide)) (@po_some _ _ _ (@pv _ 5 _ _ (by rfl) (by first | exact Or.inl rfl | exact Or.inr (Or.inl rfl) | exact Or.inr (Or.inr rfl)) (by decide) (by decide))) (@po_none _)))))))))))), ?_⟩
    have hz : (txt l).length ≤ sizeLine := by rw [txt_length]; exact Nat.le_of_lt (small_ok (by omega))
    have h95 : (sgA ++ sgB).length ≤ sizeLine := by rw [sg_len]; exact Nat.le_of_lt (small_ok (by omega))
    refine ⟨_, rfl, _, _, rfl, rfl, (by show 32 + 63 ≤ sizeLine; decide), ?_⟩
    refine ⟨_, rfl, p, _, rfl, D, by omega, by omega, fun way H1 w0 w1 D1 B1 => ?_⟩
    refine ⟨_, rfl, _, rfl, _, rfl, _, rfl, h95, p, _, rfl, D1, sg_pos, sg_lt, fun x1 H2 x10 x11 D2 B2 => ?_⟩
    have x11' : x1 < ((sgA ++ sgB).cps.toList.length : Int) := by
      have : (sgA ++ sgB).cps.toList.length = (sgA ++ sgB).length := by simp [Str.length]
      rw [this]; exact x11
    obtain ⟨c1, hc1, mc1⟩ := at_some (l := (sgA ++ sgB).cps.toList) x10 x11'
    refine ⟨_, _, c1, rfl, rfl, h95, hc1, ?_⟩
    refine ⟨_, rfl, p, _, rfl, D2, by omega, by omega, fun x2 H3 x20 x21 D3 B3 => ?_⟩
    have l3 : ("- 0" : Str).cps.toList.length = 3 := by decide +kernel
    obtain ⟨c2, hc2, mc2⟩ := at_some (l := ("- 0" : Str).cps.toList) (z := x2) x20 (by rw [l3]; exact x21)
    refine ⟨_, _, c2, rfl, rfl, (by show 3 ≤ sizeLine; decide), hc2, (by show 2 ≤ sizeLine; decide), fun L hL => ?_⟩
    refine ⟨_, rfl, p, _, rfl, D3.new hL, by omega, by omega, fun x3 H4 x30 x31 D4 B4 => ?_⟩
    obtain ⟨v, hv, hv'⟩ := at2 (a := .str ⟨#[c1]⟩) (b := .str ⟨#[c2]⟩) x30 x31
    obtain ⟨c, rfl, hc⟩ : ∃ c : Nat, v = .str (txt [c]) ∧ c < 1114112 := by
      rcases hv' with rfl | rfl
      · exact ⟨c1, rfl, sg_cp c1 mc1⟩
      · have : ∀ c ∈ ("- 0" : Str).cps.toList, c < 1114112 := by decide +kernel
        exact ⟨c2, rfl, this c2 mc2⟩
    refine ⟨L, _, _, _, rfl, rfl, SqL.of (B4 _ _ upd_same (D3.ne hL)), hv, ?_⟩
    have BA : But p H H4 := B1.trans (B2.trans (B3.trans ((But.new hL).trans B4)))
    refine ⟨_, rfl, _, rfl, _, rfl, hz, _, _, rfl, rfl, p, _, rfl, D4, by rw [txt_length]; omega, by rw [txt_length]; omega, fun pt H5 p0 p1 D5 B5 => ?_⟩
    rw [txt_length] at p1
    have hcs : Cp [c] := fun d hd => by rw [List.mem_singleton.mp hd]; exact hc
    refine ⟨_, rfl, _, _, rfl, rfl, _, rfl, ?_⟩
    refine ite2 (fun h2 => ?_) (fun h2 => ?_)
    · have h2' : way < 2 := of_decide_eq_true h2
      refine ⟨_, rfl, _, rfl, _, rfl, _, rfl, hz, ?_⟩
      rw [cut_toA p0]
      refine ⟨_, rfl, _, _, rfl, rfl, ?_, ?_⟩
      · rw [txt_length, txt_length, List.length_take]; exact Nat.le_of_lt (small_ok (by simp; omega))
      rw [txt_app]
      refine ⟨_, rfl, _, rfl, _, rfl, _, _, rfl, rfl, _, rfl, _, rfl, hz, ?_⟩
      rw [cut_fromA (by omega)]
      refine ⟨_, _, rfl, rfl, ?_, ?_⟩
      · rw [txt_length, txt_length, List.length_append, List.length_take, List.length_drop]; exact Nat.le_of_lt (small_ok (by simp; omega))
      rw [txt_app]
      refine k _ H5 (((hcp.take _).app hcs).app (hcp.drop _)) ?_ D5 (BA.trans B5)
      rw [List.length_append, List.length_append, List.length_take, List.length_drop]
      simp
      omega
    refine ⟨_, rfl, rfl, _, rfl, ?_⟩
    refine ite2 (fun _ => ?_) (fun _ => ?_)
    · refine ⟨_, rfl, _, rfl, _, rfl, _, rfl, hz, ?_⟩
      rw [cut_toA p0]
      refine ⟨_, rfl, _, rfl, _, _, rfl, rfl, _, rfl, _, rfl, hz, ?_⟩
      rw [cut_fromA (by omega)]
      refine ⟨_, _, rfl, rfl, ?_, ?_⟩
      · rw [txt_length, txt_length, List.length_take, List.length_drop]; exact Nat.le_of_lt (small_ok (by omega))
      rw [txt_app]
      refine k _ H5 ((hcp.take _).app (hcp.drop _)) ?_ D5 (BA.trans B5)
      rw [List.length_append, List.length_take, List.length_drop]
      omega
    · refine ⟨_, rfl, _, rfl, _, _, rfl, rfl, _, rfl, _, rfl, hz, ?_⟩
      rw [cut_toA (by omega)]
      refine ⟨_, rfl, _, rfl, _, rfl, _, rfl, hz, ?_⟩
      rw [cut_fromA p0]
      refine ⟨_, _, rfl, rfl, ?_, ?_⟩
      · rw [txt_length, txt_length, List.length_take, List.length_drop]; exact Nat.le_of_lt (small_ok (by omega))
      rw [txt_app]
      refine k _ H5 ((hcp.take _).app (hcp.drop _)) ?_ D5 (BA.trans B5)
      rw [List.length_append, List.length_take, List.length_drop]
      omega
theorem cal_bent (D : Def K mg "_law_bent" sBent psBent) (T : Txt mg) (D1 : Def K mg "_law_draw" sDraw psDraw) : Cal P w K mg base CX0 2 "_law_bent" psBent spBentL := by
  obtain ⟨f1, fd1, F1, m1, b1⟩ := D1
  exact cal_mk D fun f fd F => ok_bent F T F1 b1 m1
end
end W

set_option Elab.async false
set_option linter.all false
set_option maxRecDepth 100000
set_option maxHeartbeats 4000000
namespace W
open PySem L2 WM
abbrev sLWhole : Stmt := top 26
abbrev psLWhole : List Str := ["found"]
theorem scLWhole : FnScope ["found"] ["found"] (defScope sLWhole) := ⟨rfl, rfl, rfl, by decide +kernel, rfl, by decide +kernel, by decide +kernel⟩
theorem lLWhole_0 : Loc (defScope sLWhole) "found" := Or.inl (by decide +kernel)
theorem vLWhole_0 : Vis (defScope sLWhole) "found" := Or.inl (by decide +kernel)
section
variable {P : Program} {w : World} {K : PySem.W.Frag} {mg : Str → Option Value} {base : Heap}
theorem kii : PySem.W.kitOne K (.type "int") (.type "int") = some true := rfl
theorem kib : PySem.W.kitOne K (.type "int") (.type "bool") = some false := rfl
def spWhole : Sp := fun vs H Q _ => ∃ n : Int, vs = [.int n] ∧ Q (.bl true) H
theorem cal_lwhole (D : Def K mg "_law_whole" sLWhole psLWhole) (T : Txt mg) : Cal P w K mg base CX0 1 "_law_whole" psLWhole spWhole := cal_mk D fun f fd F => by
  refine F.ok scLWhole (fun vs H Q E h => ?_) (fun cdv A outer s H vs Q E hr h => ?_)
  · obtain ⟨n, rfl, _⟩ := h
    rfl
  · obtain ⟨n, rfl, k⟩ := h
    refine ⟨_, (@pss_one _ _ _ (@ps_ret _ _ _ _ (@pe_and _ _ _ _ _ _ _ (@pe_callB _ _ _ _ _ _ _ _ _ cr_isi (by rfl) T.isi boot_isi (@pa_cN _ _ _ _ _ _ (@pv _ 0 _ _ (by rfl) vLWhole_0 (by decide) (by decide)) (@pa_cN _ _ _ _ _ _ (@pe_bltn _ _ (.ty "int") _ _ (by rfl) T.int (by decide +kernel) rfl (by decide) (by decide)) (@pa_nil _))) (by decide) (by decide) (by rfl) (by rfl)) (@pe_one _ _ _ _ _ (@pe_not _ _ _ _ (@pe_callB _ _ _ _ _ _ _ _ _ cr_isi (by rfl) T.isi boot_isi (@pa_cN _ _ _ _ _ _ (@pv _ 0 _ _ (by rfl) vLWhole_0 (by decide) (by decide)) (@pa_cN _ _ _ _ _ _ (@pe_bltn _ _ (.ty "bool") _ _ (by rfl) T.bool (by decide +kernel) rfl (by decide) (by decide)) (@pa_nil _))) (by decide) (by decide) (by rfl) (by rfl))))))), ?_⟩
    refine ⟨_, rfl, _, _, _, _, _, rfl, TyOf.int _, rfl, kii, _, rfl, iteT ?_⟩
    refine ⟨_, rfl, _, _, _, _, _, rfl, TyOf.int _, rfl, kib, _, rfl, ?_⟩
    exact k
end
end W

set_option Elab.async false
set_option linter.all false
set_option maxRecDepth 100000
set_option maxHeartbeats 4000000
namespace W
open PySem L2 WM

abbrev sLst : Stmt := top 18
abbrev psLst : List Str := ["parts"]
theorem scLst : FnScope ["parts"] ["parts"] (defScope sLst) := ⟨rfl, rfl, rfl, by decide +kernel, rfl, by decide +kernel, by decide +kernel⟩
theorem lLst_0 : Loc (defScope sLst) "parts" := Or.inl (by decide +kernel)
theorem vLst_0 : Vis (defScope sLst) "parts" := Or.inl (by decide +kernel)
abbrev sShT : Stmt := top 19
abbrev psShT : List Str := ["turns"]
theorem scShT : FnScope ["turns", "turn"] ["turns"] (defScope sShT) := ⟨rfl, rfl, rfl, by decide +kernel, rfl, by decide +kernel, by decide +kernel⟩
theorem lShT_0 : Loc (defScope sShT) "turns" := Or.inl (by decide +kernel)
theorem vShT_0 : Vis (defScope sShT) "turns" := Or.inl (by decide +kernel)
abbrev sINu : Stmt := top 20
abbrev psINu : List Str := ["text"]
theorem scINu : FnScope ["text", "figures", "figure"] ["text"] (defScope sINu) := ⟨rfl, rfl, rfl, by decide +kernel, rfl, by decide +kernel, by decide +kernel⟩
theorem lINu_0 : Loc (defScope sINu) "text" := Or.inl (by decide +kernel)
theorem vINu_0 : Vis (defScope sINu) "text" := Or.inl (by decide +kernel)
theorem lINu_1 : Loc (defScope sINu) "figures" := Or.inl (by decide +kernel)
theorem vINu_1 : Vis (defScope sINu) "figures" := Or.inl (by decide +kernel)
abbrev sRdT : Stmt := top 21
abbrev psRdT : List Str := ["text"]
theorem scRdT : FnScope ["text", "numbers", "number"] ["text"] (defScope sRdT) := ⟨rfl, rfl, rfl, by decide +kernel, rfl, by decide +kernel, by decide +kernel⟩
theorem lRdT_0 : Loc (defScope sRdT) "text" := Or.inl (by decide +kernel)
theorem vRdT_0 : Vis (defScope sRdT) "text" := Or.inl (by decide +kernel)
theorem lRdT_1 : Loc (defScope sRdT) "numbers" := Or.inl (by decide +kernel)
theorem vRdT_1 : Vis (defScope sRdT) "numbers" := Or.inl (by decide +kernel)
section
variable {P : Program} {w : World} {K : PySem.W.Frag} {mg : Str → Option Value} {base : Heap}
def spLst (K : PySem.W.Frag) : Sp := fun vs H Q _ => ∃ (a : Addr) (ws : List Str), vs = [.ref a] ∧ SqL K H a (ws.map V.str) ∧ (ws.map (·.length)).sum + ws.length ≤ 1000000 ∧ Q (.str (lstd ws)) H
theorem cal_lst (D : Def K mg "listed" sLst psLst) (T : Txt mg) : Cal P w K mg base CX0 1 "listed" psLst (spLst K) := cal_mk D fun f fd F => by
  refine F.ok scLst (fun vs H Q E h => ?_) (fun cdv A outer s H vs Q E hr h => ?_)
  · obtain ⟨a, ws, rfl, _⟩ := h
    rfl
  · obtain ⟨a, ws, rfl, hS, hz, k⟩ := h
    refine ⟨_, (@pss_cons _ _ _ _ _ (@ps_if _ _ _ _ _ _ _ _ (@pt_not _ _ _ _ (@pt_truth _ _ _ (@pv _ 0 _ _ (by rfl) vLst_0 (by decide) (by decide)) (by intro _; rfl))) (@pss_one _ _ _ (@ps_ret _ _ _ _ (@pe_str _ _ _ _))) (@pss_nil _)) (@pss_one _ _ _ (@ps_ret _ _ _ _ (@pe_join _ _ _ _ _ _ _ (@pe_str _ _ _ _) (@pv _ 0 _ _ (by rfl) vLst_0 (by decide) (by decide)) (by rfl) (by rfl) (by rfl))))), ?_⟩
    refine ⟨_, rfl, _, .inl ⟨_, hS, rfl⟩, ?_⟩
    unfold lstd at k
    by_cases e : ws = []
    · subst e
      refine iteT ?_
      exact k
    · rw [if_neg e] at k
      have e1 : (!(ws.map V.str).isEmpty) = true := by
        cases ws with
        | nil => exact absurd rfl e
        | cons t r => rfl
      rw [e1]
      refine iteF ?_
      refine ⟨⟨_, rfl⟩, _, rfl, _, a, ws, rfl, rfl, .inl hS, ?_, k⟩
      show _ + ws.length * 1 ≤ _
      omega
def spShT (K : PySem.W.Frag) : Sp := fun vs H Q _ => ∃ (a : Addr) (ts : List Int), vs = [.ref a] ∧ SqL K H a (ts.map V.int) ∧ ts.length ≤ 300 ∧ (∀ t ∈ ts, -(10 ^ 9) < t ∧ t < 10 ^ 9) ∧ ∀ H', Same H H' → Q (.str (shT ts)) H'
theorem cal_sht (D : Def K mg "show_turns" sShT psShT) (T : Txt mg) (CLs : Cal P w K mg base CX0 1 "listed" ["parts"] (spLst K)) : Cal P w K mg base CX0 2 "show_turns" psShT (spShT K) := cal_mk D fun f fd F => by
  obtain ⟨fLs, dLs, GLs, kLs, bLs, mLs⟩ := CLs
  refine F.ok scShT (fun vs H Q E h => ?_) (fun cdv A outer s H vs Q E hr h => ?_)
  · obtain ⟨a, ts, rfl, _⟩ := h
    rfl
  · obtain ⟨a, ts, rfl, hS, hl, hb, k⟩ := h
    refine ⟨_, (@pss_one _ _ _ (@ps_ret _ _ _ _ (@pe_call _ _ _ _ _ _ _ _ _ _ _ _ _ _ _ _ GLs (hr.mono (by decide)) (by rfl) mLs kLs bLs .nil pass0 (@pa_cG _ _ _ _ _ _ _ _ (@pe_lc _ _ _ _ _ _ [("turn", 1)] _ _ (gName 1) _ _ (by rfl) scShT.nd (@pi_list _ _ _ _ (@pv _ 0 _ _ (by rfl) vShT_0 (by decide) (by decide))) (blkOk_by (own := [("turn", 1)]) (N := ["turns", "turn"]) (sc := defScope sShT) (by decide +kernel)) (fun _ _ _ _ _ => (@pg_name _ _ 1 _ scShT.nd rfl (Or.inl rfl) (by first | exact .inl rfl | exact .inr rfl | assumption))) (fun _ _ _ _ _ => (@pts_nil _)) (fun _ _ _ _ _ => (@pe_callTy _ _ _ _ _ _ _ _ _ call_str_int (by rfl) T.str (by decide +kernel) (@pa_cN _ _ _ _ _ _ (@pv _ 1 _ _ (by rfl) (by first | exact Or.inl rfl | exact Or.inr (Or.inl rfl) | exact Or.inr (Or.inr rfl)) (by decide) (by decide)) (@pa_nil _)) (by decide) (by decide) (by rfl) (by rfl))) (by intro _ ; rfl)) (@pa_nil _)) (by decide) (by rfl) (by rfl)))), ?_⟩
    refine ⟨_, rfl, a, rfl, ⟨_, hS⟩, fun D hD => ?_⟩
    refine lc_listP (as := ts) (vf := V.int) (fun _ => true) (fun t => V.str (Str.ofString (toString t))) hS hD (small1000 (by omega)) ?_ ?_
    · intro t H2 ht s2 Qy Qn ky kn
      refine ⟨rfl, ?_⟩
      dsimp only [tYes]
      refine iteT ?_
      have ht' := hb t ht
      refine ⟨_, rfl, t, rfl, ?_, ky rfl _ (Same.refl _)⟩
      by_cases h0 : t.natAbs = 0
      · rw [h0]; decide
      · exact Nat.lt_trans ((Nat.log2_lt h0).mpr (by omega : t.natAbs < 2 ^ 30)) (by decide)
    intro H2 s2 hD2
    rw [List.filter_eq_self.mpr (fun _ _ => rfl)] at hD2
    have e2 : (ts.map fun t => V.str (Str.ofString (toString t))) = (ts.map fun t => Str.ofString (toString t)).map V.str := by rw [List.map_map]; rfl
    rw [e2] at hD2
    refine ⟨D, _, rfl, SqL.of hD2, ?_, k H2 s2⟩
    have hs : ∀ xs : List Int, (∀ t ∈ xs, -(10 ^ 9) < t ∧ t < 10 ^ 9) → ((xs.map fun t => Str.ofString (toString t)).map fun x : Str => x.length).sum ≤ 31 * xs.length := fun xs => by
      induction xs with
      | nil => intro _; exact Nat.le_refl _
      | cons x xs ih =>
        intro hx
        rw [List.map_cons, List.map_cons, List.sum_cons, List.length_cons]
        have := num_len (hx x List.mem_cons_self)
        have := ih fun t ht => hx t (List.mem_cons_of_mem _ ht)
        omega
    have := hs ts hb
    rw [List.length_map]
    omega
def spINu : Sp := fun vs H Q _ => ∃ l : List Nat, vs = [.str (txt l)] ∧ l.length ≤ 100000 ∧ ∀ H', Same H H' → Q (.bl (isNum l)) H'
theorem cal_inu (D : Def K mg "is_number" sINu psINu) (T : Txt mg) (g_MOST_FIGURES : GInt mg "MOST_FIGURES" 9) : Cal P w K mg base CX0 1 "is_number" psINu spINu := cal_mk D fun f fd F => by
  refine F.ok scINu (fun vs H Q E h => ?_) (fun cdv A outer s H vs Q E hr h => ?_)
  · obtain ⟨l, rfl, _⟩ := h
    rfl
  · obtain ⟨l, rfl, hl, k⟩ := h
    refine ⟨_, (@pss_cons _ _ _ _ _ (@ps_set _ _ 1 _ _ _ _ scINu.nd rfl lINu_1 (@pe_m1 _ _ _ _ _ _ _ _ _ _ PySem.F.slot_str_removeprefix PySem.F.type_str_removeprefix mt_remp (@pv _ 0 _ _ (by rfl) vINu_0 (by decide) (by decide)) (@pe_str _ _ _ _) (by rfl) (by rfl) (by rfl)) (by rfl) (by first | exact .inl rfl | exact .inr rfl | assumption)) (@pss_cons _ _ _ _ _ (@ps_if _ _ _ _ _ _ _ _ (@pt_not _ _ _ _ (@pt_chain _ _ _ _ _ _ _ _ _ _ _ _ op_le op_le (@pe_int _ _ _ _) (@pe_callB _ _ _ _ _ _ _ _ _ call_len_str (by rfl) T.len PySem.boot_len (@pa_cN _ _ _ _ _ _ (@pv _ 1 _ _ (by rfl) vINu_1 (by decide) (by decide)) (@pa_nil _)) (by decide) (by decide) (by rfl) (by rfl)) (pe_gint (by rfl) g_MOST_FIGURES) (by with_unfolding_all rfl))) (@pss_one _ _ _ (@ps_ret _ _ _ _ (@pe_bl _ _ _ _))) (@pss_nil _)) (@pss_cons _ _ _ _ _ (@ps_if _ _ _ _ _ _ _ _ (@pt_not _ _ _ _ (@pt_val _ _ _ (@pe_callB _ _ _ _ _ _ _ _ _ (cr_all rfl) (by rfl) T.all (by decide +kernel) (@pa_cG _ _ _ _ _ _ _ _ (@pe_lc _ _ _ _ _ _ [("figure", 2)] _ _ (gName 2) _ _ (by rfl) scINu.nd (@pi_str _ _ _ _ (@pv _ 1 _ _ (by rfl) vINu_1 (by decide) (by decide))) (blkOk_by (own := [("figure", 2)]) (N := ["text", "figures", "figure"]) (sc := defScope sINu) (by decide +kernel)) (fun _ _ _ _ _ => (@pg_name _ _ 2 _ scINu.nd rfl (Or.inl rfl) (by first | exact .inl rfl | exact .inr rfl | assumption))) (fun _ _ _ _ _ => (@pts_nil _)) (fun _ _ _ _ _ => (@pe_chain _ _ _ _ _ _ _ _ _ _ _ _ op_le_str op_le_str (@pe_str _ _ _ _) (@pv _ 2 _ _ (by rfl) (by first | exact Or.inl rfl | exact Or.inr (Or.inl rfl) | exact Or.inr (Or.inr rfl)) (by decide) (by decide)) (@pe_str _ _ _ _) (by with_unfolding_all rfl))) (by intro _ ; rfl)) (@pa_nil _)) (by decide) (by decide) (by rfl) (by rfl)) (by intro _ ; rfl))) (@pss_one _ _ _ (@ps_ret _ _ _ _ (@pe_bl _ _ _ _))) (@pss_nil _)) (@pss_one _ _ _ (@ps_ret _ _ _ _ (@pe_or _ _ _ _ _ _ _ (@pe_cmpR _ _ _ _ _ _ _ _ op_ne (@pe_ix _ _ _ _ _ _ _ ix_str (@pv _ 1 _ _ (by rfl) vINu_1 (by decide) (by decide)) (@pe_int _ _ _ _) (fun _ _ => rfl)) (@pe_str _ _ _ _) (nomark _)) (@pe_one _ _ _ _ _ (@pe_cmpR _ _ _ _ _ _ _ _ op_eq (@pv _ 0 _ _ (by rfl) vINu_0 (by decide) (by decide)) (@pe_str _ _ _ _) (nomark _))))))))), ?_⟩
    have e45 : (V.str (Str.ofString "-")) = V.str (txt [45]) := by decide +kernel
    refine ⟨_, rfl, ⟨_, rfl⟩, l, rfl, by rw [e45], hl, ?_⟩
    have hbl : (bodyN l).length ≤ l.length := by
      unfold bodyN
      split
      · rw [List.length_drop]; omega
      · exact Nat.le_refl _
    unfold isNum at k
    obtain ⟨b, hb⟩ : ∃ b, b = bodyN l := ⟨_, rfl⟩
    rw [← hb] at k hbl ⊢
    have hz : (txt b).length ≤ sizeLine := by rw [txt_length, sizeLine_eq]; omega
    refine ⟨_, rfl, _, rfl, hz, _, _, rfl, rfl, _, rfl, ?_⟩
    rw [txt_length]
    by_cases h1 : 1 ≤ b.length
    rotate_left
    · rw [decide_eq_false h1] at k
      rw [decide_eq_false (show ¬ (1 : Int) ≤ ((b.length : Nat) : Int) by omega)]
      refine iteF ⟨_, rfl, ?_⟩
      refine iteT ?_
      exact k H (Same.refl H)
    rw [decide_eq_true h1] at k
    rw [decide_eq_true (show (1 : Int) ≤ ((b.length : Nat) : Int) by omega)]
    refine iteT ⟨_, _, rfl, rfl, _, rfl, ?_⟩
    by_cases h9 : b.length ≤ 9
    rotate_left
    · rw [decide_eq_false h9] at k
      rw [decide_eq_false (show ¬ ((b.length : Nat) : Int) ≤ 9 by omega)]
      refine iteT ?_
      exact k H (Same.refl H)
    rw [decide_eq_true h9] at k
    rw [decide_eq_true (show ((b.length : Nat) : Int) ≤ 9 by omega)]
    refine iteF ?_
    refine ⟨_, rfl, _, rfl, fun D hD => ?_⟩
    refine lc_strP (l := b) (fun _ => true) (fun c => V.bl (decide (48 ≤ c) && decide (c ≤ 57))) hD (small1000 (by omega)) ?_ ?_
    · intro c H2 hc s2 Qy Qn ky kn
      refine ⟨rfl, ?_⟩
      dsimp only [tYes]
      refine iteT ?_
      have e48 : Str.ofString "0" = txt [48] := by decide +kernel
      have e57 : Str.ofString "9" = txt [57] := by decide +kernel
      refine ⟨_, rfl, _, _, rfl, rfl, _, rfl, ?_⟩
      have n1 : (!decide ((⟨#[c]⟩ : Str).cps.toList < (Str.ofString "0").cps.toList)) = decide (48 ≤ c) := by
        change (!decide ((txt [c]).cps.toList < (Str.ofString "0").cps.toList)) = _
        rw [e48, lt_sgn]
        by_cases h : c < 48
        · rw [decide_eq_true h, decide_eq_false (show ¬ 48 ≤ c by omega)]; rfl
        · rw [decide_eq_false h, decide_eq_true (show 48 ≤ c by omega)]; rfl
      have n2 : (!decide ((Str.ofString "9").cps.toList < (⟨#[c]⟩ : Str).cps.toList)) = decide (c ≤ 57) := by
        change (!decide ((Str.ofString "9").cps.toList < (txt [c]).cps.toList)) = _
        rw [e57, lt_sgn]
        by_cases h : 57 < c
        · rw [decide_eq_true h, decide_eq_false (show ¬ c ≤ 57 by omega)]; rfl
        · rw [decide_eq_false h, decide_eq_true (show c ≤ 57 by omega)]; rfl
      rw [n1]
      have kk := ky rfl
      cases e1 : decide (48 ≤ c) with
      | false =>
        rw [e1, Bool.false_and] at kk
        exact iteF (kk _ (Same.refl _))
      | true =>
        rw [e1, Bool.true_and] at kk
        refine iteT ⟨_, _, rfl, rfl, ?_⟩
        rw [n2]
        exact kk _ (Same.refl _)
    intro H2 s2 hD2
    rw [List.filter_eq_self.mpr (fun _ _ => rfl)] at hD2
    refine ⟨D, b.map (fun c => decide (48 ≤ c) && decide (c ≤ 57)), rfl, (by rw [List.map_map]; exact SqL.of hD2), _, rfl, ?_⟩
    rw [List.all_map]
    rw [show b.all (id ∘ fun c => decide (48 ≤ c) && decide (c ≤ 57)) = digs b from rfl]
    cases hd : digs b with
    | false =>
      rw [hd] at k
      refine iteT ?_
      exact k H2 s2
    | true =>
      rw [hd] at k
      refine iteF ?_
      obtain ⟨c, r, rfl⟩ : ∃ c r, b = c :: r := by
        cases b with
        | nil => exact absurd h1 (by decide)
        | cons c r => exact ⟨c, r, rfl⟩
      have e48 : Str.ofString "0" = txt [48] := by decide +kernel
      refine ⟨_, rfl, _, _, c, rfl, rfl, hz, atI_nat (j := 0) rfl, rfl, _, rfl, ?_⟩
      have n1 : (!decide (V.str (⟨#[c]⟩ : Str) = V.str (Str.ofString "0"))) = decide ((c :: r).headD 0 ≠ 48) := by
        rw [e48]
        have : decide (V.str (txt [c]) = V.str (txt [48])) = decide (c = 48) := eq_sgn c 48
        change (!decide (V.str (txt [c]) = V.str (txt [48]))) = _
        rw [this]
        show (!decide (c = 48)) = decide (¬ c = 48)
        rw [decide_not]
      rw [n1]
      have kk := k H2 s2
      rw [Bool.true_and, Bool.true_and, Bool.true_and] at kk
      cases e1 : decide ((c :: r).headD 0 ≠ 48) with
      | true =>
        rw [e1, Bool.true_or] at kk
        exact iteT kk
      | false =>
        rw [e1, Bool.false_or] at kk
        refine iteF ⟨_, rfl, rfl, ?_⟩
        rw [show decide (V.str (txt l) = V.str (Str.ofString "0")) = decide (l = [48]) from decide_eq_decide.mpr ⟨fun h => by rw [e48] at h; exact txt_inj (V.str.inj h), fun h => by rw [h, e48]⟩]
        exact kk
/-- read_turns -/
def spRdT (K : PySem.W.Frag) (C : Addr) : Sp := fun vs H Q E => (∃ x : List Nat, vs = [.str (txt x)] ∧ x.length ≤ 50000 ∧ (∀ ts, rdT x = some ts → ∀ D H', Same H H' → H D = none → H' D = some (.lst (ts.map V.int)) → Q (.ref D) H') ∧ (rdT x = none → ∀ H', Same H H' → E (.ref C) none H')) ∨
  ∃ v, vs = [v] ∧ NoStr K H v ∧ ∀ H', Same H H' → E (.ref C) none H'
theorem kssT : PySem.W.kitOne K (.type "str") (.type "str") = some true := rfl
theorem cal_rdt {CNoText : Addr} (D : Def K mg "read_turns" sRdT psRdT) (T : Txt mg) (CIn : Cal P w K mg base CX0 1 "is_number" ["text"] spINu) (nNoText : mg "NoText" = some (.ref CNoText)) (xNoText : PySem.W.excIn K CNoText bmVE "ValueError.__new__" = true) :
    Cal P w K mg base (CX1 P w) 2 "read_turns" psRdT (spRdT K CNoText) := cal_mk D fun f fd F => by
  obtain ⟨fIn, dIn, GIn, kIn, bIn, mIn⟩ := CIn
  refine F.okX scRdT (fun vs H Q E h => ?_) (fun cdv A outer s H vs Q E hr h => ?_)
  · rcases h with ⟨x, rfl, _⟩ | ⟨v, rfl, _⟩ <;> rfl
  · have hvs : ∃ v, vs = [v] := by
      rcases h with ⟨x, rfl, _⟩ | ⟨v, rfl, _⟩
      · exact ⟨_, rfl⟩
      · exact ⟨_, rfl⟩
    obtain ⟨v, rfl⟩ := hvs
    refine ⟨_, (@pss_cons _ _ _ _ _ (@ps_if _ _ _ _ _ _ _ _ (@pt_not _ _ _ _ (@pt_val _ _ _ (@pe_callB _ _ _ _ _ _ _ _ _ cr_isi (by rfl) T.isi boot_isi (@pa_cN _ _ _ _ _ _ (@pv _ 0 _ _ (by rfl) vRdT_0 (by decide) (by decide)) (@pa_cN _ _ _ _ _ _ (@pe_bltn _ _ (.ty "str") _ _ (by rfl) T.str (by decide +kernel) rfl (by decide) (by decide)) (@pa_nil _))) (by decide) (by decide) (by rfl) (by rfl)) (by intro _ ; rfl))) (@pss_one _ _ _ (@ps_raise _ E _ _ _ _ _ _ _ CNoText up_of rfl (by rfl) nNoText xNoText (@pa_cC _ _ _ _ _ _ _ (@pe_str _ _ _ _) (@pa_nil _)) (by decide) (by rfl) (by rfl))) (@pss_nil _)) (@pss_cons _ _ _ _ _ (@ps_if _ _ _ _ _ _ _ _ (@pt_cmpR _ _ _ _ _ _ _ _ op_eq (@pv _ 0 _ _ (by rfl) vRdT_0 (by decide) (by decide)) (@pe_str _ _ _ _) (nomark _)) (@pss_one _ _ _ (@ps_ret _ _ _ _ (@pe_lst _ _ _ _ (@pa_nil _)))) (@pss_nil _)) (@pss_cons _ _ _ _ _ (@ps_set _ _ 1 _ _ _ _ scRdT.nd rfl lRdT_1 (@pe_split _ _ _ _ _ _ _ (@pv _ 0 _ _ (by rfl) vRdT_0 (by decide) (by decide)) (@pe_str _ _ _ _) (by rfl) (by rfl) (by rfl)) (by rfl) (by first | exact .inl rfl | exact .inr rfl | assumption)) (@pss_cons _ _ _ _ _ (@ps_if _ _ _ _ _ _ _ _ (@pt_not _ _ _ _ (@pt_val _ _ _ (@pe_callB _ _ _ _ _ _ _ _ _ (cr_all rfl) (by rfl) T.all (by decide +kernel) (@pa_cG _ _ _ _ _ _ _ _ (@pe_lc _ _ _ _ _ _ [("number", 2)] _ _ (gName 2) _ _ (by rfl) scRdT.nd (@pi_list _ _ _ _ (@pv _ 1 _ _ (by rfl) vRdT_1 (by decide) (by decide))) (blkOk_by (own := [("number", 2)]) (N := ["text", "numbers", "number"]) (sc := defScope sRdT) (by decide +kernel)) (fun _ _ _ _ _ => (@pg_name _ _ 2 _ scRdT.nd rfl (Or.inl rfl) (by first | exact .inl rfl | exact .inr rfl | assumption))) (fun _ _ _ _ _ => (@pts_nil _)) (fun _ _ _ _ _ => (@pe_call _ _ _ _ _ _ _ _ _ _ _ _ _ _ _ _ GIn (hr.mono (by decide)) (by rfl) mIn kIn bIn .nil pass0 (@pa_cN _ _ _ _ _ _ (@pv _ 2 _ _ (by rfl) (by first | exact Or.inl rfl | exact Or.inr (Or.inl rfl) | exact Or.inr (Or.inr rfl)) (by decide) (by decide)) (@pa_nil _)) (by decide) (by rfl) (by rfl))) (by intro _ ; rfl)) (@pa_nil _)) (by decide) (by decide) (by rfl) (by rfl)) (by intro _ ; rfl))) (@pss_one _ _ _ (@ps_raise _ E _ _ _ _ _ _ _ CNoText up_of rfl (by rfl) nNoText xNoText (@pa_cC _ _ _ _ _ _ _ (@pe_str _ _ _ _) (@pa_nil _)) (by decide) (by rfl) (by rfl))) (@pss_nil _)) (@pss_one _ _ _ (@ps_ret _ _ _ _ (@pe_lc _ _ _ _ _ _ [("number", 2)] _ _ (gName 2) _ _ (by rfl) scRdT.nd (@pi_list _ _ _ _ (@pv _ 1 _ _ (by rfl) vRdT_1 (by decide) (by decide))) (blkOk_by (own := [("number", 2)]) (N := ["text", "numbers", "number"]) (sc := defScope sRdT) (by decide +kernel)) (fun _ _ _ _ _ => (@pg_name _ _ 2 _ scRdT.nd rfl (Or.inl rfl) (by first | exact .inl rfl | exact .inr rfl | assumption))) (fun _ _ _ _ _ => (@pts_nil _)) (fun _ _ _ _ _ => (@pe_callTy _ _ _ _ _ _ _ _ _ call_int_str (by rfl) T.int (by decide +kernel) (@pa_cN _ _ _ _ _ _ (@pv _ 2 _ _ (by rfl) (by first | exact Or.inl rfl | exact Or.inr (Or.inl rfl) | exact Or.inr (Or.inr rfl)) (by decide) (by decide)) (@pa_nil _)) (by decide) (by decide) (by rfl) (by rfl))) (by intro _ ; rfl)))))))), ?_⟩
    rcases h with ⟨x, ex, hx, ks, kn⟩ | ⟨v, ev, ⟨t, hty, hk⟩, kn⟩
    rotate_left
    · cases ev
      refine ⟨_, rfl, _, _, _, _, _, rfl, hty, rfl, hk, _, rfl, ?_⟩
      refine iteT ?_
      exact ⟨by show 1 ≤ sizeLine; decide, kn H (Same.refl H)⟩
    cases ex
    refine ⟨_, rfl, _, _, _, _, _, rfl, TyOf.str _, rfl, kssT, _, rfl, ?_⟩
    refine iteF ?_
    have eNo : Str.ofString "none" = txt [110, 111, 110, 101] := by decide +kernel
    have eSp : Str.ofString " " = txt [32] := by decide +kernel
    unfold rdT at ks kn
    refine ⟨_, rfl, rfl, _, rfl, ?_⟩
    rw [show decide (V.str (txt x) = V.str (Str.ofString "none")) = decide (x = [110, 111, 110, 101]) from decide_eq_decide.mpr ⟨fun h => by rw [eNo] at h; exact txt_inj (V.str.inj h), fun h => by rw [h, eNo]⟩]
    by_cases e0 : x = [110, 111, 110, 101]
    · rw [decide_eq_true e0]
      rw [if_pos e0] at ks
      refine iteT ?_
      refine ⟨(by show 0 ≤ sizeLine; decide), fun D hD => ?_⟩
      exact ks [] rfl D _ (Same.new hD) hD upd_same
    rw [decide_eq_false e0]
    rw [if_neg e0] at ks kn
    refine iteF ?_
    obtain ⟨p1, p2, p3⟩ := prts_ok x
    refine ⟨_, rfl, ⟨_, rfl⟩, _, _, rfl, rfl, (by decide +kernel), by rw [txt_length, sizeLine_eq]; omega, fun NL hNL => ?_⟩
    have hNL2 : (upd H NL (.lst ((Txt.split (txt x) " ").map V.str))) NL = some (.lst ((prts x).map fun w => V.str (txt w))) := by
      rw [upd_same, show Txt.split (txt x) " " = (prts x).map txt from by rw [← split_prts, eSp], List.map_map]
      rfl
    have sN := Same.new (o := .lst ((Txt.split (txt x) " ").map V.str)) hNL
    generalize upd H NL (.lst ((Txt.split (txt x) " ").map V.str)) = H2 at hNL2 sN ⊢
    refine ⟨_, rfl, NL, rfl, ⟨_, SqL.of hNL2⟩, fun D hD => ?_⟩
    refine lc_listP (as := prts x) (vf := fun w => V.str (txt w)) (fun _ => true) (fun w => V.bl (isNum w)) (SqL.of hNL2) hD (small_ok (by omega)) ?_ ?_
    · intro w H3 hw s3 Qy Qn ky kn
      refine ⟨rfl, ?_⟩
      dsimp only [tYes]
      refine iteT ?_
      exact ⟨_, rfl, w, rfl, by have := (p3 w hw).1; omega, fun H4 s4 => ky rfl _ s4⟩
    intro H3 s3 hD3
    rw [List.filter_eq_self.mpr (fun _ _ => rfl)] at hD3
    refine ⟨D, (prts x).map isNum, rfl, (by rw [List.map_map]; exact SqL.of hD3), _, rfl, ?_⟩
    rw [List.all_map]
    rw [show (prts x).all (id ∘ isNum) = (prts x).all isNum from rfl]
    cases ea : (prts x).all isNum with
    | false =>
      rw [ea, if_neg Bool.false_ne_true] at kn
      refine iteT ?_
      exact ⟨by show 1 ≤ sizeLine; decide, kn rfl H3 (sN.trans s3)⟩
    | true =>
      rw [ea, if_pos rfl] at ks
      refine iteF ?_
      refine ⟨_, rfl, NL, rfl, ⟨_, SqL.of (s3 _ _ hNL2)⟩, fun D2 hD2 => ?_⟩
      refine lc_listP (as := prts x) (vf := fun w => V.str (txt w)) (fun _ => true) (fun w => V.int ((numN w).getD 0)) (SqL.of (s3 _ _ hNL2)) hD2 (small_ok (by omega)) ?_ ?_
      · intro w H4 hw s4 Qy Qn ky kn
        refine ⟨rfl, ?_⟩
        dsimp only [tYes]
        refine iteT ?_
        have hn := List.all_eq_true.mp ea w hw
        rw [num_iff] at hn
        obtain ⟨n, hn⟩ := Option.isSome_iff_exists.mp hn
        obtain ⟨i1, i2⟩ := num_int hn
        rw [hn] at ky
        exact ⟨_, rfl, _, n, rfl, i1, by rw [txt_length]; omega, ky rfl _ (Same.refl _)⟩
      intro H4 s4 hD4
      rw [List.filter_eq_self.mpr (fun _ _ => rfl)] at hD4
      refine ks _ rfl D2 H4 (sN.trans (s3.trans s4)) ((sN.trans s3).free hD2) ?_
      rw [hD4, List.map_map]
      rfl
end
end W

set_option Elab.async false
set_option linter.all false
set_option maxRecDepth 100000
set_option maxHeartbeats 4000000
namespace W
open PySem L2 WM

abbrev sFIn : Stmt := top 24
abbrev psFIn : List Str := ["word"]
theorem scFIn : FnScope ["word", "sign", "strange"] ["word"] (defScope sFIn) := ⟨rfl, rfl, rfl, by decide +kernel, rfl, by decide +kernel, by decide +kernel⟩
theorem lFIn_0 : Loc (defScope sFIn) "word" := Or.inl (by decide +kernel)
theorem vFIn_0 : Vis (defScope sFIn) "word" := Or.inl (by decide +kernel)
theorem lFIn_2 : Loc (defScope sFIn) "strange" := Or.inl (by decide +kernel)
theorem vFIn_2 : Vis (defScope sFIn) "strange" := Or.inl (by decide +kernel)
abbrev sTIn : Stmt := top 25
abbrev psTIn : List Str := ["text"]
theorem scTIn : FnScope ["text", "found", "word", "back", "number"] ["text"] (defScope sTIn) := ⟨rfl, rfl, rfl, by decide +kernel, rfl, by decide +kernel, by decide +kernel⟩
theorem lTIn_0 : Loc (defScope sTIn) "text" := Or.inl (by decide +kernel)
theorem vTIn_0 : Vis (defScope sTIn) "text" := Or.inl (by decide +kernel)
theorem lTIn_1 : Loc (defScope sTIn) "found" := Or.inl (by decide +kernel)
theorem vTIn_1 : Vis (defScope sTIn) "found" := Or.inl (by decide +kernel)
theorem lTIn_2 : Loc (defScope sTIn) "word" := Or.inl (by decide +kernel)
theorem vTIn_2 : Vis (defScope sTIn) "word" := Or.inl (by decide +kernel)
theorem lTIn_3 : Loc (defScope sTIn) "back" := Or.inl (by decide +kernel)
theorem vTIn_3 : Vis (defScope sTIn) "back" := Or.inl (by decide +kernel)
theorem lTIn_4 : Loc (defScope sTIn) "number" := Or.inl (by decide +kernel)
theorem vTIn_4 : Vis (defScope sTIn) "number" := Or.inl (by decide +kernel)
section
variable {P : Program} {w : World} {K : PySem.W.Frag} {mg : Str → Option Value} {base : Heap}
theorem mem_dig (c : Nat) : decide (c ∈ (Str.ofString "0123456789").cps.toList) = (decide (48 ≤ c) && decide (c ≤ 57)) := by
  have e : (Str.ofString "0123456789").cps.toList = [48, 49, 50, 51, 52, 53, 54, 55, 56, 57] := by decide +kernel
  rw [e, ← Bool.decide_and]
  refine decide_eq_decide.mpr ?_
  simp only [List.mem_cons, List.not_mem_nil, or_false]
  omega
theorem eqv_sgN (l : List Nat) : PyData.eqv (.list (l.map dS)) (.list []) = l.isEmpty := by cases l <;> rfl
def optI (r : Option Int) : V := match r with
  | none => .non
  | some n => .int n
def spFIn : Sp := fun vs H Q _ => ∃ w : List Nat, vs = [.str (txt w)] ∧ w.length ≤ 50000 ∧ Cp w ∧ ∀ H', Same H H' → Q (optI (figN w)) H'
theorem cal_fin (D : Def K mg "_law_figures_in" sFIn psFIn) (T : Txt mg) : Cal P w K mg base CX0 1 "_law_figures_in" psFIn spFIn := cal_mk D fun f fd F => by
  refine F.ok scFIn (fun vs H Q E h => ?_) (fun cdv A outer s H vs Q E hr h => ?_)
  · obtain ⟨l, rfl, _⟩ := h
    rfl
  · obtain ⟨l, rfl, hl, hcp, k⟩ := h
    have hz : (txt l).length ≤ sizeLine := by rw [txt_length, sizeLine_eq]; omega
    have e48 : Str.ofString "0" = txt [48] := by decide +kernel
    refine ⟨_, (@pss_cons _ _ _ _ _ (@ps_cut _ _ _ (@ps_if _ _ _ _ _ _ _ _ (@PW.pt _ _ _ (@pw_or _ _ _ _ _ _ _ (@pt_cmpR _ _ _ _ _ _ _ _ op_lt (@pe_callB _ _ _ _ _ _ _ _ _ call_len_str (by rfl) T.len PySem.boot_len (@pa_cN _ _ _ _ _ _ (@pv _ 0 _ _ (by rfl) vFIn_0 (by decide) (by decide)) (@pa_nil _)) (by decide) (by decide) (by rfl) (by rfl)) (@pe_int _ _ _ _) (nomark _)) (@pw_or _ _ _ _ _ _ _ (@pt_cmpR _ _ _ _ _ _ _ _ op_gt (@pe_callB _ _ _ _ _ _ _ _ _ call_len_str (by rfl) T.len PySem.boot_len (@pa_cN _ _ _ _ _ _ (@pv _ 0 _ _ (by rfl) vFIn_0 (by decide) (by decide)) (@pa_nil _)) (by decide) (by decide) (by rfl) (by rfl)) (@pe_int _ _ _ _) (nomark _)) (@pw_or1 _ _ _ _ (@PW.pt _ _ _ (@pw_and _ _ _ _ _ _ _ (@pt_cmpR _ _ _ _ _ _ _ _ op_eq (@pe_ix _ _ _ _ _ _ _ ix_str (@pv _ 0 _ _ (by rfl) vFIn_0 (by decide) (by decide)) (@pe_int _ _ _ _) (fun _ _ => rfl)) (@pe_str _ _ _ _) (nomark _)) (@pw_and1 _ _ _ _ (@pt_cmpR _ _ _ _ _ _ _ _ op_ne (@pv _ 0 _ _ (by rfl) vFIn_0 (by decide) (by decide)) (@pe_str _ _ _ _) (nomark _))))))))) (@pss_one _ _ _ (@ps_ret _ _ _ _ (@pe_non _ _ _))) (@pss_nil _))) (@pss_cons _ _ _ _ _ (@ps_setLc _ 2 _ _ _ _ _ _ _ [("sign", 1)] _ _ _ (gName 1) _ _ (by rfl) scFIn.nd rfl rfl (sw_true rfl rfl rfl (by decide +kernel)) (@pi_str _ _ _ _ (@pv _ 0 _ _ (by rfl) vFIn_0 (by decide) (by decide))) (blkOk_by (own := [("sign", 1)]) (N := ["word", "sign", "strange"]) (sc := defScope sFIn) (by decide +kernel)) (fun _ _ _ _ _ => (@pg_name _ _ 1 _ scFIn.nd rfl (Or.inl rfl) (by first | exact .inl rfl | exact .inr rfl | assumption))) (fun _ _ _ _ _ => (@pts_one _ _ _ (@pt_cmpR _ _ _ _ _ _ _ _ op_notIn_sign (@pv _ 1 _ _ (by rfl) (by first | exact Or.inl rfl | exact Or.inr (Or.inl rfl) | exact Or.inr (Or.inr rfl)) (by decide) (by decide)) (@pe_str _ _ _ _) rfl))) (fun _ _ _ _ _ => (@pv _ 1 _ _ (by rfl) (by first | exact Or.inl rfl | exact Or.inr (Or.inl rfl) | exact Or.inr (Or.inr rfl)) (by decide) (by decide))) (by intro _ ; rfl)) (@pss_one _ _ _ (@ps_ret _ _ _ _ (@pe_ifExp _ _ _ _ _ _ _ _ (@pt_cmpR _ _ _ _ _ _ _ _ (op_neD hr.units) (@pv _ 2 _ _ (by rfl) vFIn_2 (by decide) (by decide)) (@pe_lst _ _ _ _ (@pa_nil _)) (nomark _)) (@pe_non _ _ _) (@pe_callTy _ _ _ _ _ _ _ _ _ call_int_str (by rfl) T.int (by decide +kernel) (@pa_cN _ _ _ _ _ _ (@pv _ 0 _ _ (by rfl) vFIn_0 (by decide) (by decide)) (@pa_nil _)) (by decide) (by decide) (by rfl) (by rfl))))))), ?_⟩
    unfold figN at k
    refine ⟨fun σ H' => H' = H ∧ σ = [some (.str (txt l)), none, none] ∧ ¬ (l.length < 1 ∨ 9 < l.length ∨ (l.headD 0 = 48 ∧ l ≠ [48])), ?_, ?_⟩
    rotate_left
    · rintro σ H0 ⟨eH0, rfl, hgood⟩
      rw [eH0]
      rw [if_neg hgood] at k
      refine ⟨_, rfl, _, rfl, fun D hD => lc_strP (fun c => !(decide (48 ≤ c) && decide (c ≤ 57))) (fun c => V.str (txt [c])) hD (small1000 (by omega)) ?_ ?_⟩
      · intro c H' hc s' Qy Qn ky kn
        refine ⟨rfl, ?_⟩
        refine ⟨_, rfl, c, _, rfl, rfl, _, rfl, ?_⟩
        rw [mem_dig]
        cases e : (!(decide (48 ≤ c) && decide (c ≤ 57))) with
        | true =>
          rw [e] at ky
          exact iteT ⟨_, rfl, ky rfl _ (Same.refl _)⟩
        | false =>
          rw [e] at kn
          exact iteF (kn rfl _ (Same.refl _))
      intro H2 s2 hD2
      refine ⟨_, rfl, (by show 0 ≤ sizeLine; decide), fun N hN => ?_⟩
      have sN := Same.new (o := .lst []) hN
      refine ⟨.list ((l.filter fun c => !(decide (48 ≤ c) && decide (c ≤ 57))).map dS), .list [], .lst (SqL.of (sN _ _ hD2)) (dp_signs _), .lst (SqL.of upd_same) .nil, shaped_signs (fun c hc => hcp c (List.mem_filter.mp hc).1), by decide, _, rfl, ?_⟩
      rw [eqv_sgN]
      have ed : (l.filter fun c => !(decide (48 ≤ c) && decide (c ≤ 57))).isEmpty = digs l := by
        apply Bool.eq_iff_iff.mpr
        rw [List.isEmpty_iff, List.filter_eq_nil_iff]
        unfold digs
        rw [List.all_eq_true]
        exact ⟨fun h c hc => by have := h c hc; simpa using this, fun h c hc => by have := h c hc; simp [this]⟩
      rw [ed]
      cases hd : digs l with
      | false =>
        rw [hd, if_neg Bool.false_ne_true] at k
        refine iteT ?_
        exact k _ (s2.trans sN)
      | true =>
        rw [hd, if_pos rfl] at k
        refine iteF ?_
        have hfig : figN l = some ((NumText.digitsVal l : Nat) : Int) := by unfold figN; rw [if_neg hgood, if_pos hd]
        obtain ⟨i1, i2⟩ := fig_int hfig
        exact ⟨_, rfl, _, _, rfl, i1, by rw [txt_length]; omega, k _ (s2.trans sN)⟩
    refine ⟨_, rfl, _, rfl, hz, _, _, rfl, rfl, _, rfl, ?_⟩
    rw [txt_length]
    by_cases h1 : l.length < 1
    · rw [if_pos (.inl h1)] at k
      rw [decide_eq_true (show ((l.length : Nat) : Int) < 1 by omega)]
      refine iteT ?_
      refine iteT ?_
      exact k H (Same.refl H)
    rw [decide_eq_false (show ¬ ((l.length : Nat) : Int) < 1 by omega)]
    refine iteF ?_
    refine ⟨_, rfl, _, rfl, hz, _, _, rfl, rfl, _, rfl, ?_⟩
    rw [txt_length]
    by_cases h9 : 9 < l.length
    · rw [if_pos (.inr (.inl h9))] at k
      rw [decide_eq_true (show (9 : Int) < ((l.length : Nat) : Int) by omega)]
      refine iteT ?_
      refine iteT ?_
      exact k H (Same.refl H)
    rw [decide_eq_false (show ¬ (9 : Int) < ((l.length : Nat) : Int) by omega)]
    refine iteF ?_
    obtain ⟨c, r, hcr⟩ : ∃ c r, l = c :: r := by
      cases l with
      | nil => exact absurd (by decide) h1
      | cons c r => exact ⟨c, r, rfl⟩
    refine ⟨_, rfl, _, _, c, rfl, rfl, hz, atI_nat (j := 0) (by show l.toArray.toList[0]? = _; rw [List.toList_toArray, hcr]; rfl), rfl, _, rfl, ?_⟩
    have n1 : decide (V.str (⟨#[c]⟩ : Str) = V.str (Str.ofString "0")) = decide (c = 48) := by
      rw [e48]
      exact eq_sgn c 48
    have n2 : decide (V.str (txt l) = V.str (Str.ofString "0")) = decide (l = [48]) := decide_eq_decide.mpr ⟨fun h => by rw [e48] at h; exact txt_inj (V.str.inj h), fun h => by rw [h, e48]⟩
    rw [n1]
    have hd0 : l.headD 0 = c := by rw [hcr]; rfl
    by_cases hc : c = 48
    · rw [decide_eq_true hc]
      refine iteT ?_
      refine ⟨_, rfl, rfl, _, rfl, ?_⟩
      rw [n2]
      by_cases hl1 : l = [48]
      · rw [decide_eq_true hl1]
        refine iteF ?_
        exact ⟨rfl, rfl, fun z => z.elim h1 fun z => z.elim h9 fun z => z.2 hl1⟩
      · rw [decide_eq_false hl1]
        rw [if_pos (.inr (.inr ⟨hd0.trans hc, hl1⟩))] at k
        refine iteT ?_
        exact k H (Same.refl H)
    · rw [decide_eq_false hc]
      refine iteF ?_
      refine iteF ?_
      exact ⟨rfl, rfl, fun z => z.elim h1 fun z => z.elim h9 fun z => hc (hd0.symm.trans z.1)⟩
def OptAt (H : Hp) (v : V) (r : Option (List Int)) : Prop := match r with
  | none => v = .non
  | some ts => ∃ D, v = .ref D ∧ H D = some (.lst (ts.map V.int))
def valN (w : List Nat) : Int := (numN w).getD 0
theorem rdT_none {x w : List Nat} (h0 : x ≠ [110, 111, 110, 101]) (hw : w ∈ prts x) (hn : numN w = none) : rdT x = none := by
  unfold rdT
  rw [if_neg h0, if_neg]
  intro h
  have := List.all_eq_true.mp h w hw
  rw [num_iff, hn] at this
  cases this
def spTIn : Sp := fun vs H Q _ => ∃ x : List Nat, vs = [.str (txt x)] ∧ x.length ≤ 50000 ∧ Cp x ∧ ∀ v H', Same H H' → OptAt H' v (rdT x) → Q v H'
theorem cal_tin (D : Def K mg "_law_turns_in" sTIn psTIn) (T : Txt mg) (CFg : Cal P w K mg base CX0 1 "_law_figures_in" ["word"] spFIn) : Cal P w K mg base CX0 2 "_law_turns_in" psTIn spTIn := cal_mk D fun f fd F => by
  obtain ⟨fFg, dFg, GFg, kFg, bFg, mFg⟩ := CFg
  refine F.ok scTIn (fun vs H Q E h => ?_) (fun cdv A outer s H vs Q E hr h => ?_)
  · obtain ⟨l, rfl, _⟩ := h
    rfl
  · obtain ⟨x, rfl, hx, hcp, k⟩ := h
    refine ⟨_, (@pss_cons _ _ _ _ _ (@ps_if _ _ _ _ _ _ _ _ (@pt_cmpR _ _ _ _ _ _ _ _ op_eq (@pv _ 0 _ _ (by rfl) vTIn_0 (by decide) (by decide)) (@pe_str _ _ _ _) (nomark _)) (@pss_one _ _ _ (@ps_ret _ _ _ _ (@pe_lst _ _ _ _ (@pa_nil _)))) (@pss_nil _)) (@pss_cons _ _ _ _ _ (@ps_set _ _ 1 _ _ _ _ scTIn.nd rfl lTIn_1 (@pe_lst _ _ _ _ (@pa_nil _)) (by rfl) (by first | exact .inl rfl | exact .inr rfl | assumption)) (@pss_cons _ _ _ _ _ (@ps_for _ _ _ _ _ _ _ _ PassesOwn.never rfl (@pi_list _ _ _ _ (@pe_split _ _ _ _ _ _ _ (@pv _ 0 _ _ (by rfl) vTIn_0 (by decide) (by decide)) (@pe_str _ _ _ _) (by rfl) (by rfl) (by rfl))) (@pg_name _ _ 2 _ scTIn.nd rfl lTIn_2 (by first | exact .inl rfl | exact .inr rfl | assumption)) (@pss_cons _ _ _ _ _ (@ps_set _ _ 3 _ _ _ _ scTIn.nd rfl lTIn_3 (@pe_cmpR _ _ _ _ _ _ _ _ op_eq (@pe_slice _ _ _ _ _ _ _ _ _ _ sl_str (@pv _ 2 _ _ (by rfl) vTIn_2 (by decide) (by decide)) (@po_none _) (@po_some _ _ _ (@pe_int _ _ _ _))) (@pe_str _ _ _ _) (nomark _)) (by rfl) (by first | exact .inl rfl | exact .inr rfl | assumption)) (@pss_cons _ _ _ _ _ (@ps_set _ _ 4 _ _ _ _ scTIn.nd rfl lTIn_4 (@pe_call _ _ _ _ _ _ _ _ _ _ _ _ _ _ _ _ GFg (hr.mono (by decide)) (by rfl) mFg kFg bFg .nil pass0 (@pa_cS _ _ _ _ _ _ _ (@pe_slice _ _ _ _ _ _ _ _ _ _ sl_str (@pv _ 2 _ _ (by rfl) vTIn_2 (by decide) (by decide)) (@po_some _ _ _ (@pe_callTy _ _ _ _ _ _ _ _ _ call_int1 (by rfl) T.int (by decide +kernel) (@pa_cN _ _ _ _ _ _ (@pv _ 3 _ _ (by rfl) vTIn_3 (by decide) (by decide)) (@pa_nil _)) (by decide) (by decide) (by rfl) (by rfl))) (@po_none _)) (@pa_nil _)) (by decide) (by rfl) (by rfl)) (by rfl) (by first | exact .inl rfl | exact .inr rfl | assumption)) (@pss_cons _ _ _ _ _ (@ps_if _ _ _ _ _ _ _ _ (@PW.pt _ _ _ (@pw_or _ _ _ _ _ _ _ (@pt_cmpR _ _ _ _ _ _ _ _ op_isN (@pv _ 4 _ _ (by rfl) vTIn_4 (by decide) (by decide)) (@pe_non _ _ _) (nomark _)) (@pw_or1 _ _ _ _ (@PW.pt _ _ _ (@pw_and _ _ _ _ _ _ _ (@pt_val _ _ _ (@pv _ 3 _ _ (by rfl) vTIn_3 (by decide) (by decide)) (by intro _ ; rfl)) (@pw_and1 _ _ _ _ (@pt_cmpR _ _ _ _ _ _ _ _ op_eq (@pv _ 4 _ _ (by rfl) vTIn_4 (by decide) (by decide)) (@pe_int _ _ _ _) (nomark _)))))))) (@pss_one _ _ _ (@ps_ret _ _ _ _ (@pe_non _ _ _))) (@pss_nil _)) (@pss_one _ _ _ (@ps_expr _ _ _ _ (@pe_bm _ _ _ _ _ _ _ _ _ _ _ _ PySem.F.plainAttrs_list PySem.F.slot_list_append PySem.F.type_list_append mt_append (@pv _ 1 _ _ (by rfl) vTIn_1 (by decide) (by decide)) (@pa_cB _ _ _ _ _ _ _ _ (@pe_op _ _ _ _ _ _ _ _ op_mul (@pv _ 4 _ _ (by rfl) vTIn_4 (by decide) (by decide)) (@pe_ix _ _ _ _ _ _ _ ix_list (@pe_lst _ _ _ _ (@pa_cC _ _ _ _ _ _ _ (@pe_int _ _ _ _) (@pa_cU _ _ _ _ _ _ _ (@pe_un _ _ _ _ _ _ un_neg (@pe_int _ _ _ _)) (@pa_nil _)))) (@pe_callTy _ _ _ _ _ _ _ _ _ call_int1 (by rfl) T.int (by decide +kernel) (@pa_cN _ _ _ _ _ _ (@pv _ 3 _ _ (by rfl) vTIn_3 (by decide) (by decide)) (@pa_nil _)) (by decide) (by decide) (by rfl) (by rfl)) (fun _ _ => rfl))) (@pa_nil _)) (by rfl) (by rfl) (by rfl) (by rfl) (by rfl)) (by rfl)))))) (by intro _ ; rfl)) (@pss_one _ _ _ (@ps_ret _ _ _ _ (@pv _ 1 _ _ (by rfl) vTIn_1 (by decide) (by decide))))))), ?_⟩
    have eNo : Str.ofString "none" = txt [110, 111, 110, 101] := by decide +kernel
    have eSp : Str.ofString " " = txt [32] := by decide +kernel
    have e45 : Str.ofString "-" = txt [45] := by decide +kernel
    refine ⟨_, rfl, rfl, _, rfl, ?_⟩
    rw [show decide (V.str (txt x) = V.str (Str.ofString "none")) = decide (x = [110, 111, 110, 101]) from decide_eq_decide.mpr ⟨fun h => by rw [eNo] at h; exact txt_inj (V.str.inj h), fun h => by rw [h, eNo]⟩]
    by_cases e0 : x = [110, 111, 110, 101]
    · rw [decide_eq_true e0]
      refine iteT ?_
      refine ⟨(by show 0 ≤ sizeLine; decide), fun D hD => ?_⟩
      exact k _ _ (Same.new hD) (by unfold rdT; rw [if_pos e0]; exact ⟨D, rfl, upd_same⟩)
    rw [decide_eq_false e0]
    refine iteF ?_
    obtain ⟨p1, p2, p3⟩ := prts_ok x
    refine ⟨(by show 0 ≤ sizeLine; decide), fun F0 hF0 => ?_⟩
    have sF := Same.new (o := .lst []) hF0
    have hF1 : (upd H F0 (.lst [])) F0 = some (.lst []) := upd_same
    generalize upd H F0 (.lst []) = H1 at sF hF1 ⊢
    refine ⟨_, rfl, ⟨_, rfl⟩, _, _, rfl, rfl, (by decide +kernel), by rw [txt_length, sizeLine_eq]; omega, fun NL hNL => ?_⟩
    have hNL2 : (upd H1 NL (.lst ((Txt.split (txt x) " ").map V.str))) NL = some (.lst ((prts x).map fun w => V.str (txt w))) := by
      rw [upd_same, show Txt.split (txt x) " " = (prts x).map txt from by rw [← split_prts, eSp], List.map_map]
      rfl
    have sN := Same.new (o := .lst ((Txt.split (txt x) " ").map V.str)) hNL
    have hNF : NL ≠ F0 := (ne_of_none hF1 hNL).symm
    have hF2 := sN _ _ hF1
    have s2 := sF.trans sN
    generalize upd H1 NL (.lst ((Txt.split (txt x) " ").map V.str)) = H2 at hNL2 hF2 s2 ⊢
    refine ⟨NL, rfl, ⟨_, SqL.of hNL2⟩, for_list (xs := (prts x).map fun w => V.str (txt w)) (fun i σ HI => ∃ o2 o3 o4 : Option V, σ = [some (.str (txt x)), some (.ref F0), o2, o3, o4] ∧ Same H HI ∧ HI NL = some (.lst ((prts x).map fun w => V.str (txt w))) ∧ HI F0 = some (.lst ((((prts x).take i).map valN).map V.int)) ∧ ∀ w ∈ (prts x).take i, isNum w = true) ?_ ?_ ?_ ?_⟩
    · exact ⟨_, _, _, rfl, s2, hNL2, hF2, fun w hw => by rw [List.take_zero] at hw; cases hw⟩
    · rintro i σ HI _ ⟨o2, o3, o4, rfl, sI, hN, _, _⟩
      exact SqL.of hN
    · rintro i v σ HI hv ⟨o2, o3, o4, rfl, sI, hN, hF, hall⟩
      rw [List.getElem?_map] at hv
      cases ew : (prts x)[i]? with
      | none => rw [ew] at hv; cases hv
      | some w =>
      rw [ew] at hv
      cases hv
      have hwm := List.mem_of_getElem? ew
      obtain ⟨w1, w2⟩ := p3 w hwm
      have hz : (txt w).length ≤ sizeLine := by rw [txt_length, sizeLine_eq]; omega
      refine ⟨_, rfl, _, rfl, _, rfl, hz, ?_⟩
      rw [cut_toA (by decide)]
      refine ⟨rfl, ?_⟩
      rw [show decide (V.str (txt (w.take (1 : Int).toNat)) = V.str (Str.ofString "-")) = backW w from decide_eq_decide.mpr ⟨fun h => by rw [e45] at h; exact txt_inj (V.str.inj h), fun h => by rw [show (1 : Int).toNat = 1 from rfl, h, e45]⟩]
      refine ⟨_, rfl, _, rfl, .inr ⟨_, rfl, ?_⟩⟩
      refine ⟨_, rfl, _, rfl, hz, ?_⟩
      rw [cut_fromA (by split <;> decide)]
      have ebd : w.drop (if backW w = true then (1 : Int) else 0).toNat = bodyN w := by
        unfold bodyN
        cases backW w <;> rfl
      rw [ebd]
      have hbl : (bodyN w).length ≤ w.length := by
        unfold bodyN
        split
        · rw [List.length_drop]; omega
        · exact Nat.le_refl _
      have hbc : Cp (bodyN w) := fun c hc => by
        refine hcp c (w2 c ?_)
        unfold bodyN at hc
        split at hc
        · exact List.mem_of_mem_drop hc
        · exact hc
      refine ⟨bodyN w, rfl, by omega, hbc, fun H3 s3 => ?_⟩
      have hN3 := s3 _ _ hN
      have hF3 := s3 _ _ hF
      have sI3 := sI.trans s3
      refine ⟨_, rfl, rfl, _, rfl, ?_⟩
      cases ef : figN (bodyN w) with
      | none =>
        refine iteT ?_
        refine iteT ?_
        have hnn : numN w = none := by unfold numN; rw [ef]
        exact k .non H3 sI3 (by rw [rdT_none e0 hwm hnn]; rfl)
      | some v =>
        refine iteF ?_
        have hlen2 : (((prts x).take i).map valN).length ≤ 50010 := by rw [List.length_map, List.length_take]; omega
        have hstep : ∀ n : Int, numN w = some n → (((prts x).take i).map valN).map V.int ++ [V.int n] = (((prts x).take (i + 1)).map valN).map V.int ∧ ∀ y ∈ (prts x).take (i + 1), isNum y = true := fun n hn => by
          refine ⟨?_, fun y hy => ?_⟩
          · rw [List.take_add_one, ew, List.map_append, List.map_append]
            show _ = _ ++ [V.int (valN w)]
            unfold valN
            rw [hn]
            rfl
          · rw [List.take_add_one, ew] at hy
            rcases List.mem_append.mp hy with hy | hy
            · exact hall y hy
            · rw [List.mem_singleton.mp hy, num_iff, hn]
              rfl
        cases hb : backW w with
        | true =>
          refine ⟨_, rfl, _, rfl, ?_⟩
          refine iteT ?_
          refine ⟨_, rfl, rfl, _, rfl, ?_⟩
          by_cases h0 : v = 0
          · subst h0
            refine iteT ?_
            have hnn : numN w = none := by unfold numN; rw [ef, hb]; rfl
            exact k .non H3 sI3 (by rw [rdT_none e0 hwm hnn]; rfl)
          rw [show decide (optI (some v) = V.int 0) = false from decide_eq_false fun z => h0 (V.int.inj z)]
          refine iteF ?_
          have hnn : numN w = some (-v) := by
            unfold numN
            rw [ef, hb]
            dsimp only
            rw [if_neg (fun z => h0 z.2), if_pos rfl]
          obtain ⟨g1, g2⟩ := hstep _ hnn
          refine ⟨_, rfl, .inl ⟨rfl, _, SqL.of hF3⟩, _, rfl, _, rfl, (by show 2 ≤ sizeLine; decide), fun L hL => ?_⟩
          have sL := Same.new (o := .lst [.int 1, .int (-1)]) hL
          refine ⟨_, rfl, .inr ⟨_, rfl, L, _, _, _, rfl, rfl, SqL.of upd_same, atI_nat (j := 1) rfl, ?_⟩⟩
          refine ⟨_, _, rfl, rfl, .inr ⟨by decide, by decide⟩, F0, _, _, rfl, rfl, sL _ _ hF3, by rw [List.length_map]; exact small_ok (by omega), ?_⟩
          refine ⟨_, _, _, rfl, (sI3.trans sL).upd' hF0, ?_, ?_, g2⟩
          · rw [upd_ne hNF]
            exact sL _ _ hN3
          · rw [upd_same]
            show some (HO.lst (_ ++ [V.int (v * (-1 : Int))])) = _
            rw [show v * (-1 : Int) = -v by omega, g1]
        | false =>
          have hnn : numN w = some v := by
            unfold numN
            rw [ef, hb]
            dsimp only
            rw [if_neg (fun z => absurd z.1 Bool.false_ne_true), if_neg Bool.false_ne_true]
          obtain ⟨g1, g2⟩ := hstep _ hnn
          refine ⟨_, rfl, _, rfl, ?_⟩
          refine iteF ?_
          refine iteF ?_
          refine ⟨_, rfl, .inl ⟨rfl, _, SqL.of hF3⟩, _, rfl, _, rfl, (by show 2 ≤ sizeLine; decide), fun L hL => ?_⟩
          have sL := Same.new (o := .lst [.int 1, .int (-1)]) hL
          refine ⟨_, rfl, .inr ⟨_, rfl, L, _, _, _, rfl, rfl, SqL.of upd_same, atI_nat (j := 0) rfl, ?_⟩⟩
          refine ⟨_, _, rfl, rfl, .inr ⟨by decide, by decide⟩, F0, _, _, rfl, rfl, sL _ _ hF3, by rw [List.length_map]; exact small_ok (by omega), ?_⟩
          refine ⟨_, _, _, rfl, (sI3.trans sL).upd' hF0, ?_, ?_, g2⟩
          · rw [upd_ne hNF]
            exact sL _ _ hN3
          · rw [upd_same]
            show some (HO.lst (_ ++ [V.int (v * (1 : Int))])) = _
            rw [show v * (1 : Int) = v by omega, g1]
    · rintro σ HI ⟨o2, o3, o4, rfl, sI, hN, hF, hall⟩
      rw [List.length_map, List.take_length] at hF hall
      refine ⟨_, rfl, k _ HI sI ?_⟩
      unfold rdT
      rw [if_neg e0, if_pos (List.all_eq_true.mpr hall)]
      exact ⟨F0, rfl, hF⟩
end
end W

set_option Elab.async false
set_option linter.all false
set_option maxRecDepth 100000
set_option maxHeartbeats 4000000
namespace W
open PySem L2 WM

abbrev sRea : Stmt := top 32
abbrev psRea : List Str := ["text"]
theorem scRea : FnScope ["text", "found", "kind", "e"] ["text"] (defScope sRea) := ⟨rfl, rfl, rfl, by decide +kernel, rfl, by decide +kernel, by decide +kernel⟩
theorem leRea : (defScope sRea).names.lookup ("e" : Str) = some NameKind.local := by decide +kernel
theorem lRea_0 : Loc (defScope sRea) "text" := Or.inl (by decide +kernel)
theorem vRea_0 : Vis (defScope sRea) "text" := Or.inl (by decide +kernel)
theorem lRea_1 : Loc (defScope sRea) "found" := Or.inl (by decide +kernel)
theorem vRea_1 : Vis (defScope sRea) "found" := Or.inl (by decide +kernel)
theorem lRea_2 : Loc (defScope sRea) "kind" := Or.inl (by decide +kernel)
theorem vRea_2 : Vis (defScope sRea) "kind" := Or.inl (by decide +kernel)
theorem vRea_3 : Vis (defScope sRea) "e" := Or.inl (by decide +kernel)
abbrev sRig : Stmt := top 33
abbrev psRig : List Str := ["text"]
theorem scRig : FnScope ["text", "due", "found", "kind", "turn"] ["text"] (defScope sRig) := ⟨rfl, rfl, rfl, by decide +kernel, rfl, by decide +kernel, by decide +kernel⟩
theorem lRig_0 : Loc (defScope sRig) "text" := Or.inl (by decide +kernel)
theorem vRig_0 : Vis (defScope sRig) "text" := Or.inl (by decide +kernel)
theorem lRig_1 : Loc (defScope sRig) "due" := Or.inl (by decide +kernel)
theorem vRig_1 : Vis (defScope sRig) "due" := Or.inl (by decide +kernel)
theorem lRig_2 : Loc (defScope sRig) "found" := Or.inl (by decide +kernel)
theorem vRig_2 : Vis (defScope sRig) "found" := Or.inl (by decide +kernel)
theorem lRig_3 : Loc (defScope sRig) "kind" := Or.inl (by decide +kernel)
theorem vRig_3 : Vis (defScope sRig) "kind" := Or.inl (by decide +kernel)
section
variable {P : Program} {w : World} {K : PySem.W.Frag} {mg : Str → Option Value} {base : Heap}
theorem kind_9 : kindS (bsAt 9) = "NoText+" := by decide +kernel
def spRea (K : PySem.W.Frag) : Sp := fun vs H Q _ => (∃ x : List Nat, vs = [.str (txt x)] ∧ x.length ≤ 50000 ∧ (rdT x = none → ∀ q H', Same H H' → H' q = some (.tup [.non, .str "NoText+"]) → Q (.ref q) H') ∧ ∀ ts, rdT x = some ts → ∀ q D H', Same H H' → H D = none → H' q = some (.tup [.ref D, .str ""]) → H' D = some (.lst (ts.map V.int)) → Q (.ref q) H') ∨
  ∃ v, vs = [v] ∧ NoStr K H v ∧ ∀ q H', Same H H' → H' q = some (.tup [.non, .str "NoText+"]) → Q (.ref q) H'
theorem cal_rea {C9 Cw : Addr} {c : Cls14} (D : Def K mg "_law_read" sRea psRea) (T : Txt mg) (CRt : Cal P w K mg base (CX1 P w) 2 "read_turns" ["text"] (spRdT K C9)) (CKi : CalH P w K mg base 1 "_law_kind" ["e"] (spKind K c))
    (mW : mg "WheelError" = some (.ref Cw)) (ZW : CatchK K Cw) (sub9 : PySem.W.mroIn K C9 (.ref Cw) = some true) (kit9 : Kit K c C9 (bsAt 9)) :
    Cal P w K mg base CX0 3 "_law_read" psRea (spRea K) := cal_mk D fun f fd F => by
  obtain ⟨fRt, dRt, GRt, kRt, bRt, mRt⟩ := CRt
  obtain ⟨fKi, dKi, GKi, kKi, bKi, mKi⟩ := CKi
  refine F.ok scRea (fun vs H Q E h => ?_) (fun cdv A outer s H vs Q E hr h => ?_)
  · rcases h with ⟨x, rfl, _⟩ | ⟨v, rfl, _⟩ <;> rfl
  · have hvs : ∃ v, vs = [v] := by
      rcases h with ⟨x, rfl, _⟩ | ⟨v, rfl, _⟩
      · exact ⟨_, rfl⟩
      · exact ⟨_, rfl⟩
    obtain ⟨v, rfl⟩ := hvs
    refine ⟨_, (@pss_cons _ _ _ _ _ (@ps_set _ _ 1 _ _ _ _ scRea.nd rfl lRea_1 (@pe_non _ _ _) (by rfl) (by first | exact .inl rfl | exact .inr rfl | assumption)) (@pss_cons _ _ _ _ _ (@ps_set _ _ 2 _ _ _ _ scRea.nd rfl lRea_2 (@pe_str _ _ _ _) (by rfl) (by first | exact .inl rfl | exact .inr rfl | assumption)) (@pss_cons _ _ _ _ _ (@ps_try _ _ _ _ _ _ _ _ _ _ Cw 3 _ rfl rfl (@pxs_one _ _ _ (@px_set _ _ _ 1 _ _ _ scRea.nd rfl lRea_1 (@pex_call _ _ _ _ _ _ _ _ _ _ _ _ GRt (hr.mono (by decide)) (by rfl) mRt kRt bRt rfl (@pa_cN _ _ _ _ _ _ (@pv _ 0 _ _ (by rfl) vRea_0 (by decide) (by decide)) (@pa_nil _)) (by decide) (by rfl) (by rfl)) (by rfl) (by first | exact .inl rfl | exact .inr rfl | assumption))) (by rfl) mW ZW scRea.nd rfl leRea (fun x C' ox vs h1 h2 h3 h4 => (@pss_one _ _ _ (@ps_set _ _ 2 _ _ _ _ scRea.nd rfl lRea_2 (@pe_callH _ x C' ox vs _ _ _ _ _ _ _ _ _ _ _ GKi (Room.mark hr (by decide)) List.mem_cons_self rfl h1 h2 h3 h4 (by rfl) mKi kKi bKi (@pa_cons _ _ _ _ _ (@pv _ 3 _ _ (by rfl) vRea_3 (by decide) (by decide)) (@pa_nil _) (by rfl)) (by decide) (by rfl) (by rfl)) (by rfl) (by first | exact .inl rfl | exact .inr rfl | assumption)))) (by decide)) (@pss_one _ _ _ (@ps_ret _ _ _ _ (@pe_tup _ _ _ _ _ (@pa_cN _ _ _ _ _ _ (@pv _ 1 _ _ (by rfl) vRea_1 (by decide) (by decide)) (@pa_cN _ _ _ _ _ _ (@pv _ 2 _ _ (by rfl) vRea_2 (by decide) (by decide)) (@pa_nil _))))))))), ?_⟩
    rcases h with ⟨x, ex, hx, kn, ks⟩ | ⟨v, ev, hns, kn⟩
    · cases ex
      refine ⟨_, rfl, .inl ⟨x, rfl, hx, fun ts hts D1 H1 s1 hD hD1 => ?_, fun hnn H1 s1 => ⟨C9, rfl, sub9, fun x' hx' => ?_⟩⟩⟩
      · refine ⟨_, rfl, _, rfl, (by show 2 ≤ sizeLine; decide), fun q hq => ?_⟩
        exact ks ts hts q D1 _ (s1.trans (Same.new hq)) hD upd_same ((Same.new hq) _ _ hD1)
      · refine ⟨_, rfl, bsAt 9, rfl, kit9, by decide +kernel, fun H2 s2 => ?_⟩
        rw [kind_9]
        refine ⟨_, rfl, _, rfl, (by show 2 ≤ sizeLine; decide), fun q hq => ?_⟩
        exact kn hnn q _ (s1.trans (s2.trans (Same.new hq))) upd_same
    · cases ev
      refine ⟨_, rfl, .inr ⟨_, rfl, hns, fun H1 s1 => ⟨C9, rfl, sub9, fun x' hx' => ?_⟩⟩⟩
      refine ⟨_, rfl, bsAt 9, rfl, kit9, by decide +kernel, fun H2 s2 => ?_⟩
      rw [kind_9]
      refine ⟨_, rfl, _, rfl, (by show 2 ≤ sizeLine; decide), fun q hq => ?_⟩
      exact kn q _ (s1.trans (s2.trans (Same.new hq))) upd_same
theorem ifQ {d e : PyData} {A B : Prop} (h : PyData.eqv d e = true) (hb : B) : if (!PyData.eqv d e) = true then A else B := by
  rw [h]
  exact hb
theorem kllR : PySem.W.kitOne K (.type "list") (.type "list") = some true := rfl
def spRig (K : PySem.W.Frag) : Sp := fun vs H Q _ => ∃ v, vs = [v] ∧ ((∃ x : List Nat, v = .str (txt x) ∧ x.length ≤ 50000 ∧ Cp x) ∨ NoStr K H v) ∧ ∀ H', Same H H' → Q (.bl true) H'
theorem cal_rig {C9 : Addr} (D : Def K mg "_law_right" sRig psRig) (T : Txt mg) (CTi : Cal P w K mg base CX0 2 "_law_turns_in" ["text"] spTIn) (CRe : Cal P w K mg base CX0 3 "_law_read" ["text"] (spRea K)) (CRt : Cal P w K mg base (CX1 P w) 2 "read_turns" ["text"] (spRdT K C9)) (CWh : Cal P w K mg base CX0 1 "_law_whole" ["found"] spWhole) :
    Cal P w K mg base CX0 4 "_law_right" psRig (spRig K) := cal_mk D fun f fd F => by
  obtain ⟨fTi, dTi, GTi, kTi, bTi, mTi⟩ := CTi
  obtain ⟨fRe, dRe, GRe, kRe, bRe, mRe⟩ := CRe
  obtain ⟨fRt, dRt, GRt, kRt, bRt, mRt⟩ := CRt
  obtain ⟨fWh, dWh, GWh, kWh, bWh, mWh⟩ := CWh
  refine F.ok scRig (fun vs H Q E h => ?_) (fun cdv A outer s H vs Q E hr h => ?_)
  · obtain ⟨v, rfl, _⟩ := h
    rfl
  · obtain ⟨v, rfl, hv, k⟩ := h
    refine ⟨_, (@pss_cons _ _ _ _ _ (@ps_set _ _ 1 _ _ _ _ scRig.nd rfl lRig_1 (@pe_ifExp _ _ _ _ _ _ _ _ (@pt_val _ _ _ (@pe_callB _ _ _ _ _ _ _ _ _ cr_isi (by rfl) T.isi boot_isi (@pa_cN _ _ _ _ _ _ (@pv _ 0 _ _ (by rfl) vRig_0 (by decide) (by decide)) (@pa_cN _ _ _ _ _ _ (@pe_bltn _ _ (.ty "str") _ _ (by rfl) T.str (by decide +kernel) rfl (by decide) (by decide)) (@pa_nil _))) (by decide) (by decide) (by rfl) (by rfl)) (by intro _ ; rfl)) (@pe_call _ _ _ _ _ _ _ _ _ _ _ _ _ _ _ _ GTi (hr.mono (by decide)) (by rfl) mTi kTi bTi .nil pass0 (@pa_cN _ _ _ _ _ _ (@pv _ 0 _ _ (by rfl) vRig_0 (by decide) (by decide)) (@pa_nil _)) (by decide) (by rfl) (by rfl)) (@pe_non _ _ _)) (by rfl) (by first | exact .inl rfl | exact .inr rfl | assumption)) (@pss_cons _ _ _ _ _ (@ps_asg _ _ _ _ _ _ (@pe_call _ _ _ _ _ _ _ _ _ _ _ _ _ _ _ _ GRe (hr.mono (by decide)) (by rfl) mRe kRe bRe .nil pass0 (@pa_cN _ _ _ _ _ _ (@pv _ 0 _ _ (by rfl) vRig_0 (by decide) (by decide)) (@pa_nil _)) (by decide) (by rfl) (by rfl)) (@pg_tup _ _ _ _ _ _ rfl (@pgs_cons _ _ _ _ _ (@pg_name _ _ 2 _ scRig.nd rfl lRig_2 (by first | exact .inl rfl | exact .inr rfl | assumption)) (@pgs_cons _ _ _ _ _ (@pg_name _ _ 3 _ scRig.nd rfl lRig_3 (by first | exact .inl rfl | exact .inr rfl | assumption)) (@pgs_nil _) (by rfl)) (by rfl)) (by rfl) (by rfl)) (by rfl) (by rfl) (by rfl)) (@pss_cons _ _ _ _ _ (@ps_if _ _ _ _ _ _ _ _ (@pt_cmpR _ _ _ _ _ _ _ _ op_isN (@pv _ 1 _ _ (by rfl) vRig_1 (by decide) (by decide)) (@pe_non _ _ _) (nomark _)) (@pss_one _ _ _ (@ps_ret _ _ _ _ (@pe_and _ _ _ _ _ _ _ (@pe_cmpR _ _ _ _ _ _ _ _ op_isN (@pv _ 2 _ _ (by rfl) vRig_2 (by decide) (by decide)) (@pe_non _ _ _) (nomark _)) (@pe_one _ _ _ _ _ (@pe_cmpR _ _ _ _ _ _ _ _ op_eq (@pv _ 3 _ _ (by rfl) vRig_3 (by decide) (by decide)) (@pe_str _ _ _ _) (nomark _)))))) (@pss_nil _)) (@pss_cons _ _ _ _ _ (@ps_if _ _ _ _ _ _ _ _ (@PW.pt _ _ _ (@pw_or _ _ _ _ _ _ _ (@pt_cmpR _ _ _ _ _ _ _ _ op_ne (@pv _ 3 _ _ (by rfl) vRig_3 (by decide) (by decide)) (@pe_str _ _ _ _) (nomark _)) (@pw_or _ _ _ _ _ _ _ (@pt_not _ _ _ _ (@pt_val _ _ _ (@pe_callB _ _ _ _ _ _ _ _ _ cr_isi (by rfl) T.isi boot_isi (@pa_cN _ _ _ _ _ _ (@pv _ 2 _ _ (by rfl) vRig_2 (by decide) (by decide)) (@pa_cN _ _ _ _ _ _ (@pe_bltn _ _ (.ty "list") _ _ (by rfl) T.list (by decide +kernel) rfl (by decide) (by decide)) (@pa_nil _))) (by decide) (by decide) (by rfl) (by rfl)) (by intro _ ; rfl))) (@pw_or _ _ _ _ _ _ _ (@pt_cmpR _ _ _ _ _ _ _ _ (op_neD hr.units) (@pv _ 2 _ _ (by rfl) vRig_2 (by decide) (by decide)) (@pv _ 1 _ _ (by rfl) vRig_1 (by decide) (by decide)) (nomark _)) (@pw_or1 _ _ _ _ (@pt_cmpR _ _ _ _ _ _ _ _ op_in_seq (@pe_bl _ _ _ _) (@pe_lc _ _ _ _ _ _ [("turn", 4)] _ _ (gName 4) _ _ (by rfl) scRig.nd (@pi_list _ _ _ _ (@pv _ 2 _ _ (by rfl) vRig_2 (by decide) (by decide))) (blkOk_by (own := [("turn", 4)]) (N := ["text", "due", "found", "kind", "turn"]) (sc := defScope sRig) (by decide +kernel)) (fun _ _ _ _ _ => (@pg_name _ _ 4 _ scRig.nd rfl (Or.inl rfl) (by first | exact .inl rfl | exact .inr rfl | assumption))) (fun _ _ _ _ _ => (@pts_nil _)) (fun _ _ _ _ _ => (@pe_call _ _ _ _ _ _ _ _ _ _ _ _ _ _ _ _ GWh (hr.mono (by decide)) (by rfl) mWh kWh bWh .nil pass0 (@pa_cN _ _ _ _ _ _ (@pv _ 4 _ _ (by rfl) (by first | exact Or.inl rfl | exact Or.inr (Or.inl rfl) | exact Or.inr (Or.inr rfl)) (by decide) (by decide)) (@pa_nil _)) (by decide) (by rfl) (by rfl))) (by intro _ ; rfl)) rfl)))))) (@pss_one _ _ _ (@ps_ret _ _ _ _ (@pe_bl _ _ _ _))) (@pss_nil _)) (@pss_cons _ _ _ _ _ (@ps_expr _ _ _ _ (@pe_bm _ _ _ _ _ _ _ _ _ _ _ _ PySem.F.plainAttrs_list PySem.F.slot_list_append PySem.F.type_list_append mt_append (@pv _ 2 _ _ (by rfl) vRig_2 (by decide) (by decide)) (@pa_cC _ _ _ _ _ _ _ (@pe_int _ _ _ _) (@pa_nil _)) (by rfl) (by rfl) (by rfl) (by rfl) (by rfl)) (by rfl)) (@pss_one _ _ _ (@ps_ret _ _ _ _ (@pe_cmpR _ _ _ _ _ _ _ _ (op_eqD hr.units) (@pe_call _ _ _ _ _ _ _ _ _ _ _ _ _ _ _ _ GRt (hr.mono (by decide)) (by rfl) mRt kRt bRt .nil pass10 (@pa_cN _ _ _ _ _ _ (@pv _ 0 _ _ (by rfl) vRig_0 (by decide) (by decide)) (@pa_nil _)) (by decide) (by rfl) (by rfl)) (@pv _ 1 _ _ (by rfl) vRig_1 (by decide) (by decide)) (nomark _))))))))), ?_⟩
    rcases hv with ⟨x, rfl, hx, hcp⟩ | hns
    · refine ⟨_, rfl, _, _, _, _, _, rfl, TyOf.str _, rfl, kssT, _, rfl, ?_⟩
      refine iteT ?_
      refine ⟨_, rfl, x, rfl, hx, hcp, fun dv H1 s1 hdv => ?_⟩
      refine ⟨_, rfl, .inl ⟨x, rfl, hx, fun hn q H2 s2 hq => ?_, fun ts hts q D2 H2 s2 hD2 hq hDD => ?_⟩⟩
      · rw [hn] at hdv
        cases (show dv = .non from hdv)
        refine ⟨q, _, rfl, SqT.of hq, rfl, _, _, rfl, _, _, rfl, rfl, ?_⟩
        refine ⟨_, rfl, rfl, _, rfl, ?_⟩
        refine iteT ?_
        refine ⟨_, rfl, rfl, _, rfl, ?_⟩
        refine iteT ?_
        exact ⟨_, rfl, rfl, k H2 (s1.trans s2)⟩
      · rw [hts] at hdv
        obtain ⟨D1, rfl, hD1⟩ := hdv
        refine ⟨q, _, rfl, SqT.of hq, rfl, _, _, rfl, _, _, rfl, rfl, ?_⟩
        refine ⟨_, rfl, rfl, _, rfl, ?_⟩
        refine iteF ?_
        refine ⟨_, rfl, rfl, _, rfl, ?_⟩
        refine iteF ?_
        refine ⟨_, rfl, _, _, _, _, _, rfl, TyOf.lst hDD, rfl, kllR, _, rfl, ?_⟩
        refine iteF ?_
        have hD12 := s2 _ _ hD1
        refine ⟨_, rfl, _, rfl, dInts ts, dInts ts, Dp.ints (SqL.of hDD), Dp.ints (SqL.of hD12), (Sh.ints _).shaped, (Sh.ints _).shaped, _, rfl, ?_⟩
        refine ifQ (dInts_eqv ts) ?_
        have htl : ts.length ≤ 50010 := by
          have hts' := hts
          unfold rdT at hts'
          split at hts'
          · cases hts'; decide
          · split at hts'
            · have := (prts_ok x).2.1
              cases hts'
              rw [List.length_map]
              omega
            · cases hts'
        refine ⟨_, rfl, D2, rfl, ⟨_, SqL.of hDD⟩, fun W hW' => ?_⟩
        refine lc_listP (as := ts) (vf := V.int) (fun _ => true) (fun _ => V.bl true) (SqL.of hDD) hW' (small_ok (by omega)) ?_ ?_
        · intro t HE ht sE Qy Qn ky kn
          refine ⟨rfl, ?_⟩
          dsimp only [tYes]
          refine iteT ?_
          exact ⟨_, rfl, t, rfl, ky rfl _ (Same.refl _)⟩
        intro HE sE hWE
        refine ⟨W, _, rfl, .inl (SqL.of hWE), rfl, ?_, _, rfl, ?_⟩
        · rw [List.all_map]
          exact List.all_eq_true.mpr fun _ _ => rfl
        rw [List.filter_eq_self.mpr (fun _ _ => rfl)]
        rw [show (if false = true then !inV (V.bl false) (ts.map fun _ => V.bl true) else inV (V.bl false) (ts.map fun _ => V.bl true)) = false from inV_bools ts]
        refine iteF ?_
        have hDE := sE _ _ hDD
        refine ⟨_, rfl, .inl ⟨rfl, _, SqL.of hDE⟩, D2, _, _, rfl, rfl, hDE, by rw [List.length_map]; exact small_ok (by omega), ?_⟩
        have hD21 : D1 ≠ D2 := ne_of_none hD1 hD2
        have s1E := s1.trans (s2.trans sE)
        have hD2n : H D2 = none := s1.free hD2
        have hD1F : (upd HE D2 (.lst (ts.map V.int ++ [V.int 7]))) D1 = some (.lst (ts.map V.int)) := by
          rw [upd_ne hD21]
          exact sE _ _ hD12
        have sF := s1E.upd' (o := .lst (ts.map V.int ++ [V.int 7])) hD2n
        generalize upd HE D2 (.lst (ts.map V.int ++ [V.int 7])) = HF at hD1F sF ⊢
        refine ⟨_, rfl, .inl ⟨x, rfl, hx, fun ts' hts' D3 HG sG hD3 hDG => ?_, fun hnn => by rw [hts] at hnn; cases hnn⟩⟩
        rw [hts] at hts'
        cases hts'
        refine ⟨_, rfl, dInts ts, dInts ts, Dp.ints (SqL.of hDG), Dp.ints (SqL.of (sG _ _ hD1F)), (Sh.ints _).shaped, (Sh.ints _).shaped, ?_⟩
        rw [dInts_eqv ts]
        exact k HG (sF.trans sG)
    · refine ⟨_, rfl, _, _, _, _, _, rfl, hns.choose_spec.1, rfl, hns.choose_spec.2, _, rfl, ?_⟩
      refine iteF ?_
      refine ⟨_, rfl, .inr ⟨_, rfl, hns, fun q H2 s2 hq => ?_⟩⟩
      refine ⟨q, _, rfl, SqT.of hq, rfl, _, _, rfl, _, _, rfl, rfl, ?_⟩
      refine ⟨_, rfl, rfl, _, rfl, ?_⟩
      refine iteT ?_
      refine ⟨_, rfl, rfl, _, rfl, ?_⟩
      refine iteT ?_
      exact ⟨_, rfl, rfl, k H2 s2⟩
end
end W

set_option Elab.async false
set_option linter.all false
set_option maxRecDepth 100000
set_option maxHeartbeats 4000000
namespace W
open PySem L2 WM

abbrev sThi : Stmt := top 31
abbrev psThi : List Str := ["draws", "deep"]
theorem scThi : FnScope ["draws", "deep", "kind", "k", "some"] ["draws", "deep"] (defScope sThi) := ⟨rfl, rfl, rfl, by decide +kernel, rfl, by decide +kernel, by decide +kernel⟩
theorem lThi_0 : Loc (defScope sThi) "draws" := Or.inr (by decide +kernel)
theorem vThi_0 : Vis (defScope sThi) "draws" := Or.inr (Or.inl (by decide +kernel))
theorem lThi_1 : Loc (defScope sThi) "deep" := Or.inr (by decide +kernel)
theorem vThi_1 : Vis (defScope sThi) "deep" := Or.inr (Or.inl (by decide +kernel))
theorem lThi_2 : Loc (defScope sThi) "kind" := Or.inl (by decide +kernel)
theorem vThi_2 : Vis (defScope sThi) "kind" := Or.inl (by decide +kernel)
theorem lThi_4 : Loc (defScope sThi) "some" := Or.inl (by decide +kernel)
theorem vThi_4 : Vis (defScope sThi) "some" := Or.inl (by decide +kernel)
section
variable {P : Program} {w : World} {K : PySem.W.Frag} {mg : Str → Option Value} {base : Heap}
def ThingOk (K : PySem.W.Frag) (H : Hp) (v : V) : Prop := (∃ x : List Nat, v = .str (txt x) ∧ x.length ≤ 50000 ∧ Cp x) ∨ NoStr K H v
def spThi (K : PySem.W.Frag) (d : Nat) : Sp := fun vs H Q _ => ∃ (p : Addr) (dp : Int), vs = [.ref p, .int dp] ∧ DrAt H p ∧ dp ≤ (d : Int) ∧ ∀ v H', ThingOk K H' v → DrAt H' p → But p H H' → Q v H'
theorem kis : PySem.W.kitOne K (.type "int") (.type "str") = some false := rfl
theorem kbs : PySem.W.kitOne K (.type "bool") (.type "str") = some false := rfl
theorem kns : PySem.W.kitOne K (.type "NoneType") (.type "str") = some false := rfl
theorem kls : PySem.W.kitOne K (.type "list") (.type "str") = some false := rfl
theorem kts : PySem.W.kitOne K (.type "tuple") (.type "str") = some false := rfl
def spNo : Sp := fun _ _ _ _ => False
theorem cal_thi0 (D : Def K mg "_law_thing" sThi psThi) (T : Txt mg) (CDw : Cal P w K mg base CX0 1 "_law_draw" ["draws", "many"] spDraw) (CLe : Cal P w K mg base CX0 2 "_law_letters" ["draws", "many", "kinds"] spLetters) (CTh : Cal P w K mg base CX0 3 "_law_thing" psThi spNo) : Cal P w K mg base CX0 4 "_law_thing" psThi (spThi K 0) := cal_mk D fun f fd F => by
  obtain ⟨fDw, dDw, GDw, kDw, bDw, mDw⟩ := CDw
  obtain ⟨fLe, dLe, GLe, kLe, bLe, mLe⟩ := CLe
  obtain ⟨fTh, dTh, GTh, kTh, bTh, mTh⟩ := CTh
  refine F.ok scThi (fun vs H Q E h => ?_) (fun cdv A outer s H vs Q E hr h => ?_)
  · obtain ⟨p, dp, rfl, _⟩ := h
    rfl
  · obtain ⟨p, dp, rfl, D0, hdp, k⟩ := h
    refine ⟨_, (@pss_cons _ _ _ _ _ (@ps_set _ _ 2 _ _ _ _ scThi.nd rfl lThi_2 (@pe_call _ _ _ _ _ _ _ _ _ _ _ _ _ _ _ _ GDw (hr.mono (by decide)) (by rfl) mDw kDw bDw .nil pass0 (@pa_cN _ _ _ _ _ _ (@pv _ 0 _ _ (by rfl) vThi_0 (by decide) (by decide)) (@pa_cC _ _ _ _ _ _ _ (@pe_int _ _ _ _) (@pa_nil _))) (by decide) (by rfl) (by rfl)) (by rfl) (by first | exact .inl rfl | exact .inr rfl | assumption)) (@pss_cons _ _ _ _ _ (@ps_if _ _ _ _ _ _ _ _ (@pt_cmpR _ _ _ _ _ _ _ _ op_lt (@pv _ 2 _ _ (by rfl) vThi_2 (by decide) (by decide)) (@pe_int _ _ _ _) (nomark _)) (@pss_one _ _ _ (@ps_ret _ _ _ _ (@pe_ix _ _ _ _ _ _ _ ix_list (@pe_lst _ _ _ _ (@pa_cB _ _ _ _ _ _ _ _ (@pe_op _ _ _ _ _ _ _ _ op_sub (@pe_call _ _ _ _ _ _ _ _ _ _ _ _ _ _ _ _ GDw (hr.mono (by decide)) (by rfl) mDw kDw bDw .nil pass0 (@pa_cN _ _ _ _ _ _ (@pv _ 0 _ _ (by rfl) vThi_0 (by decide) (by decide)) (@pa_cC _ _ _ _ _ _ _ (@pe_int _ _ _ _) (@pa_nil _))) (by decide) (by rfl) (by rfl)) (@pe_int _ _ _ _)) (@pa_cB _ _ _ _ _ _ _ _ (@pe_op _ _ _ _ _ _ _ _ op_sub (@pe_int _ _ _ _) (@pe_op _ _ _ _ _ _ _ _ op_pow (@pe_int _ _ _ _) (@pe_int _ _ _ _))) (@pa_cK _ _ _ _ _ _ _ _ (@pe_call _ _ _ _ _ _ _ _ _ _ _ _ _ _ _ _ GDw (hr.mono (by decide)) (by rfl) mDw kDw bDw .nil pass0 (@pa_cN _ _ _ _ _ _ (@pv _ 0 _ _ (by rfl) vThi_0 (by decide) (by decide)) (@pa_cB _ _ _ _ _ _ _ _ (@pe_op _ _ _ _ _ _ _ _ op_pow (@pe_int _ _ _ _) (@pe_int _ _ _ _)) (@pa_nil _))) (by decide) (by rfl) (by rfl)) (@pa_nil _))))) (@pv _ 2 _ _ (by rfl) vThi_2 (by decide) (by decide)) (fun _ _ => rfl)))) (@pss_nil _)) (@pss_cons _ _ _ _ _ (@ps_if _ _ _ _ _ _ _ _ (@pt_cmpR _ _ _ _ _ _ _ _ op_lt (@pv _ 2 _ _ (by rfl) vThi_2 (by decide) (by decide)) (@pe_int _ _ _ _) (nomark _)) (@pss_one _ _ _ (@ps_ret _ _ _ _ (@pe_ix _ _ _ _ _ _ _ ix_list (@pe_lst _ _ _ _ (@pa_cC _ _ _ _ _ _ _ (@pe_bl _ _ _ _) (@pa_cC _ _ _ _ _ _ _ (@pe_bl _ _ _ _) (@pa_cC _ _ _ _ _ _ _ (@pe_non _ _ _) (@pa_nil _))))) (@pe_op _ _ _ _ _ _ _ _ op_sub (@pv _ 2 _ _ (by rfl) vThi_2 (by decide) (by decide)) (@pe_int _ _ _ _)) (fun _ _ => rfl)))) (@pss_nil _)) (@pss_cons _ _ _ _ _ (@ps_if _ _ _ _ _ _ _ _ (@pt_cmpR _ _ _ _ _ _ _ _ op_lt (@pv _ 2 _ _ (by rfl) vThi_2 (by decide) (by decide)) (@pe_int _ _ _ _) (nomark _)) (@pss_one _ _ _ (@ps_ret _ _ _ _ (@pe_call _ _ _ _ _ _ _ _ _ _ _ _ _ _ _ _ GLe (hr.mono (by decide)) (by rfl) mLe kLe bLe .nil pass0 (@pa_cN _ _ _ _ _ _ (@pv _ 0 _ _ (by rfl) vThi_0 (by decide) (by decide)) (@pa_cK _ _ _ _ _ _ _ _ (@pe_call _ _ _ _ _ _ _ _ _ _ _ _ _ _ _ _ GDw (hr.mono (by decide)) (by rfl) mDw kDw bDw .nil pass0 (@pa_cN _ _ _ _ _ _ (@pv _ 0 _ _ (by rfl) vThi_0 (by decide) (by decide)) (@pa_cC _ _ _ _ _ _ _ (@pe_int _ _ _ _) (@pa_nil _))) (by decide) (by rfl) (by rfl)) (@pa_cC _ _ _ _ _ _ _ (@pe_int _ _ _ _) (@pa_nil _)))) (by decide) (by rfl) (by rfl)))) (@pss_nil _)) (@pss_cons _ _ _ _ _ (@ps_setLc _ 4 _ _ _ _ _ _ _ [("k", 3)] _ _ _ (gName 3) _ _ (by rfl) scThi.nd rfl rfl (sw_true rfl rfl rfl (by decide +kernel)) (@pi_range1 _ _ _ _ _ _ (by rfl) T.range (@pa_cB _ _ _ _ _ _ _ _ (@pe_op _ _ _ _ _ _ _ _ op_mul (@pe_call _ _ _ _ _ _ _ _ _ _ _ _ _ _ _ _ GDw (hr.mono (by decide)) (by rfl) mDw kDw bDw .nil pass0 (@pa_cN _ _ _ _ _ _ (@pv _ 0 _ _ (by rfl) vThi_0 (by decide) (by decide)) (@pa_cC _ _ _ _ _ _ _ (@pe_int _ _ _ _) (@pa_nil _))) (by decide) (by rfl) (by rfl)) (@pe_callTy _ _ _ _ _ _ _ _ _ call_int1 (by rfl) T.int (by decide +kernel) (@pa_cQ _ _ _ _ _ _ _ _ (@pe_cmpR _ _ _ _ _ _ _ _ op_gt (@pv _ 1 _ _ (by rfl) vThi_1 (by decide) (by decide)) (@pe_int _ _ _ _) (nomark _)) (@pa_nil _)) (by decide) (by decide) (by rfl) (by rfl))) (@pa_nil _)) (by rfl)) (blkOk_by (own := [("k", 3)]) (N := ["draws", "deep", "kind", "k", "some"]) (sc := defScope sThi) (by decide +kernel)) (fun _ _ _ _ _ => (@pg_name _ _ 3 _ scThi.nd rfl (Or.inl rfl) (by first | exact .inl rfl | exact .inr rfl | assumption))) (fun _ _ _ _ _ => (@pts_nil _)) (fun _ _ _ _ _ => (@pe_call _ _ _ _ _ _ _ _ _ _ _ _ _ _ _ _ GTh (hr.mono (by decide)) (by rfl) mTh kTh bTh .nil pass0 (@pa_cN _ _ _ _ _ _ (@pv _ 0 _ _ (by rfl) (by first | exact Or.inl rfl | exact Or.inr (Or.inl rfl) | exact Or.inr (Or.inr rfl)) (by decide) (by decide)) (@pa_cB _ _ _ _ _ _ _ _ (@pe_op _ _ _ _ _ _ _ _ op_sub (@pv _ 1 _ _ (by rfl) (by first | exact Or.inl rfl | exact Or.inr (Or.inl rfl) | exact Or.inr (Or.inr rfl)) (by decide) (by decide)) (@pe_int _ _ _ _)) (@pa_nil _))) (by decide) (by rfl) (by rfl))) (by intro _ ; rfl)) (@pss_one _ _ _ (@ps_ret _ _ _ _ (@pe_ifExp _ _ _ _ _ _ _ _ (@pt_cmpR _ _ _ _ _ _ _ _ op_eq (@pv _ 2 _ _ (by rfl) vThi_2 (by decide) (by decide)) (@pe_int _ _ _ _) (nomark _)) (@pv _ 4 _ _ (by rfl) vThi_4 (by decide) (by decide)) (@pe_callTy _ _ _ _ _ _ _ _ _ call_tuple_of (by rfl) T.tuple (by decide +kernel) (@pa_cN _ _ _ _ _ _ (@pv _ 4 _ _ (by rfl) vThi_4 (by decide) (by decide)) (@pa_nil _)) (by decide) (by decide) (by rfl) (by rfl)))))))))), ?_⟩
    refine ⟨_, rfl, p, 11, rfl, D0, by omega, by omega, fun kd H1 k0 k11 D1 B1 => ?_⟩
    have fin : ∀ {H' v}, ThingOk K H' v → DrAt H' p → But p H H' → Q v H' := fun a b c => k _ _ a b c
    refine ⟨_, rfl, _, _, rfl, rfl, _, rfl, ?_⟩
    by_cases h3 : kd < 3
    · rw [decide_eq_true h3]
      refine iteT ?_
      refine ⟨_, rfl, p, 9, rfl, D1, by omega, by omega, fun r H2 r0 r9 D2 B2 => ?_⟩
      refine ⟨_, _, rfl, rfl, _, _, rfl, rfl, ⟨by decide, by decide, by decide⟩, _, _, rfl, rfl, ?_⟩
      refine ⟨_, rfl, _, _, rfl, rfl, ⟨by decide, by decide, by decide⟩, p, _, rfl, D2, by decide, by decide, fun r2 H3 r20 r29 D3 B3 => ?_⟩
      refine ⟨(by show 3 ≤ sizeLine; decide), fun L hL => ?_⟩
      obtain ⟨v, hv, hv'⟩ := at3 (a := .int (r - 4)) (b := .int (0 - (10 : Int) ^ (39 : Int).toNat)) (c := .int r2) k0 h3
      refine ⟨_, rfl, L, _, _, _, rfl, rfl, SqL.of upd_same, hv, ?_⟩
      refine fin (.inr ?_) (D3.new hL) (B1.trans (B2.trans (B3.trans (But.new hL))))
      rcases hv' with rfl | rfl | rfl <;> exact ⟨_, TyOf.int _, kis⟩
    rw [decide_eq_false h3]
    refine iteF ?_
    refine ⟨_, rfl, _, _, rfl, rfl, _, rfl, ?_⟩
    by_cases h6 : kd < 6
    · rw [decide_eq_true h6]
      refine iteT ?_
      refine ⟨(by show 3 ≤ sizeLine; decide), fun L hL => ?_⟩
      obtain ⟨v, hv, hv'⟩ := at3 (a := .bl true) (b := .bl false) (c := .non) (z := kd - 3) (by omega) (by omega)
      refine ⟨_, rfl, _, _, rfl, rfl, L, _, _, _, rfl, rfl, SqL.of upd_same, hv, ?_⟩
      refine fin (.inr ?_) (D1.new hL) (B1.trans (But.new hL))
      rcases hv' with rfl | rfl | rfl
      · exact ⟨_, TyOf.bl _, kbs⟩
      · exact ⟨_, TyOf.bl _, kbs⟩
      · exact ⟨_, TyOf.non, kns⟩
    rw [decide_eq_false h6]
    refine iteF ?_
    refine ⟨_, rfl, _, _, rfl, rfl, _, rfl, ?_⟩
    by_cases h9 : kd < 9
    · rw [decide_eq_true h9]
      refine iteT ?_
      refine ⟨_, rfl, _, rfl, p, 4, rfl, D1, by omega, by omega, fun r H2 r0 r9 D2 B2 => ?_⟩
      refine ⟨p, r, 3, rfl, D2, by omega, by omega, by decide, by decide, fun l H3 hl hlow D3 B3 => ?_⟩
      exact fin (.inl ⟨l, rfl, by omega, Low.cp hlow⟩) D3 (B1.trans (B2.trans B3))
    rw [decide_eq_false h9]
    refine iteF ?_
    refine ⟨_, rfl, p, 4, rfl, D1, by omega, by omega, fun r H2 r0 r4 D2 B2 => ?_⟩
    refine ⟨_, rfl, _, _, rfl, rfl, .inr ⟨_, rfl, ?_⟩⟩
    have hcnt : ∃ m : Int, r * (if decide (0 < dp) = true then (1 : Int) else 0) = m ∧ 0 ≤ m ∧ m < 4 ∧ (0 < m → 0 < dp) := by
      by_cases hdp0 : 0 < dp
      · exact ⟨r, by rw [decide_eq_true hdp0, if_pos rfl, Int.mul_one], r0, r4, fun _ => hdp0⟩
      · exact ⟨0, by rw [decide_eq_false hdp0, if_neg Bool.false_ne_true, Int.mul_zero], by decide, by decide, fun z => absurd z (by decide)⟩
    obtain ⟨m, hm, m0, m4, mpos⟩ := hcnt
    refine ⟨_, _, rfl, rfl, .inr (by split <;> exact ⟨by decide, by decide⟩), ?_⟩
    refine ⟨m, by rw [← hm], by omega, by omega, fun D hD => ?_⟩
    refine lc_rangeD (p := p) (fun _ => True) D2 hD (small1000 (by omega)) ?_ ?_ yes_mono name_mono
    · intro i H' hi D' B' _ Qy ky
      refine ⟨rfl, rfl, ?_⟩
      have hdp0 := mpos (by omega)
      omega
    intro H3 ys hyl hyR D3 B3 hD3
    have B03 := B1.trans (B2.trans B3)
    refine ⟨_, rfl, rfl, _, rfl, ?_⟩
    by_cases e9 : kd = 9
    · rw [decide_eq_true (show V.int kd = V.int 9 by rw [e9])]
      refine iteT ?_
      exact ⟨_, rfl, fin (.inr ⟨_, TyOf.lst hD3, kls⟩) D3 B03⟩
    · rw [decide_eq_false (show ¬ V.int kd = V.int 9 from fun z => e9 (V.int.inj z))]
      refine iteF ?_
      refine ⟨_, rfl, D, _, rfl, .inl ⟨SqL.of hD3, fun q hq => ?_⟩⟩
      exact fin (.inr ⟨_, TyOf.tup upd_same, kts⟩) (D3.new hq) (B03.trans (But.new hq))
theorem cal_thi1 (D : Def K mg "_law_thing" sThi psThi) (T : Txt mg) (CDw : Cal P w K mg base CX0 1 "_law_draw" ["draws", "many"] spDraw) (CLe : Cal P w K mg base CX0 2 "_law_letters" ["draws", "many", "kinds"] spLetters) (CTh : Cal P w K mg base CX0 4 "_law_thing" psThi (spThi K 0)) : Cal P w K mg base CX0 5 "_law_thing" psThi (spThi K 1) := cal_mk D fun f fd F => by
  obtain ⟨fDw, dDw, GDw, kDw, bDw, mDw⟩ := CDw
  obtain ⟨fLe, dLe, GLe, kLe, bLe, mLe⟩ := CLe
  obtain ⟨fTh, dTh, GTh, kTh, bTh, mTh⟩ := CTh
  refine F.ok scThi (fun vs H Q E h => ?_) (fun cdv A outer s H vs Q E hr h => ?_)
  · obtain ⟨p, dp, rfl, _⟩ := h
    rfl
  · obtain ⟨p, dp, rfl, D0, hdp, k⟩ := h
    refine ⟨_, (@pss_cons _ _ _ _ _ (@ps_set _ _ 2 _ _ _ _ scThi.nd rfl lThi_2 (@pe_call _ _ _ _ _ _ _ _ _ _ _ _ _ _ _ _ GDw (hr.mono (by decide)) (by rfl) mDw kDw bDw .nil pass0 (@pa_cN _ _ _ _ _ _ (@pv _ 0 _ _ (by rfl) vThi_0 (by decide) (by decide)) (@pa_cC _ _ _ _ _ _ _ (@pe_int _ _ _ _) (@pa_nil _))) (by decide) (by rfl) (by rfl)) (by rfl) (by first | exact .inl rfl | exact .inr rfl | assumption)) (@pss_cons _ _ _ _ _ (@ps_if _ _ _ _ _ _ _ _ (@pt_cmpR _ _ _ _ _ _ _ _ op_lt (@pv _ 2 _ _ (by rfl) vThi_2 (by decide) (by decide)) (@pe_int _ _ _ _) (nomark _)) (@pss_one _ _ _ (@ps_ret _ _ _ _ (@pe_ix _ _ _ _ _ _ _ ix_list (@pe_lst _ _ _ _ (@pa_cB _ _ _ _ _ _ _ _ (@pe_op _ _ _ _ _ _ _ _ op_sub (@pe_call _ _ _ _ _ _ _ _ _ _ _ _ _ _ _ _ GDw (hr.mono (by decide)) (by rfl) mDw kDw bDw .nil pass0 (@pa_cN _ _ _ _ _ _ (@pv _ 0 _ _ (by rfl) vThi_0 (by decide) (by decide)) (@pa_cC _ _ _ _ _ _ _ (@pe_int _ _ _ _) (@pa_nil _))) (by decide) (by rfl) (by rfl)) (@pe_int _ _ _ _)) (@pa_cB _ _ _ _ _ _ _ _ (@pe_op _ _ _ _ _ _ _ _ op_sub (@pe_int _ _ _ _) (@pe_op _ _ _ _ _ _ _ _ op_pow (@pe_int _ _ _ _) (@pe_int _ _ _ _))) (@pa_cK _ _ _ _ _ _ _ _ (@pe_call _ _ _ _ _ _ _ _ _ _ _ _ _ _ _ _ GDw (hr.mono (by decide)) (by rfl) mDw kDw bDw .nil pass0 (@pa_cN _ _ _ _ _ _ (@pv _ 0 _ _ (by rfl) vThi_0 (by decide) (by decide)) (@pa_cB _ _ _ _ _ _ _ _ (@pe_op _ _ _ _ _ _ _ _ op_pow (@pe_int _ _ _ _) (@pe_int _ _ _ _)) (@pa_nil _))) (by decide) (by rfl) (by rfl)) (@pa_nil _))))) (@pv _ 2 _ _ (by rfl) vThi_2 (by decide) (by decide)) (fun _ _ => rfl)))) (@pss_nil _)) (@pss_cons _ _ _ _ _ (@ps_if _ _ _ _ _ _ _ _ (@pt_cmpR _ _ _ _ _ _ _ _ op_lt (@pv _ 2 _ _ (by rfl) vThi_2 (by decide) (by decide)) (@pe_int _ _ _ _) (nomark _)) (@pss_one _ _ _ (@ps_ret _ _ _ _ (@pe_ix _ _ _ _ _ _ _ ix_list (@pe_lst _ _ _ _ (@pa_cC _ _ _ _ _ _ _ (@pe_bl _ _ _ _) (@pa_cC _ _ _ _ _ _ _ (@pe_bl _ _ _ _) (@pa_cC _ _ _ _ _ _ _ (@pe_non _ _ _) (@pa_nil _))))) (@pe_op _ _ _ _ _ _ _ _ op_sub (@pv _ 2 _ _ (by rfl) vThi_2 (by decide) (by decide)) (@pe_int _ _ _ _)) (fun _ _ => rfl)))) (@pss_nil _)) (@pss_cons _ _ _ _ _ (@ps_if _ _ _ _ _ _ _ _ (@pt_cmpR _ _ _ _ _ _ _ _ op_lt (@pv _ 2 _ _ (by rfl) vThi_2 (by decide) (by decide)) (@pe_int _ _ _ _) (nomark _)) (@pss_one _ _ _ (@ps_ret _ _ _ _ (@pe_call _ _ _ _ _ _ _ _ _ _ _ _ _ _ _ _ GLe (hr.mono (by decide)) (by rfl) mLe kLe bLe .nil pass0 (@pa_cN _ _ _ _ _ _ (@pv _ 0 _ _ (by rfl) vThi_0 (by decide) (by decide)) (@pa_cK _ _ _ _ _ _ _ _ (@pe_call _ _ _ _ _ _ _ _ _ _ _ _ _ _ _ _ GDw (hr.mono (by decide)) (by rfl) mDw kDw bDw .nil pass0 (@pa_cN _ _ _ _ _ _ (@pv _ 0 _ _ (by rfl) vThi_0 (by decide) (by decide)) (@pa_cC _ _ _ _ _ _ _ (@pe_int _ _ _ _) (@pa_nil _))) (by decide) (by rfl) (by rfl)) (@pa_cC _ _ _ _ _ _ _ (@pe_int _ _ _ _) (@pa_nil _)))) (by decide) (by rfl) (by rfl)))) (@pss_nil _)) (@pss_cons _ _ _ _ _ (@ps_setLc _ 4 _ _ _ _ _ _ _ [("k", 3)] _ _ _ (gName 3) _ _ (by rfl) scThi.nd rfl rfl (sw_true rfl rfl rfl (by decide +kernel)) (@pi_range1 _ _ _ _ _ _ (by rfl) T.range (@pa_cB _ _ _ _ _ _ _ _ (@pe_op _ _ _ _ _ _ _ _ op_mul (@pe_call _ _ _ _ _ _ _ _ _ _ _ _ _ _ _ _ GDw (hr.mono (by decide)) (by rfl) mDw kDw bDw .nil pass0 (@pa_cN _ _ _ _ _ _ (@pv _ 0 _ _ (by rfl) vThi_0 (by decide) (by decide)) (@pa_cC _ _ _ _ _ _ _ (@pe_int _ _ _ _) (@pa_nil _))) (by decide) (by rfl) (by rfl)) (@pe_callTy _ _ _ _ _ _ _ _ _ call_int1 (by rfl) T.int (by decide +kernel) (@pa_cQ _ _ _ _ _ _ _ _ (@pe_cmpR _ _ _ _ _ _ _ _ op_gt (@pv _ 1 _ _ (by rfl) vThi_1 (by decide) (by decide)) (@pe_int _ _ _ _) (nomark _)) (@pa_nil _)) (by decide) (by decide) (by rfl) (by rfl))) (@pa_nil _)) (by rfl)) (blkOk_by (own := [("k", 3)]) (N := ["draws", "deep", "kind", "k", "some"]) (sc := defScope sThi) (by decide +kernel)) (fun _ _ _ _ _ => (@pg_name _ _ 3 _ scThi.nd rfl (Or.inl rfl) (by first | exact .inl rfl | exact .inr rfl | assumption))) (fun _ _ _ _ _ => (@pts_nil _)) (fun _ _ _ _ _ => (@pe_call _ _ _ _ _ _ _ _ _ _ _ _ _ _ _ _ GTh (hr.mono (by decide)) (by rfl) mTh kTh bTh .nil pass0 (@pa_cN _ _ _ _ _ _ (@pv _ 0 _ _ (by rfl) (by first | exact Or.inl rfl | exact Or.inr (Or.inl rfl) | exact Or.inr (Or.inr rfl)) (by decide) (by decide)) (@pa_cB _ _ _ _ _ _ _ _ (@pe_op _ _ _ _ _ _ _ _ op_sub (@pv _ 1 _ _ (by rfl) (by first | exact Or.inl rfl | exact Or.inr (Or.inl rfl) | exact Or.inr (Or.inr rfl)) (by decide) (by decide)) (@pe_int _ _ _ _)) (@pa_nil _))) (by decide) (by rfl) (by rfl))) (by intro _ ; rfl)) (@pss_one _ _ _ (@ps_ret _ _ _ _ (@pe_ifExp _ _ _ _ _ _ _ _ (@pt_cmpR _ _ _ _ _ _ _ _ op_eq (@pv _ 2 _ _ (by rfl) vThi_2 (by decide) (by decide)) (@pe_int _ _ _ _) (nomark _)) (@pv _ 4 _ _ (by rfl) vThi_4 (by decide) (by decide)) (@pe_callTy _ _ _ _ _ _ _ _ _ call_tuple_of (by rfl) T.tuple (by decide +kernel) (@pa_cN _ _ _ _ _ _ (@pv _ 4 _ _ (by rfl) vThi_4 (by decide) (by decide)) (@pa_nil _)) (by decide) (by decide) (by rfl) (by rfl)))))))))), ?_⟩
    refine ⟨_, rfl, p, 11, rfl, D0, by omega, by omega, fun kd H1 k0 k11 D1 B1 => ?_⟩
    have fin : ∀ {H' v}, ThingOk K H' v → DrAt H' p → But p H H' → Q v H' := fun a b c => k _ _ a b c
    refine ⟨_, rfl, _, _, rfl, rfl, _, rfl, ?_⟩
    by_cases h3 : kd < 3
    · rw [decide_eq_true h3]
      refine iteT ?_
      refine ⟨_, rfl, p, 9, rfl, D1, by omega, by omega, fun r H2 r0 r9 D2 B2 => ?_⟩
      refine ⟨_, _, rfl, rfl, _, _, rfl, rfl, ⟨by decide, by decide, by decide⟩, _, _, rfl, rfl, ?_⟩
      refine ⟨_, rfl, _, _, rfl, rfl, ⟨by decide, by decide, by decide⟩, p, _, rfl, D2, by decide, by decide, fun r2 H3 r20 r29 D3 B3 => ?_⟩
      refine ⟨(by show 3 ≤ sizeLine; decide), fun L hL => ?_⟩
      obtain ⟨v, hv, hv'⟩ := at3 (a := .int (r - 4)) (b := .int (0 - (10 : Int) ^ (39 : Int).toNat)) (c := .int r2) k0 h3
      refine ⟨_, rfl, L, _, _, _, rfl, rfl, SqL.of upd_same, hv, ?_⟩
      refine fin (.inr ?_) (D3.new hL) (B1.trans (B2.trans (B3.trans (But.new hL))))
      rcases hv' with rfl | rfl | rfl <;> exact ⟨_, TyOf.int _, kis⟩
    rw [decide_eq_false h3]
    refine iteF ?_
    refine ⟨_, rfl, _, _, rfl, rfl, _, rfl, ?_⟩
    by_cases h6 : kd < 6
    · rw [decide_eq_true h6]
      refine iteT ?_
      refine ⟨(by show 3 ≤ sizeLine; decide), fun L hL => ?_⟩
      obtain ⟨v, hv, hv'⟩ := at3 (a := .bl true) (b := .bl false) (c := .non) (z := kd - 3) (by omega) (by omega)
      refine ⟨_, rfl, _, _, rfl, rfl, L, _, _, _, rfl, rfl, SqL.of upd_same, hv, ?_⟩
      refine fin (.inr ?_) (D1.new hL) (B1.trans (But.new hL))
      rcases hv' with rfl | rfl | rfl
      · exact ⟨_, TyOf.bl _, kbs⟩
      · exact ⟨_, TyOf.bl _, kbs⟩
      · exact ⟨_, TyOf.non, kns⟩
    rw [decide_eq_false h6]
    refine iteF ?_
    refine ⟨_, rfl, _, _, rfl, rfl, _, rfl, ?_⟩
    by_cases h9 : kd < 9
    · rw [decide_eq_true h9]
      refine iteT ?_
      refine ⟨_, rfl, _, rfl, p, 4, rfl, D1, by omega, by omega, fun r H2 r0 r9 D2 B2 => ?_⟩
      refine ⟨p, r, 3, rfl, D2, by omega, by omega, by decide, by decide, fun l H3 hl hlow D3 B3 => ?_⟩
      exact fin (.inl ⟨l, rfl, by omega, Low.cp hlow⟩) D3 (B1.trans (B2.trans B3))
    rw [decide_eq_false h9]
    refine iteF ?_
    refine ⟨_, rfl, p, 4, rfl, D1, by omega, by omega, fun r H2 r0 r4 D2 B2 => ?_⟩
    refine ⟨_, rfl, _, _, rfl, rfl, .inr ⟨_, rfl, ?_⟩⟩
    have hcnt : ∃ m : Int, r * (if decide (0 < dp) = true then (1 : Int) else 0) = m ∧ 0 ≤ m ∧ m < 4 ∧ (0 < m → 0 < dp) := by
      by_cases hdp0 : 0 < dp
      · exact ⟨r, by rw [decide_eq_true hdp0, if_pos rfl, Int.mul_one], r0, r4, fun _ => hdp0⟩
      · exact ⟨0, by rw [decide_eq_false hdp0, if_neg Bool.false_ne_true, Int.mul_zero], by decide, by decide, fun z => absurd z (by decide)⟩
    obtain ⟨m, hm, m0, m4, mpos⟩ := hcnt
    refine ⟨_, _, rfl, rfl, .inr (by split <;> exact ⟨by decide, by decide⟩), ?_⟩
    refine ⟨m, by rw [← hm], by omega, by omega, fun D hD => ?_⟩
    refine lc_rangeD (p := p) (fun _ => True) D2 hD (small1000 (by omega)) ?_ ?_ yes_mono name_mono
    · intro i H' hi D' B' _ Qy ky
      refine ⟨rfl, rfl, ?_⟩
      have hdp0 := mpos (by omega)
      exact ⟨_, rfl, _, rfl, _, _, rfl, rfl, p, dp - 1, rfl, D', by omega, fun v H'' hv D'' B'' => ky _ _ trivial D'' B''⟩
    intro H3 ys hyl hyR D3 B3 hD3
    have B03 := B1.trans (B2.trans B3)
    refine ⟨_, rfl, rfl, _, rfl, ?_⟩
    by_cases e9 : kd = 9
    · rw [decide_eq_true (show V.int kd = V.int 9 by rw [e9])]
      refine iteT ?_
      exact ⟨_, rfl, fin (.inr ⟨_, TyOf.lst hD3, kls⟩) D3 B03⟩
    · rw [decide_eq_false (show ¬ V.int kd = V.int 9 from fun z => e9 (V.int.inj z))]
      refine iteF ?_
      refine ⟨_, rfl, D, _, rfl, .inl ⟨SqL.of hD3, fun q hq => ?_⟩⟩
      exact fin (.inr ⟨_, TyOf.tup upd_same, kts⟩) (D3.new hq) (B03.trans (But.new hq))
theorem cal_thi2 (D : Def K mg "_law_thing" sThi psThi) (T : Txt mg) (CDw : Cal P w K mg base CX0 1 "_law_draw" ["draws", "many"] spDraw) (CLe : Cal P w K mg base CX0 2 "_law_letters" ["draws", "many", "kinds"] spLetters) (CTh : Cal P w K mg base CX0 5 "_law_thing" psThi (spThi K 1)) : Cal P w K mg base CX0 6 "_law_thing" psThi (spThi K 2) := cal_mk D fun f fd F => by
  obtain ⟨fDw, dDw, GDw, kDw, bDw, mDw⟩ := CDw
  obtain ⟨fLe, dLe, GLe, kLe, bLe, mLe⟩ := CLe
  obtain ⟨fTh, dTh, GTh, kTh, bTh, mTh⟩ := CTh
  refine F.ok scThi (fun vs H Q E h => ?_) (fun cdv A outer s H vs Q E hr h => ?_)
  · obtain ⟨p, dp, rfl, _⟩ := h
    rfl
  · obtain ⟨p, dp, rfl, D0, hdp, k⟩ := h
    refine ⟨_, (@pss_cons _ _ _ _ _ (@ps_set _ _ 2 _ _ _ _ scThi.nd rfl lThi_2 (@pe_call _ _ _ _ _ _ _ _ _ _ _ _ _ _ _ _ GDw (hr.mono (by decide)) (by rfl) mDw kDw bDw .nil pass0 (@pa_cN _ _ _ _ _ _ (@pv _ 0 _ _ (by rfl) vThi_0 (by decide) (by decide)) (@pa_cC _ _ _ _ _ _ _ (@pe_int _ _ _ _) (@pa_nil _))) (by decide) (by rfl) (by rfl)) (by rfl) (by first | exact .inl rfl | exact .inr rfl | assumption)) (@pss_cons _ _ _ _ _ (@ps_if _ _ _ _ _ _ _ _ (@pt_cmpR _ _ _ _ _ _ _ _ op_lt (@pv _ 2 _ _ (by rfl) vThi_2 (by decide) (by decide)) (@pe_int _ _ _ _) (nomark _)) (@pss_one _ _ _ (@ps_ret _ _ _ _ (@pe_ix _ _ _ _ _ _ _ ix_list (@pe_lst _ _ _ _ (@pa_cB _ _ _ _ _ _ _ _ (@pe_op _ _ _ _ _ _ _ _ op_sub (@pe_call _ _ _ _ _ _ _ _ _ _ _ _ _ _ _ _ GDw (hr.mono (by decide)) (by rfl) mDw kDw bDw .nil pass0 (@pa_cN _ _ _ _ _ _ (@pv _ 0 _ _ (by rfl) vThi_0 (by decide) (by decide)) (@pa_cC _ _ _ _ _ _ _ (@pe_int _ _ _ _) (@pa_nil _))) (by decide) (by rfl) (by rfl)) (@pe_int _ _ _ _)) (@pa_cB _ _ _ _ _ _ _ _ (@pe_op _ _ _ _ _ _ _ _ op_sub (@pe_int _ _ _ _) (@pe_op _ _ _ _ _ _ _ _ op_pow (@pe_int _ _ _ _) (@pe_int _ _ _ _))) (@pa_cK _ _ _ _ _ _ _ _ (@pe_call _ _ _ _ _ _ _ _ _ _ _ _ _ _ _ _ GDw (hr.mono (by decide)) (by rfl) mDw kDw bDw .nil pass0 (@pa_cN _ _ _ _ _ _ (@pv _ 0 _ _ (by rfl) vThi_0 (by decide) (by decide)) (@pa_cB _ _ _ _ _ _ _ _ (@pe_op _ _ _ _ _ _ _ _ op_pow (@pe_int _ _ _ _) (@pe_int _ _ _ _)) (@pa_nil _))) (by decide) (by rfl) (by rfl)) (@pa_nil _))))) (@pv _ 2 _ _ (by rfl) vThi_2 (by decide) (by decide)) (fun _ _ => rfl)))) (@pss_nil _)) (@pss_cons _ _ _ _ _ (@ps_if _ _ _ _ _ _ _ _ (@pt_cmpR _ _ _ _ _ _ _ _ op_lt (@pv _ 2 _ _ (by rfl) vThi_2 (by decide) (by decide)) (@pe_int _ _ _ _) (nomark _)) (@pss_one _ _ _ (@ps_ret _ _ _ _ (@pe_ix _ _ _ _ _ _ _ ix_list (@pe_lst _ _ _ _ (@pa_cC _ _ _ _ _ _ _ (@pe_bl _ _ _ _) (@pa_cC _ _ _ _ _ _ _ (@pe_bl _ _ _ _) (@pa_cC _ _ _ _ _ _ _ (@pe_non _ _ _) (@pa_nil _))))) (@pe_op _ _ _ _ _ _ _ _ op_sub (@pv _ 2 _ _ (by rfl) vThi_2 (by decide) (by decide)) (@pe_int _ _ _ _)) (fun _ _ => rfl)))) (@pss_nil _)) (@pss_cons _ _ _ _ _ (@ps_if _ _ _ _ _ _ _ _ (@pt_cmpR _ _ _ _ _ _ _ _ op_lt (@pv _ 2 _ _ (by rfl) vThi_2 (by decide) (by decide)) (@pe_int _ _ _ _) (nomark _)) (@pss_one _ _ _ (@ps_ret _ _ _ _ (@pe_call _ _ _ _ _ _ _ _ _ _ _ _ _ _ _ _ GLe (hr.mono (by decide)) (by rfl) mLe kLe bLe .nil pass0 (@pa_cN _ _ _ _ _ _ (@pv _ 0 _ _ (by rfl) vThi_0 (by decide) (by decide)) (@pa_cK _ _ _ _ _ _ _ _ (@pe_call _ _ _ _ _ _ _ _ _ _ _ _ _ _ _ _ GDw (hr.mono (by decide)) (by rfl) mDw kDw bDw .nil pass0 (@pa_cN _ _ _ _ _ _ (@pv _ 0 _ _ (by rfl) vThi_0 (by decide) (by decide)) (@pa_cC _ _ _ _ _ _ _ (@pe_int _ _ _ _) (@pa_nil _))) (by decide) (by rfl) (by rfl)) (@pa_cC _ _ _ _ _ _ _ (@pe_int _ _ _ _) (@pa_nil _)))) (by decide) (by rfl) (by rfl)))) (@pss_nil _)) (@pss_cons _ _ _ _ _ (@ps_setLc _ 4 _ _ _ _ _ _ _ [("k", 3)] _ _ _ (gName 3) _ _ (by rfl) scThi.nd rfl rfl (sw_true rfl rfl rfl (by decide +kernel)) (@pi_range1 _ _ _ _ _ _ (by rfl) T.range (@pa_cB _ _ _ _ _ _ _ _ (@pe_op _ _ _ _ _ _ _ _ op_mul (@pe_call _ _ _ _ _ _ _ _ _ _ _ _ _ _ _ _ GDw (hr.mono (by decide)) (by rfl) mDw kDw bDw .nil pass0 (@pa_cN _ _ _ _ _ _ (@pv _ 0 _ _ (by rfl) vThi_0 (by decide) (by decide)) (@pa_cC _ _ _ _ _ _ _ (@pe_int _ _ _ _) (@pa_nil _))) (by decide) (by rfl) (by rfl)) (@pe_callTy _ _ _ _ _ _ _ _ _ call_int1 (by rfl) T.int (by decide +kernel) (@pa_cQ _ _ _ _ _ _ _ _ (@pe_cmpR _ _ _ _ _ _ _ _ op_gt (@pv _ 1 _ _ (by rfl) vThi_1 (by decide) (by decide)) (@pe_int _ _ _ _) (nomark _)) (@pa_nil _)) (by decide) (by decide) (by rfl) (by rfl))) (@pa_nil _)) (by rfl)) (blkOk_by (own := [("k", 3)]) (N := ["draws", "deep", "kind", "k", "some"]) (sc := defScope sThi) (by decide +kernel)) (fun _ _ _ _ _ => (@pg_name _ _ 3 _ scThi.nd rfl (Or.inl rfl) (by first | exact .inl rfl | exact .inr rfl | assumption))) (fun _ _ _ _ _ => (@pts_nil _)) (fun _ _ _ _ _ => (@pe_call _ _ _ _ _ _ _ _ _ _ _ _ _ _ _ _ GTh (hr.mono (by decide)) (by rfl) mTh kTh bTh .nil pass0 (@pa_cN _ _ _ _ _ _ (@pv _ 0 _ _ (by rfl) (by first | exact Or.inl rfl | exact Or.inr (Or.inl rfl) | exact Or.inr (Or.inr rfl)) (by decide) (by decide)) (@pa_cB _ _ _ _ _ _ _ _ (@pe_op _ _ _ _ _ _ _ _ op_sub (@pv _ 1 _ _ (by rfl) (by first | exact Or.inl rfl | exact Or.inr (Or.inl rfl) | exact Or.inr (Or.inr rfl)) (by decide) (by decide)) (@pe_int _ _ _ _)) (@pa_nil _))) (by decide) (by rfl) (by rfl))) (by intro _ ; rfl)) (@pss_one _ _ _ (@ps_ret _ _ _ _ (@pe_ifExp _ _ _ _ _ _ _ _ (@pt_cmpR _ _ _ _ _ _ _ _ op_eq (@pv _ 2 _ _ (by rfl) vThi_2 (by decide) (by decide)) (@pe_int _ _ _ _) (nomark _)) (@pv _ 4 _ _ (by rfl) vThi_4 (by decide) (by decide)) (@pe_callTy _ _ _ _ _ _ _ _ _ call_tuple_of (by rfl) T.tuple (by decide +kernel) (@pa_cN _ _ _ _ _ _ (@pv _ 4 _ _ (by rfl) vThi_4 (by decide) (by decide)) (@pa_nil _)) (by decide) (by decide) (by rfl) (by rfl)))))))))), ?_⟩
    refine ⟨_, rfl, p, 11, rfl, D0, by omega, by omega, fun kd H1 k0 k11 D1 B1 => ?_⟩
    have fin : ∀ {H' v}, ThingOk K H' v → DrAt H' p → But p H H' → Q v H' := fun a b c => k _ _ a b c
    refine ⟨_, rfl, _, _, rfl, rfl, _, rfl, ?_⟩
    by_cases h3 : kd < 3
    · rw [decide_eq_true h3]
      refine iteT ?_
      refine ⟨_, rfl, p, 9, rfl, D1, by omega, by omega, fun r H2 r0 r9 D2 B2 => ?_⟩
      refine ⟨_, _, rfl, rfl, _, _, rfl, rfl, ⟨by decide, by decide, by decide⟩, _, _, rfl, rfl, ?_⟩
      refine ⟨_, rfl, _, _, rfl, rfl, ⟨by decide, by decide, by decide⟩, p, _, rfl, D2, by decide, by decide, fun r2 H3 r20 r29 D3 B3 => ?_⟩
      refine ⟨(by show 3 ≤ sizeLine; decide), fun L hL => ?_⟩
      obtain ⟨v, hv, hv'⟩ := at3 (a := .int (r - 4)) (b := .int (0 - (10 : Int) ^ (39 : Int).toNat)) (c := .int r2) k0 h3
      refine ⟨_, rfl, L, _, _, _, rfl, rfl, SqL.of upd_same, hv, ?_⟩
      refine fin (.inr ?_) (D3.new hL) (B1.trans (B2.trans (B3.trans (But.new hL))))
      rcases hv' with rfl | rfl | rfl <;> exact ⟨_, TyOf.int _, kis⟩
    rw [decide_eq_false h3]
    refine iteF ?_
    refine ⟨_, rfl, _, _, rfl, rfl, _, rfl, ?_⟩
    by_cases h6 : kd < 6
    · rw [decide_eq_true h6]
      refine iteT ?_
      refine ⟨(by show 3 ≤ sizeLine; decide), fun L hL => ?_⟩
      obtain ⟨v, hv, hv'⟩ := at3 (a := .bl true) (b := .bl false) (c := .non) (z := kd - 3) (by omega) (by omega)
      refine ⟨_, rfl, _, _, rfl, rfl, L, _, _, _, rfl, rfl, SqL.of upd_same, hv, ?_⟩
      refine fin (.inr ?_) (D1.new hL) (B1.trans (But.new hL))
      rcases hv' with rfl | rfl | rfl
      · exact ⟨_, TyOf.bl _, kbs⟩
      · exact ⟨_, TyOf.bl _, kbs⟩
      · exact ⟨_, TyOf.non, kns⟩
    rw [decide_eq_false h6]
    refine iteF ?_
    refine ⟨_, rfl, _, _, rfl, rfl, _, rfl, ?_⟩
    by_cases h9 : kd < 9
    · rw [decide_eq_true h9]
      refine iteT ?_
      refine ⟨_, rfl, _, rfl, p, 4, rfl, D1, by omega, by omega, fun r H2 r0 r9 D2 B2 => ?_⟩
      refine ⟨p, r, 3, rfl, D2, by omega, by omega, by decide, by decide, fun l H3 hl hlow D3 B3 => ?_⟩
      exact fin (.inl ⟨l, rfl, by omega, Low.cp hlow⟩) D3 (B1.trans (B2.trans B3))
    rw [decide_eq_false h9]
    refine iteF ?_
    refine ⟨_, rfl, p, 4, rfl, D1, by omega, by omega, fun r H2 r0 r4 D2 B2 => ?_⟩
    refine ⟨_, rfl, _, _, rfl, rfl, .inr ⟨_, rfl, ?_⟩⟩
    have hcnt : ∃ m : Int, r * (if decide (0 < dp) = true then (1 : Int) else 0) = m ∧ 0 ≤ m ∧ m < 4 ∧ (0 < m → 0 < dp) := by
      by_cases hdp0 : 0 < dp
      · exact ⟨r, by rw [decide_eq_true hdp0, if_pos rfl, Int.mul_one], r0, r4, fun _ => hdp0⟩
      · exact ⟨0, by rw [decide_eq_false hdp0, if_neg Bool.false_ne_true, Int.mul_zero], by decide, by decide, fun z => absurd z (by decide)⟩
    obtain ⟨m, hm, m0, m4, mpos⟩ := hcnt
    refine ⟨_, _, rfl, rfl, .inr (by split <;> exact ⟨by decide, by decide⟩), ?_⟩
    refine ⟨m, by rw [← hm], by omega, by omega, fun D hD => ?_⟩
    refine lc_rangeD (p := p) (fun _ => True) D2 hD (small1000 (by omega)) ?_ ?_ yes_mono name_mono
    · intro i H' hi D' B' _ Qy ky
      refine ⟨rfl, rfl, ?_⟩
      have hdp0 := mpos (by omega)
      exact ⟨_, rfl, _, rfl, _, _, rfl, rfl, p, dp - 1, rfl, D', by omega, fun v H'' hv D'' B'' => ky _ _ trivial D'' B''⟩
    intro H3 ys hyl hyR D3 B3 hD3
    have B03 := B1.trans (B2.trans B3)
    refine ⟨_, rfl, rfl, _, rfl, ?_⟩
    by_cases e9 : kd = 9
    · rw [decide_eq_true (show V.int kd = V.int 9 by rw [e9])]
      refine iteT ?_
      exact ⟨_, rfl, fin (.inr ⟨_, TyOf.lst hD3, kls⟩) D3 B03⟩
    · rw [decide_eq_false (show ¬ V.int kd = V.int 9 from fun z => e9 (V.int.inj z))]
      refine iteF ?_
      refine ⟨_, rfl, D, _, rfl, .inl ⟨SqL.of hD3, fun q hq => ?_⟩⟩
      exact fin (.inr ⟨_, TyOf.tup upd_same, kts⟩) (D3.new hq) (B03.trans (But.new hq))
theorem cal_thi3 (D : Def K mg "_law_thing" sThi psThi) (T : Txt mg) (CDw : Cal P w K mg base CX0 1 "_law_draw" ["draws", "many"] spDraw) (CLe : Cal P w K mg base CX0 2 "_law_letters" ["draws", "many", "kinds"] spLetters) (CTh : Cal P w K mg base CX0 6 "_law_thing" psThi (spThi K 2)) : Cal P w K mg base CX0 7 "_law_thing" psThi (spThi K 3) := cal_mk D fun f fd F => by
  obtain ⟨fDw, dDw, GDw, kDw, bDw, mDw⟩ := CDw
  obtain ⟨fLe, dLe, GLe, kLe, bLe, mLe⟩ := CLe
  obtain ⟨fTh, dTh, GTh, kTh, bTh, mTh⟩ := CTh
  refine F.ok scThi (fun vs H Q E h => ?_) (fun cdv A outer s H vs Q E hr h => ?_)
  · obtain ⟨p, dp, rfl, _⟩ := h
    rfl
  · obtain ⟨p, dp, rfl, D0, hdp, k⟩ := h
    refine ⟨_, (@pss_cons _ _ _ _ _ (@ps_set _ _ 2 _ _ _ _ scThi.nd rfl lThi_2 (@pe_call _ _ _ _ _ _ _ _ _ _ _ _ _ _ _ _ GDw (hr.mono (by decide)) (by rfl) mDw kDw bDw .nil pass0 (@pa_cN _ _ _ _ _ _ (@pv _ 0 _ _ (by rfl) vThi_0 (by decide) (by decide)) (@pa_cC _ _ _ _ _ _ _ (@pe_int _ _ _ _) (@pa_nil _))) (by decide) (by rfl) (by rfl)) (by rfl) (by first | exact .inl rfl | exact .inr rfl | assumption)) (@pss_cons _ _ _ _ _ (@ps_if _ _ _ _ _ _ _ _ (@pt_cmpR _ _ _ _ _ _ _ _ op_lt (@pv _ 2 _ _ (by rfl) vThi_2 (by decide) (by decide)) (@pe_int _ _ _ _) (nomark _)) (@pss_one _ _ _ (@ps_ret _ _ _ _ (@pe_ix _ _ _ _ _ _ _ ix_list (@pe_lst _ _ _ _ (@pa_cB _ _ _ _ _ _ _ _ (@pe_op _ _ _ _ _ _ _ _ op_sub (@pe_call _ _ _ _ _ _ _ _ _ _ _ _ _ _ _ _ GDw (hr.mono (by decide)) (by rfl) mDw kDw bDw .nil pass0 (@pa_cN _ _ _ _ _ _ (@pv _ 0 _ _ (by rfl) vThi_0 (by decide) (by decide)) (@pa_cC _ _ _ _ _ _ _ (@pe_int _ _ _ _) (@pa_nil _))) (by decide) (by rfl) (by rfl)) (@pe_int _ _ _ _)) (@pa_cB _ _ _ _ _ _ _ _ (@pe_op _ _ _ _ _ _ _ _ op_sub (@pe_int _ _ _ _) (@pe_op _ _ _ _ _ _ _ _ op_pow (@pe_int _ _ _ _) (@pe_int _ _ _ _))) (@pa_cK _ _ _ _ _ _ _ _ (@pe_call _ _ _ _ _ _ _ _ _ _ _ _ _ _ _ _ GDw (hr.mono (by decide)) (by rfl) mDw kDw bDw .nil pass0 (@pa_cN _ _ _ _ _ _ (@pv _ 0 _ _ (by rfl) vThi_0 (by decide) (by decide)) (@pa_cB _ _ _ _ _ _ _ _ (@pe_op _ _ _ _ _ _ _ _ op_pow (@pe_int _ _ _ _) (@pe_int _ _ _ _)) (@pa_nil _))) (by decide) (by rfl) (by rfl)) (@pa_nil _))))) (@pv _ 2 _ _ (by rfl) vThi_2 (by decide) (by decide)) (fun _ _ => rfl)))) (@pss_nil _)) (@pss_cons _ _ _ _ _ (@ps_if _ _ _ _ _ _ _ _ (@pt_cmpR _ _ _ _ _ _ _ _ op_lt (@pv _ 2 _ _ (by rfl) vThi_2 (by decide) (by decide)) (@pe_int _ _ _ _) (nomark _)) (@pss_one _ _ _ (@ps_ret _ _ _ _ (@pe_ix _ _ _ _ _ _ _ ix_list (@pe_lst _ _ _ _ (@pa_cC _ _ _ _ _ _ _ (@pe_bl _ _ _ _) (@pa_cC _ _ _ _ _ _ _ (@pe_bl _ _ _ _) (@pa_cC _ _ _ _ _ _ _ (@pe_non _ _ _) (@pa_nil _))))) (@pe_op _ _ _ _ _ _ _ _ op_sub (@pv _ 2 _ _ (by rfl) vThi_2 (by decide) (by decide)) (@pe_int _ _ _ _)) (fun _ _ => rfl)))) (@pss_nil _)) (@pss_cons _ _ _ _ _ (@ps_if _ _ _ _ _ _ _ _ (@pt_cmpR _ _ _ _ _ _ _ _ op_lt (@pv _ 2 _ _ (by rfl) vThi_2 (by decide) (by decide)) (@pe_int _ _ _ _) (nomark _)) (@pss_one _ _ _ (@ps_ret _ _ _ _ (@pe_call _ _ _ _ _ _ _ _ _ _ _ _ _ _ _ _ GLe (hr.mono (by decide)) (by rfl) mLe kLe bLe .nil pass0 (@pa_cN _ _ _ _ _ _ (@pv _ 0 _ _ (by rfl) vThi_0 (by decide) (by decide)) (@pa_cK _ _ _ _ _ _ _ _ (@pe_call _ _ _ _ _ _ _ _ _ _ _ _ _ _ _ _ GDw (hr.mono (by decide)) (by rfl) mDw kDw bDw .nil pass0 (@pa_cN _ _ _ _ _ _ (@pv _ 0 _ _ (by rfl) vThi_0 (by decide) (by decide)) (@pa_cC _ _ _ _ _ _ _ (@pe_int _ _ _ _) (@pa_nil _))) (by decide) (by rfl) (by rfl)) (@pa_cC _ _ _ _ _ _ _ (@pe_int _ _ _ _) (@pa_nil _)))) (by decide) (by rfl) (by rfl)))) (@pss_nil _)) (@pss_cons _ _ _ _ _ (@ps_setLc _ 4 _ _ _ _ _ _ _ [("k", 3)] _ _ _ (gName 3) _ _ (by rfl) scThi.nd rfl rfl (sw_true rfl rfl rfl (by decide +kernel)) (@pi_range1 _ _ _ _ _ _ (by rfl) T.range (@pa_cB _ _ _ _ _ _ _ _ (@pe_op _ _ _ _ _ _ _ _ op_mul (@pe_call _ _ _ _ _ _ _ _ _ _ _ _ _ _ _ _ GDw (hr.mono (by decide)) (by rfl) mDw kDw bDw .nil pass0 (@pa_cN _ _ _ _ _ _ (@pv _ 0 _ _ (by rfl) vThi_0 (by decide) (by decide)) (@pa_cC _ _ _ _ _ _ _ (@pe_int _ _ _ _) (@pa_nil _))) (by decide) (by rfl) (by rfl)) (@pe_callTy _ _ _ _ _ _ _ _ _ call_int1 (by rfl) T.int (by decide +kernel) (@pa_cQ _ _ _ _ _ _ _ _ (@pe_cmpR _ _ _ _ _ _ _ _ op_gt (@pv _ 1 _ _ (by rfl) vThi_1 (by decide) (by decide)) (@pe_int _ _ _ _) (nomark _)) (@pa_nil _)) (by decide) (by decide) (by rfl) (by rfl))) (@pa_nil _)) (by rfl)) (blkOk_by (own := [("k", 3)]) (N := ["draws", "deep", "kind", "k", "some"]) (sc := defScope sThi) (by decide +kernel)) (fun _ _ _ _ _ => (@pg_name _ _ 3 _ scThi.nd rfl (Or.inl rfl) (by first | exact .inl rfl | exact .inr rfl | assumption))) (fun _ _ _ _ _ => (@pts_nil _)) (fun _ _ _ _ _ => (@pe_call _ _ _ _ _ _ _ _ _ _ _ _ _ _ _ _ GTh (hr.mono (by decide)) (by rfl) mTh kTh bTh .nil pass0 (@pa_cN _ _ _ _ _ _ (@pv _ 0 _ _ (by rfl) (by first | exact Or.inl rfl | exact Or.inr (Or.inl rfl) | exact Or.inr (Or.inr rfl)) (by decide) (by decide)) (@pa_cB _ _ _ _ _ _ _ _ (@pe_op _ _ _ _ _ _ _ _ op_sub (@pv _ 1 _ _ (by rfl) (by first | exact Or.inl rfl | exact Or.inr (Or.inl rfl) | exact Or.inr (Or.inr rfl)) (by decide) (by decide)) (@pe_int _ _ _ _)) (@pa_nil _))) (by decide) (by rfl) (by rfl))) (by intro _ ; rfl)) (@pss_one _ _ _ (@ps_ret _ _ _ _ (@pe_ifExp _ _ _ _ _ _ _ _ (@pt_cmpR _ _ _ _ _ _ _ _ op_eq (@pv _ 2 _ _ (by rfl) vThi_2 (by decide) (by decide)) (@pe_int _ _ _ _) (nomark _)) (@pv _ 4 _ _ (by rfl) vThi_4 (by decide) (by decide)) (@pe_callTy _ _ _ _ _ _ _ _ _ call_tuple_of (by rfl) T.tuple (by decide +kernel) (@pa_cN _ _ _ _ _ _ (@pv _ 4 _ _ (by rfl) vThi_4 (by decide) (by decide)) (@pa_nil _)) (by decide) (by decide) (by rfl) (by rfl)))))))))), ?_⟩
    refine ⟨_, rfl, p, 11, rfl, D0, by omega, by omega, fun kd H1 k0 k11 D1 B1 => ?_⟩
    have fin : ∀ {H' v}, ThingOk K H' v → DrAt H' p → But p H H' → Q v H' := fun a b c => k _ _ a b c
    refine ⟨_, rfl, _, _, rfl, rfl, _, rfl, ?_⟩
    by_cases h3 : kd < 3
    · rw [decide_eq_true h3]
      refine iteT ?_
      refine ⟨_, rfl, p, 9, rfl, D1, by omega, by omega, fun r H2 r0 r9 D2 B2 => ?_⟩
      refine ⟨_, _, rfl, rfl, _, _, rfl, rfl, ⟨by decide, by decide, by decide⟩, _, _, rfl, rfl, ?_⟩
      refine ⟨_, rfl, _, _, rfl, rfl, ⟨by decide, by decide, by decide⟩, p, _, rfl, D2, by decide, by decide, fun r2 H3 r20 r29 D3 B3 => ?_⟩
      refine ⟨(by show 3 ≤ sizeLine; decide), fun L hL => ?_⟩
      obtain ⟨v, hv, hv'⟩ := at3 (a := .int (r - 4)) (b := .int (0 - (10 : Int) ^ (39 : Int).toNat)) (c := .int r2) k0 h3
      refine ⟨_, rfl, L, _, _, _, rfl, rfl, SqL.of upd_same, hv, ?_⟩
      refine fin (.inr ?_) (D3.new hL) (B1.trans (B2.trans (B3.trans (But.new hL))))
      rcases hv' with rfl | rfl | rfl <;> exact ⟨_, TyOf.int _, kis⟩
    rw [decide_eq_false h3]
    refine iteF ?_
    refine ⟨_, rfl, _, _, rfl, rfl, _, rfl, ?_⟩
    by_cases h6 : kd < 6
    · rw [decide_eq_true h6]
      refine iteT ?_
      refine ⟨(by show 3 ≤ sizeLine; decide), fun L hL => ?_⟩
      obtain ⟨v, hv, hv'⟩ := at3 (a := .bl true) (b := .bl false) (c := .non) (z := kd - 3) (by omega) (by omega)
      refine ⟨_, rfl, _, _, rfl, rfl, L, _, _, _, rfl, rfl, SqL.of upd_same, hv, ?_⟩
      refine fin (.inr ?_) (D1.new hL) (B1.trans (But.new hL))
      rcases hv' with rfl | rfl | rfl
      · exact ⟨_, TyOf.bl _, kbs⟩
      · exact ⟨_, TyOf.bl _, kbs⟩
      · exact ⟨_, TyOf.non, kns⟩
    rw [decide_eq_false h6]
    refine iteF ?_
    refine ⟨_, rfl, _, _, rfl, rfl, _, rfl, ?_⟩
    by_cases h9 : kd < 9
    · rw [decide_eq_true h9]
      refine iteT ?_
      refine ⟨_, rfl, _, rfl, p, 4, rfl, D1, by omega, by omega, fun r H2 r0 r9 D2 B2 => ?_⟩
      refine ⟨p, r, 3, rfl, D2, by omega, by omega, by decide, by decide, fun l H3 hl hlow D3 B3 => ?_⟩
      exact fin (.inl ⟨l, rfl, by omega, Low.cp hlow⟩) D3 (B1.trans (B2.trans B3))
    rw [decide_eq_false h9]
    refine iteF ?_
    refine ⟨_, rfl, p, 4, rfl, D1, by omega, by omega, fun r H2 r0 r4 D2 B2 => ?_⟩
    refine ⟨_, rfl, _, _, rfl, rfl, .inr ⟨_, rfl, ?_⟩⟩
    have hcnt : ∃ m : Int, r * (if decide (0 < dp) = true then (1 : Int) else 0) = m ∧ 0 ≤ m ∧ m < 4 ∧ (0 < m → 0 < dp) := by
      by_cases hdp0 : 0 < dp
      · exact ⟨r, by rw [decide_eq_true hdp0, if_pos rfl, Int.mul_one], r0, r4, fun _ => hdp0⟩
      · exact ⟨0, by rw [decide_eq_false hdp0, if_neg Bool.false_ne_true, Int.mul_zero], by decide, by decide, fun z => absurd z (by decide)⟩
    obtain ⟨m, hm, m0, m4, mpos⟩ := hcnt
    refine ⟨_, _, rfl, rfl, .inr (by split <;> exact ⟨by decide, by decide⟩), ?_⟩
    refine ⟨m, by rw [← hm], by omega, by omega, fun D hD => ?_⟩
    refine lc_rangeD (p := p) (fun _ => True) D2 hD (small1000 (by omega)) ?_ ?_ yes_mono name_mono
    · intro i H' hi D' B' _ Qy ky
      refine ⟨rfl, rfl, ?_⟩
      have hdp0 := mpos (by omega)
      exact ⟨_, rfl, _, rfl, _, _, rfl, rfl, p, dp - 1, rfl, D', by omega, fun v H'' hv D'' B'' => ky _ _ trivial D'' B''⟩
    intro H3 ys hyl hyR D3 B3 hD3
    have B03 := B1.trans (B2.trans B3)
    refine ⟨_, rfl, rfl, _, rfl, ?_⟩
    by_cases e9 : kd = 9
    · rw [decide_eq_true (show V.int kd = V.int 9 by rw [e9])]
      refine iteT ?_
      exact ⟨_, rfl, fin (.inr ⟨_, TyOf.lst hD3, kls⟩) D3 B03⟩
    · rw [decide_eq_false (show ¬ V.int kd = V.int 9 from fun z => e9 (V.int.inj z))]
      refine iteF ?_
      refine ⟨_, rfl, D, _, rfl, .inl ⟨SqL.of hD3, fun q hq => ?_⟩⟩
      exact fin (.inr ⟨_, TyOf.tup upd_same, kts⟩) (D3.new hq) (B03.trans (But.new hq))
theorem cal_thiN (D : Def K mg "_law_thing" sThi psThi) : Cal P w K mg base CX0 3 "_law_thing" psThi spNo := cal_mk D fun f fd F => F.ok scThi (fun vs H Q E h => h.elim) (fun cdv A outer s H vs Q E hr h => h.elim)
theorem cal_thi (D : Def K mg "_law_thing" sThi psThi) (T : Txt mg) (CDw : Cal P w K mg base CX0 1 "_law_draw" ["draws", "many"] spDraw) (CLe : Cal P w K mg base CX0 2 "_law_letters" ["draws", "many", "kinds"] spLetters) : Cal P w K mg base CX0 7 "_law_thing" psThi (spThi K 3) :=
  cal_thi3 D T CDw CLe (cal_thi2 D T CDw CLe (cal_thi1 D T CDw CLe (cal_thi0 D T CDw CLe (cal_thiN D))))
end
end W

set_option Elab.async false
set_option linter.all false
set_option maxRecDepth 100000
set_option maxHeartbeats 4000000
namespace W
open PySem L2 WM

abbrev sSpo : Stmt := top 34
abbrev psSpo : List Str := ["text", "draws"]
theorem scSpo : FnScope ["text", "draws", "words", "at", "some", "word"] ["text", "draws"] (defScope sSpo) := ⟨rfl, rfl, rfl, by decide +kernel, rfl, by decide +kernel, by decide +kernel⟩
theorem lSpo_0 : Loc (defScope sSpo) "text" := Or.inl (by decide +kernel)
theorem vSpo_0 : Vis (defScope sSpo) "text" := Or.inl (by decide +kernel)
theorem lSpo_1 : Loc (defScope sSpo) "draws" := Or.inl (by decide +kernel)
theorem vSpo_1 : Vis (defScope sSpo) "draws" := Or.inl (by decide +kernel)
theorem lSpo_2 : Loc (defScope sSpo) "words" := Or.inl (by decide +kernel)
theorem vSpo_2 : Vis (defScope sSpo) "words" := Or.inl (by decide +kernel)
theorem lSpo_3 : Loc (defScope sSpo) "at" := Or.inl (by decide +kernel)
theorem vSpo_3 : Vis (defScope sSpo) "at" := Or.inl (by decide +kernel)
theorem lSpo_4 : Loc (defScope sSpo) "some" := Or.inl (by decide +kernel)
theorem vSpo_4 : Vis (defScope sSpo) "some" := Or.inl (by decide +kernel)
theorem lSpo_5 : Loc (defScope sSpo) "word" := Or.inl (by decide +kernel)
theorem vSpo_5 : Vis (defScope sSpo) "word" := Or.inl (by decide +kernel)
section
variable {P : Program} {w : World} {K : PySem.W.Frag} {mg : Str → Option Value} {base : Heap}
theorem at_memV {α : Type} {xs : List α} {z : Int} (h0 : 0 ≤ z) (h1 : z < (xs.length : Int)) : ∃ v, atI xs z = some v ∧ v ∈ xs := by
  obtain ⟨n, rfl⟩ : ∃ n : Nat, z = (n : Int) := ⟨z.toNat, by omega⟩
  have hn : n < xs.length := by omega
  exact ⟨xs[n], atI_nat (List.getElem?_eq_getElem hn), List.getElem_mem hn⟩
theorem cutV_toA (xs : List V) (k : Nat) : cutV xs none (some (k : Int)) = xs.take k := by
  unfold cutV
  rw [HT.sIx_nat]
  show (xs.take (min k xs.length)).drop 0 = _
  rw [List.drop_zero]
  by_cases h : k ≤ xs.length
  · rw [Nat.min_eq_left h]
  · rw [Nat.min_eq_right (by omega), List.take_length, List.take_of_length_le (by omega)]
theorem sum_td (xs : List (List Nat)) (i : Nat) : ((xs.take i).map List.length).sum + ((xs.drop i).map List.length).sum = (xs.map List.length).sum := by
  rw [← List.sum_append, ← List.map_append, List.take_append_drop]
theorem str_w (s : String) (h : (Str.ofString s).length ≤ 10) (n : Nat) : ∃ wd : List Nat, V.str (Str.ofString s) = V.str (txt wd) ∧ wd.length ≤ n + 10 ∧ Cp wd :=
  ⟨(Str.ofString s).cps.toList, by rw [txt_back], by rw [Array.length_toList]; exact Nat.le_trans h (Nat.le_add_left _ _), str_cp s⟩
def spSpo : Sp := fun vs H Q _ => ∃ (x : List Nat) (p : Addr), vs = [.str (txt x), .ref p] ∧ Cp x ∧ x.length ≤ 20000 ∧ DrAt H p ∧ ∀ (m : List Nat) (H' : Hp), Cp m → m.length ≤ 2 * x.length + 20 → DrAt H' p → But p H H' → Q (.str (txt m)) H'
theorem cal_spo (D : Def K mg "_law_spoilt" sSpo psSpo) (T : Txt mg) (CDw : Cal P w K mg base CX0 1 "_law_draw" ["draws", "many"] spDraw) (CBe : Cal P w K mg base CX0 2 "_law_bent" ["text", "draws"] spBentL) : Cal P w K mg base CX0 3 "_law_spoilt" psSpo spSpo := cal_mk D fun f fd F => by
  obtain ⟨fDw, dDw, GDw, kDw, bDw, mDw⟩ := CDw
  obtain ⟨fBe, dBe, GBe, kBe, bBe, mBe⟩ := CBe
  refine F.ok scSpo (fun vs H Q E h => ?_) (fun cdv A outer s H vs Q E hr h => ?_)
  · obtain ⟨x, p, rfl, _⟩ := h
    rfl
  · obtain ⟨x, p, rfl, hcp, hx, D0, k⟩ := h
    refine ⟨_, (@pss_cons _ _ _ _ _ (@ps_if _ _ _ _ _ _ _ _ (@pt_cmpR _ _ _ _ _ _ _ _ op_eq (@pe_call _ _ _ _ _ _ _ _ _ _ _ _ _ _ _ _ GDw (hr.mono (by decide)) (by rfl) mDw kDw bDw .nil pass0 (@pa_cN _ _ _ _ _ _ (@pv _ 1 _ _ (by rfl) vSpo_1 (by decide) (by decide)) (@pa_cC _ _ _ _ _ _ _ (@pe_int _ _ _ _) (@pa_nil _))) (by decide) (by rfl) (by rfl)) (@pe_int _ _ _ _) (nomark _)) (@pss_one _ _ _ (@ps_ret _ _ _ _ (@pe_call _ _ _ _ _ _ _ _ _ _ _ _ _ _ _ _ GBe (hr.mono (by decide)) (by rfl) mBe kBe bBe .nil pass0 (@pa_cN _ _ _ _ _ _ (@pv _ 0 _ _ (by rfl) vSpo_0 (by decide) (by decide)) (@pa_cN _ _ _ _ _ _ (@pv _ 1 _ _ (by rfl) vSpo_1 (by decide) (by decide)) (@pa_nil _))) (by decide) (by rfl) (by rfl)))) (@pss_nil _)) (@pss_cons _ _ _ _ _ (@ps_set _ _ 2 _ _ _ _ scSpo.nd rfl lSpo_2 (@pe_split _ _ _ _ _ _ _ (@pv _ 0 _ _ (by rfl) vSpo_0 (by decide) (by decide)) (@pe_str _ _ _ _) (by rfl) (by rfl) (by rfl)) (by rfl) (by first | exact .inl rfl | exact .inr rfl | assumption)) (@pss_cons _ _ _ _ _ (@ps_set _ _ 3 _ _ _ _ scSpo.nd rfl lSpo_3 (@pe_call _ _ _ _ _ _ _ _ _ _ _ _ _ _ _ _ GDw (hr.mono (by decide)) (by rfl) mDw kDw bDw .nil pass0 (@pa_cN _ _ _ _ _ _ (@pv _ 1 _ _ (by rfl) vSpo_1 (by decide) (by decide)) (@pa_cK _ _ _ _ _ _ _ _ (@pe_callB _ _ _ _ _ _ _ _ _ call_len_seq (by rfl) T.len PySem.boot_len (@pa_cN _ _ _ _ _ _ (@pv _ 2 _ _ (by rfl) vSpo_2 (by decide) (by decide)) (@pa_nil _)) (by decide) (by decide) (by rfl) (by rfl)) (@pa_nil _))) (by decide) (by rfl) (by rfl)) (by rfl) (by first | exact .inl rfl | exact .inr rfl | assumption)) (@pss_cons _ _ _ _ _ (@ps_set _ _ 4 _ _ _ _ scSpo.nd rfl lSpo_4 (@pe_lst _ _ _ _ (@pa_cC _ _ _ _ _ _ _ (@pe_str _ _ _ _) (@pa_cC _ _ _ _ _ _ _ (@pe_str _ _ _ _) (@pa_cC _ _ _ _ _ _ _ (@pe_str _ _ _ _) (@pa_cC _ _ _ _ _ _ _ (@pe_str _ _ _ _) (@pa_cC _ _ _ _ _ _ _ (@pe_str _ _ _ _) (@pa_cC _ _ _ _ _ _ _ (@pe_str _ _ _ _) (@pa_cC _ _ _ _ _ _ _ (@pe_str _ _ _ _) (@pa_cC _ _ _ _ _ _ _ (@pe_str _ _ _ _) (@pa_cC _ _ _ _ _ _ _ (@pe_str _ _ _ _) (@pa_cS _ _ _ _ _ _ _ (@pe_ix _ _ _ _ _ _ _ ix_list (@pv _ 2 _ _ (by rfl) vSpo_2 (by decide) (by decide)) (@pv _ 3 _ _ (by rfl) vSpo_3 (by decide) (by decide)) (fun _ _ => rfl)) (@pa_nil _)))))))))))) (by rfl) (by first | exact .inl rfl | exact .inr rfl | assumption)) (@pss_cons _ _ _ _ _ (@ps_set _ _ 5 _ _ _ _ scSpo.nd rfl lSpo_5 (@pe_ix _ _ _ _ _ _ _ ix_list (@pv _ 4 _ _ (by rfl) vSpo_4 (by decide) (by decide)) (@pe_call _ _ _ _ _ _ _ _ _ _ _ _ _ _ _ _ GDw (hr.mono (by decide)) (by rfl) mDw kDw bDw .nil pass0 (@pa_cN _ _ _ _ _ _ (@pv _ 1 _ _ (by rfl) vSpo_1 (by decide) (by decide)) (@pa_cC _ _ _ _ _ _ _ (@pe_int _ _ _ _) (@pa_nil _))) (by decide) (by rfl) (by rfl)) (fun _ _ => rfl)) (by rfl) (by first | exact .inl rfl | exact .inr rfl | assumption)) (@pss_one _ _ _ (@ps_ret _ _ _ _ (@pe_join _ _ _ _ _ _ _ (@pe_str _ _ _ _) (@pe_op _ _ _ _ _ _ _ _ op_cat (@pe_op _ _ _ _ _ _ _ _ op_cat (@pe_slice _ _ _ _ _ _ _ _ _ _ sl_list (@pv _ 2 _ _ (by rfl) vSpo_2 (by decide) (by decide)) (@po_none _) (@po_some _ _ _ (@pv _ 3 _ _ (by rfl) vSpo_3 (by decide) (by decide)))) (@pe_slice _ _ _ _ _ _ _ _ _ _ sl_list (@pe_lst _ _ _ _ (@pa_cN _ _ _ _ _ _ (@pv _ 5 _ _ (by rfl) vSpo_5 (by decide) (by decide)) (@pa_nil _))) (@po_none _) (@po_some _ _ _ (@pe_call _ _ _ _ _ _ _ _ _ _ _ _ _ _ _ _ GDw (hr.mono (by decide)) (by rfl) mDw kDw bDw .nil pass0 (@pa_cN _ _ _ _ _ _ (@pv _ 1 _ _ (by rfl) vSpo_1 (by decide) (by decide)) (@pa_cC _ _ _ _ _ _ _ (@pe_int _ _ _ _) (@pa_nil _))) (by decide) (by rfl) (by rfl))))) (@pe_slice _ _ _ _ _ _ _ _ _ _ sl_list (@pv _ 2 _ _ (by rfl) vSpo_2 (by decide) (by decide)) (@po_some _ _ _ (@pe_op _ _ _ _ _ _ _ _ op_add (@pv _ 3 _ _ (by rfl) vSpo_3 (by decide) (by decide)) (@pe_call _ _ _ _ _ _ _ _ _ _ _ _ _ _ _ _ GDw (hr.mono (by decide)) (by rfl) mDw kDw bDw .nil pass0 (@pa_cN _ _ _ _ _ _ (@pv _ 1 _ _ (by rfl) vSpo_1 (by decide) (by decide)) (@pa_cC _ _ _ _ _ _ _ (@pe_int _ _ _ _) (@pa_nil _))) (by decide) (by rfl) (by rfl)))) (@po_none _))) (by rfl) (by rfl) (by rfl))))))))), ?_⟩
    have eSp : Str.ofString " " = txt [32] := by decide +kernel
    refine ⟨_, rfl, p, 2, rfl, D0, by omega, by omega, fun r H1 r0 r2 D1 B1 => ⟨rfl, _, rfl, ?_⟩⟩
    refine ite2 (fun _ => ?_) (fun _ => ?_)
    · exact ⟨_, rfl, _, rfl, x, p, rfl, hcp, by omega, D1, fun m H2 hm hml D2 B2 => k m H2 hm (by omega) D2 (B1.trans B2)⟩
    obtain ⟨p1, p2, p3⟩ := prts_ok x
    have p4 := prts_sum x
    have hpl : 0 < (prts x).length := List.length_pos_iff.mpr p1
    refine ⟨_, rfl, ⟨_, rfl⟩, _, _, rfl, rfl, (by decide +kernel), by rw [txt_length, sizeLine_eq]; omega, fun NL hNL => ?_⟩
    have hNL2 : (upd H1 NL (.lst ((Txt.split (txt x) " ").map V.str))) NL = some (.lst ((prts x).map fun w => V.str (txt w))) := by
      rw [upd_same, show Txt.split (txt x) " " = (prts x).map txt from by rw [← split_prts, eSp], List.map_map]
      rfl
    have D2 := D1.new hNL (o := .lst ((Txt.split (txt x) " ").map V.str))
    have B2 : But p H (upd H1 NL (.lst ((Txt.split (txt x) " ").map V.str))) := B1.trans (But.new hNL)
    have hNp := D1.ne hNL
    generalize upd H1 NL (.lst ((Txt.split (txt x) " ").map V.str)) = H2 at hNL2 D2 B2 ⊢
    refine ⟨_, rfl, _, rfl, NL, _, rfl, .inl (SqL.of hNL2), ?_⟩
    rw [List.length_map]
    refine ⟨p, _, rfl, D2, by omega, by omega, fun at0 H3 at1 at2 D3 B3 => ?_⟩
    have hNL3 := B3 _ _ hNL2 hNp
    obtain ⟨wv, hwv, hwm⟩ := at_memV (xs := (prts x).map fun w => V.str (txt w)) (z := at0) at1 (by rw [List.length_map]; exact at2)
    obtain ⟨wa, hwa, rfl⟩ := List.mem_map.mp hwm
    refine ⟨_, rfl, _, rfl, NL, _, _, _, rfl, rfl, SqL.of hNL3, hwv, ?_⟩
    refine ⟨(by show 10 ≤ sizeLine; decide), fun SL hSL => ?_⟩
    have hSp := D3.ne hSL
    refine ⟨_, rfl, _, rfl, p, 10, rfl, D3.new hSL, by omega, by omega, fun y H4 y0 y1 D4 B4 => ?_⟩
    obtain ⟨v, hv, hvm⟩ := at_memV (xs := [V.str "", V.str "-", V.str "-0", V.str "00", V.str "none", V.str "999999999", V.str "1000000000", V.str "-7", V.str "+1", V.str (txt wa)]) (z := y) y0 (by show y < 10; exact y1)
    refine ⟨SL, _, _, _, rfl, rfl, SqL.of (B4 _ _ upd_same hSp), hv, ?_⟩
    obtain ⟨wd, rfl, wd1, wd2⟩ : ∃ wd : List Nat, v = .str (txt wd) ∧ wd.length ≤ x.length + 10 ∧ Cp wd := by
      simp only [List.mem_cons, List.not_mem_nil, or_false] at hvm
      rcases hvm with rfl | rfl | rfl | rfl | rfl | rfl | rfl | rfl | rfl | rfl
      · exact str_w "" (by decide +kernel) _
      · exact str_w "-" (by decide +kernel) _
      · exact str_w "-0" (by decide +kernel) _
      · exact str_w "00" (by decide +kernel) _
      · exact str_w "none" (by decide +kernel) _
      · exact str_w "999999999" (by decide +kernel) _
      · exact str_w "1000000000" (by decide +kernel) _
      · exact str_w "-7" (by decide +kernel) _
      · exact str_w "+1" (by decide +kernel) _
      · obtain ⟨a1, a2⟩ := p3 wa hwa
        exact ⟨wa, rfl, by omega, fun c hc => hcp c (a2 c hc)⟩
    have hNL4 : H4 NL = some (.lst ((prts x).map fun w => V.str (txt w))) := B4 _ _ ((Same.new hSL) _ _ hNL3) hNp
    have B04 : But p H H4 := B2.trans (B3.trans ((But.new hSL).trans B4))
    refine ⟨⟨_, rfl⟩, _, rfl, _, rfl, _, rfl, NL, _, rfl, SqL.of hNL4, fun A1 hA1 => ?_⟩
    obtain ⟨n0, rfl⟩ : ∃ n : Nat, at0 = (n : Int) := ⟨at0.toNat, by omega⟩
    have hn0 : n0 < (prts x).length := by omega
    rw [cutV_toA]
    have D5 := D4.new hA1 (o := .lst (((prts x).map fun w => V.str (txt w)).take n0))
    have hA1p := D4.ne hA1
    have hA15 : (upd H4 A1 (.lst (((prts x).map fun w => V.str (txt w)).take n0))) A1 = some (.lst (((prts x).take n0).map fun w => V.str (txt w))) := by rw [upd_same, List.map_take]
    have hNL5 := (Same.new (o := .lst (((prts x).map fun w => V.str (txt w)).take n0)) hA1) _ _ hNL4
    have B05 := B04.trans (But.new (o := .lst (((prts x).map fun w => V.str (txt w)).take n0)) hA1)
    generalize upd H4 A1 (.lst (((prts x).map fun w => V.str (txt w)).take n0)) = H5 at D5 hA15 hNL5 B05 ⊢
    refine ⟨_, rfl, (by show 1 ≤ sizeLine; decide), fun A2 hA2 => ?_⟩
    have hA2p := D5.ne hA2
    refine ⟨_, rfl, p, 3, rfl, D5.new hA2, by omega, by omega, fun r3 H6 r30 r33 D6 B6 => ?_⟩
    have hA26 := B6 _ _ (upd_same (H := H5) (a := A2) (o := .lst [.str (txt wd)])) hA2p
    have hA16 := B6 _ _ ((Same.new hA2) _ _ hA15) hA1p
    have hNL6 := B6 _ _ ((Same.new hA2) _ _ hNL5) hNp
    have B06 := B05.trans ((But.new hA2).trans B6)
    refine ⟨_, rfl, A2, _, rfl, SqL.of hA26, fun A3 hA3 => ?_⟩
    obtain ⟨n3, rfl⟩ : ∃ n : Nat, r3 = (n : Int) := ⟨r3.toNat, by omega⟩
    rw [cutV_toA]
    have hA3c : ([V.str (txt wd)] : List V).take n3 = ([wd].take n3).map fun w => V.str (txt w) := by rw [List.map_take]; rfl
    rw [hA3c]
    have s7 := Same.new (o := .lst (([wd].take n3).map fun w => V.str (txt w))) hA3
    have hl1 : ([wd].take n3).length ≤ 1 := by rw [List.length_take]; exact Nat.min_le_right _ _
    refine ⟨A1, A3, _, _, rfl, rfl, s7 _ _ hA16, upd_same, by rw [List.length_map, List.length_map, List.length_take]; exact Nat.le_of_lt (small_ok (by omega)), fun A4 hA4 => ?_⟩
    rw [← List.map_append]
    have s8 := s7.trans (Same.new (o := .lst (((prts x).take n0 ++ [wd].take n3).map fun w => V.str (txt w))) hA4)
    have D8 := Same.dr s8 D6
    have hA48 : (upd (upd H6 A3 (.lst (([wd].take n3).map fun w => V.str (txt w)))) A4 (.lst (((prts x).take n0 ++ [wd].take n3).map fun w => V.str (txt w)))) A4 = some (.lst (((prts x).take n0 ++ [wd].take n3).map fun w => V.str (txt w))) := upd_same
    have hA4p := DrAt.ne (Same.dr s7 D6) hA4
    have hNL8 := s8 _ _ hNL6
    have B08 := B06.trans (Same.but s8)
    generalize upd (upd H6 A3 (.lst (([wd].take n3).map fun w => V.str (txt w)))) A4 (.lst (((prts x).take n0 ++ [wd].take n3).map fun w => V.str (txt w))) = H8 at D8 hA48 hNL8 B08 ⊢
    refine ⟨_, rfl, _, rfl, _, rfl, p, 2, rfl, D8, by omega, by omega, fun q2 H9 q20 q22 D9 B9 => ?_⟩
    have hNL9 := B9 _ _ hNL8 hNp
    have hA49 := B9 _ _ hA48 hA4p
    refine ⟨_, _, rfl, rfl, _, rfl, NL, _, rfl, SqL.of hNL9, fun A5 hA5 => ?_⟩
    obtain ⟨m2, rfl⟩ : ∃ n : Nat, q2 = (n : Int) := ⟨q2.toNat, by omega⟩
    rw [← Int.natCast_add, cutV_from _ (by rw [List.length_map]; omega), ← List.map_drop]
    have s10 := Same.new (o := .lst (((prts x).drop (n0 + m2)).map fun w => V.str (txt w))) hA5
    refine ⟨A4, A5, _, _, rfl, rfl, s10 _ _ hA49, upd_same, by rw [List.length_map, List.length_map, List.length_append, List.length_take, List.length_drop]; exact Nat.le_of_lt (small_ok (by omega)), fun A6 hA6 => ?_⟩
    rw [← List.map_append]
    have s11 := s10.trans (Same.new (o := .lst ((((prts x).take n0 ++ [wd].take n3) ++ (prts x).drop (n0 + m2)).map fun w => V.str (txt w))) hA6)
    obtain ⟨ws, hws⟩ : ∃ ws, ws = ((prts x).take n0 ++ [wd].take n3) ++ (prts x).drop (n0 + m2) := ⟨_, rfl⟩
    rw [← hws] at s11 ⊢
    have e1 : (ws.map fun w => V.str (txt w)) = (ws.map txt).map V.str := by rw [List.map_map]; rfl
    -- how long
    have hsum : (ws.map List.length).sum + ws.length ≤ 2 * x.length + 12 := by
      have t1 := sum_td (prts x) n0
      have t2 := sum_td ((prts x).drop n0) m2
      rw [List.drop_drop] at t2
      have t3 : (([wd].take n3).map List.length).sum ≤ x.length + 10 := by
        cases n3 with
        | zero => exact Nat.zero_le _
        | succ n =>
          show wd.length + ((([] : List (List Nat)).take n).map List.length).sum ≤ _
          rw [List.take_nil]
          show wd.length + 0 ≤ _
          omega
      rw [hws, List.map_append, List.map_append, List.sum_append, List.sum_append, List.length_append, List.length_append, List.length_take, List.length_drop]
      have hl1 : ([wd].take n3).length ≤ 1 := by rw [List.length_take]; exact Nat.min_le_right _ _
      omega
    have hlen2 : ((ws.map txt).map fun s : Str => s.length).sum = (ws.map List.length).sum := by
      rw [List.map_map]
      exact congrArg List.sum (List.map_congr_left fun w _ => txt_length w)
    rw [e1] at s11 ⊢
    refine ⟨_, A6, ws.map txt, rfl, rfl, .inl (SqL.of upd_same), ?_, ?_⟩
    · rw [hlen2, List.length_map]
      show _ + ws.length * 1 ≤ _
      omega
    rw [show Txt.join (Str.ofString " ") (ws.map txt) = txt (TL.joinL [32] ws) from by rw [eSp]; exact join_txt ws]
    have hjl := joinL_len ws
    refine k _ _ ?_ (by omega) (Same.dr s11 D9) ((B08.trans B9).trans (Same.but s11))
    intro c hc
    rcases joinL_mem hc with rfl | ⟨w, hw, hcw⟩
    · decide
    rw [hws] at hw
    rcases List.mem_append.mp hw with hw | hw
    · rcases List.mem_append.mp hw with hw | hw
      · exact hcp c ((p3 w (List.mem_of_mem_take hw)).2 c hcw)
      · have := List.mem_of_mem_take hw
        rw [List.mem_singleton.mp this] at hcw
        exact wd2 c hcw
    · exact hcp c ((p3 w (List.mem_of_mem_drop hw)).2 c hcw)
end
end W

set_option Elab.async false
set_option linter.all false
set_option maxRecDepth 100000
set_option maxHeartbeats 4000000
namespace W
open PySem L2 WM
section
variable {P : Program} {w : World} {K : PySem.W.Frag} {mg : Str → Option Value} {base : Heap}
theorem ok_drawW {f : Addr} {fd : FuncData} (F : Fun K "_law_draw" "_law_draw" sDraw f fd) : FnOk P w K mg base CX0 1 f fd ["draws", "many"] spDrawW := by
  refine F.ok scDraw (fun vs H Q E h => ?_) (fun cdv A outer s H vs Q E hr h => ?_)
  · obtain ⟨p, m, rfl, _⟩ := h
    rfl
  · obtain ⟨p, m, rfl, ⟨a, b, c, hp, D⟩, ⟨m0, m1⟩, k⟩ := h
    refine ⟨_, (@pss_cons _ _ _ _ _ (@ps_if _ _ _ _ _ _ _ _ (@pt_cmpR _ _ _ _ _ _ _ _ op_gt (@pe_ix _ _ _ _ _ _ _ ix_list (@pv _ 0 _ _ (by rfl) (by first | exact Or.inl rfl | exact Or.inr (Or.inl rfl) | exact Or.inr (Or.inr rfl)) (by decide) (by decide)) (@pe_int _ _ _ _) (fun _ _ => rfl)) (@pe_int _ _ _ _) (nomark _)) (@pss_cons _ _ _ _ _ (@ps_set _ _ 2 _ _ _ _ scDraw.nd rfl (Or.inl rfl) (@pe_op _ _ _ _ _ _ _ _ op_mod (@pe_ix _ _ _ _ _ _ _ ix_list (@pv _ 0 _ _ (by rfl) (by first | exact Or.inl rfl | exact Or.inr (Or.inl rfl) | exact Or.inr (Or.inr rfl)) (by decide) (by decide)) (@pe_int _ _ _ _) (fun _ _ => rfl)) (@pv _ 1 _ _ (by rfl) (by first | exact Or.inl rfl | exact Or.inr (Or.inl rfl) | exact Or.inr (Or.inr rfl)) (by decide) (by decide))) (by rfl) (by first | exact .inl rfl | exact .inr rfl | assumption)) (@pss_cons _ _ _ _ _ (@ps_asg _ _ _ _ _ _ (@pe_op _ _ _ _ _ _ _ _ op_fdivW (@pe_ix _ _ _ _ _ _ _ ix_list (@pv _ 0 _ _ (by rfl) (by first | exact Or.inl rfl | exact Or.inr (Or.inl rfl) | exact Or.inr (Or.inr rfl)) (by decide) (by decide)) (@pe_int _ _ _ _) (fun _ _ => rfl)) (@pv _ 1 _ _ (by rfl) (by first | exact Or.inl rfl | exact Or.inr (Or.inl rfl) | exact Or.inr (Or.inr rfl)) (by decide) (by decide))) (@pg_sub _ _ _ _ _ _ _ (@pv _ 0 _ _ (by rfl) (by first | exact Or.inl rfl | exact Or.inr (Or.inl rfl) | exact Or.inr (Or.inr rfl)) (by decide) (by decide)) (@pe_int _ _ _ _) set_list (by intro _ ; rfl)) (by rfl) (by rfl) (by rfl)) (@pss_one _ _ _ (@ps_ret _ _ _ _ (@pv _ 2 _ _ (by rfl) (by first | exact Or.inl rfl | exact Or.inr (Or.inl rfl) | exact Or.inr (Or.inr rfl)) (by decide) (by decide)))))) (@pss_nil _)) (@pss_cons _ _ _ _ _ (@ps_asg _ _ _ _ _ _ (@pe_op _ _ _ _ _ _ _ _ op_add (@pe_op _ _ _ _ _ _ _ _ op_mod (@pe_op _ _ _ _ _ _ _ _ op_mul (@pe_ix _ _ _ _ _ _ _ ix_list (@pv _ 0 _ _ (by rfl) (by first | exact Or.inl rfl | exact Or.inr (Or.inl rfl) | exact Or.inr (Or.inr rfl)) (by decide) (by decide)) (@pe_int _ _ _ _) (fun _ _ => rfl)) (@pe_int _ _ _ _)) (@pe_ix _ _ _ _ _ _ _ ix_list (@pv _ 0 _ _ (by rfl) (by first | exact Or.inl rfl | exact Or.inr (Or.inl rfl) | exact Or.inr (Or.inr rfl)) (by decide) (by decide)) (@pe_int _ _ _ _) (fun _ _ => rfl))) (@pe_int _ _ _ _)) (@pg_sub _ _ _ _ _ _ _ (@pv _ 0 _ _ (by rfl) (by first | exact Or.inl rfl | exact Or.inr (Or.inl rfl) | exact Or.inr (Or.inr rfl)) (by decide) (by decide)) (@pe_int _ _ _ _) set_list (by intro _ ; rfl)) (by rfl) (by rfl) (by rfl)) (@pss_one _ _ _ (@ps_ret _ _ _ _ (@pe_op _ _ _ _ _ _ _ _ op_mod (@pe_op _ _ _ _ _ _ _ _ op_fdiv (@pe_op _ _ _ _ _ _ _ _ op_mod (@pe_op _ _ _ _ _ _ _ _ op_mul (@pe_ix _ _ _ _ _ _ _ ix_list (@pv _ 0 _ _ (by rfl) (by first | exact Or.inl rfl | exact Or.inr (Or.inl rfl) | exact Or.inr (Or.inr rfl)) (by decide) (by decide)) (@pe_int _ _ _ _) (fun _ _ => rfl)) (@pe_op _ _ _ _ _ _ _ _ op_add (@pe_op _ _ _ _ _ _ _ _ op_fdiv (@pe_ix _ _ _ _ _ _ _ ix_list (@pv _ 0 _ _ (by rfl) (by first | exact Or.inl rfl | exact Or.inr (Or.inl rfl) | exact Or.inr (Or.inr rfl)) (by decide) (by decide)) (@pe_int _ _ _ _) (fun _ _ => rfl)) (@pe_int _ _ _ _)) (@pe_int _ _ _ _))) (@pe_int _ _ _ _)) (@pe_int _ _ _ _)) (@pv _ 1 _ _ (by rfl) (by first | exact Or.inl rfl | exact Or.inr (Or.inl rfl) | exact Or.inr (Or.inr rfl)) (by decide) (by decide))))))), ?_⟩
    refine ⟨_, rfl, p, _, _, _, rfl, rfl, SqL.of hp, atI_nat (j := 0) rfl, _, _, rfl, rfl, _, rfl, ?_⟩
    refine ite2 (fun _ => ?_) (fun _ => ?_)
    · refine ⟨_, rfl, p, _, _, _, rfl, rfl, SqL.of hp, atI_nat (j := 0) rfl, _, rfl, _, _, rfl, rfl, m0, ?_⟩
      refine ⟨_, rfl, p, _, _, _, rfl, rfl, SqL.of hp, atI_nat (j := 0) rfl, _, rfl, _, _, rfl, rfl, ⟨m0, m1⟩, ?_⟩
      refine ⟨_, rfl, p, _, _, 0, rfl, rfl, hp, rfl, ?_⟩
      refine ⟨_, rfl, ?_⟩
      refine k _ _ (Int.emod_nonneg _ (by omega)) (Int.emod_lt_of_pos _ m0) ⟨a / m, b, c, upd_same, ?_⟩ (But.upd _ _ _)
      exact ⟨Int.ediv_nonneg D.a0 (by omega), D.b0, D.b1, D.c0, D.c1⟩
    · refine ⟨_, rfl, p, _, _, _, rfl, rfl, SqL.of hp, atI_nat (j := 1) rfl, _, _, rfl, rfl, .inr ⟨by decide, by decide⟩, _, rfl, p, _, _, _, rfl, rfl, SqL.of hp, atI_nat (j := 2) rfl, _, _, rfl, rfl, D.c0, _, _, rfl, rfl, ?_⟩
      refine ⟨_, rfl, p, _, _, 1, rfl, rfl, hp, rfl, ?_⟩
      have r0 : 0 ≤ b * 69621 % c := Int.emod_nonneg _ (by have := D.c0; omega)
      have r1 : b * 69621 % c < c := Int.emod_lt_of_pos _ D.c0
      have c1 := D.c1
      refine ⟨_, rfl, p, _, _, _, rfl, rfl, SqL.of upd_same, atI_nat (j := 1) rfl, _, rfl, p, _, _, _, rfl, rfl, SqL.of upd_same, atI_nat (j := 1) rfl, _, _, rfl, rfl, ⟨by decide, by decide⟩, _, _, rfl, rfl,
        _, _, rfl, rfl, .inl ⟨by show -(2 ^ 64) < b * 69621 % c + 1; omega, by show b * 69621 % c + 1 < 2 ^ 64; omega⟩, _, _, rfl, rfl, (by show (0 : Int) < 2147483423; decide), _, _, rfl, rfl, ⟨by decide, by decide⟩, _, rfl, _, _, rfl, rfl, m0, ?_⟩
      refine k _ _ (Int.emod_nonneg _ (by omega)) (Int.emod_lt_of_pos _ m0) ⟨a, b * 69621 % c + 1, c, upd_same, ?_⟩ (But.upd _ _ _)
      exact ⟨D.a0, by omega, by omega, D.c0, D.c1⟩
theorem cal_draww (D : Def K mg "_law_draw" sDraw psDraw) : Cal P w K mg base CX0 1 "_law_draw" psDraw spDrawW := cal_mk D fun f fd F => ok_drawW F
end
end W

set_option Elab.async false
set_option linter.all false
set_option maxRecDepth 100000
set_option maxHeartbeats 4000000
namespace W
open PySem L2 WM

abbrev sLaw : Stmt := top 35
abbrev psLaw : List Str := ["script"]
theorem scLaw : FnScope ["script", "k", "draws", "turns", "j", "great", "handed", "text", "turn", "due"] ["script"] (defScope sLaw) := ⟨rfl, rfl, rfl, by decide +kernel, rfl, by decide +kernel, by decide +kernel⟩
theorem lLaw_0 : Loc (defScope sLaw) "script" := Or.inl (by decide +kernel)
theorem vLaw_0 : Vis (defScope sLaw) "script" := Or.inl (by decide +kernel)
theorem lLaw_1 : Loc (defScope sLaw) "k" := Or.inl (by decide +kernel)
theorem vLaw_1 : Vis (defScope sLaw) "k" := Or.inl (by decide +kernel)
theorem lLaw_2 : Loc (defScope sLaw) "draws" := Or.inl (by decide +kernel)
theorem vLaw_2 : Vis (defScope sLaw) "draws" := Or.inl (by decide +kernel)
theorem lLaw_3 : Loc (defScope sLaw) "turns" := Or.inl (by decide +kernel)
theorem vLaw_3 : Vis (defScope sLaw) "turns" := Or.inl (by decide +kernel)
theorem lLaw_4 : Loc (defScope sLaw) "j" := Or.inl (by decide +kernel)
theorem lLaw_5 : Loc (defScope sLaw) "great" := Or.inl (by decide +kernel)
theorem vLaw_5 : Vis (defScope sLaw) "great" := Or.inl (by decide +kernel)
theorem lLaw_6 : Loc (defScope sLaw) "handed" := Or.inl (by decide +kernel)
theorem vLaw_6 : Vis (defScope sLaw) "handed" := Or.inl (by decide +kernel)
theorem lLaw_7 : Loc (defScope sLaw) "text" := Or.inl (by decide +kernel)
theorem vLaw_7 : Vis (defScope sLaw) "text" := Or.inl (by decide +kernel)
theorem lLaw_8 : Loc (defScope sLaw) "turn" := Or.inl (by decide +kernel)
theorem lLaw_9 : Loc (defScope sLaw) "due" := Or.inl (by decide +kernel)
theorem vLaw_9 : Vis (defScope sLaw) "due" := Or.inl (by decide +kernel)
section
variable {P : Program} {w : World} {K : PySem.W.Frag} {mg : Str → Option Value} {base : Heap}
theorem num_pos (t : Int) : 1 ≤ (Str.ofString (toString t)).length := by
  cases t with
  | ofNat m =>
    have e2 : (Str.ofString (toString (Int.ofNat m))).cps.toList = (Nat.toDigits 10 m).map Char.toNat := PySem.W.KIN.signs_num m
    have e3 := congrArg List.length e2
    rw [List.length_map, Array.length_toList] at e3
    have := PySem.toDigits_len_ge 10 m
    show 1 ≤ (Str.ofString (toString (Int.ofNat m))).cps.size
    omega
  | negSucc m =>
    have e2 : (Str.ofString (toString (Int.negSucc m))).cps.toList = (toString (Int.negSucc m)).toList.map Char.toNat := PyProof.Rows.signs_ofString _
    have e3 := congrArg List.length e2
    rw [List.length_map, Array.length_toList] at e3
    show 1 ≤ (Str.ofString (toString (Int.negSucc m))).cps.size
    rw [e3]
    show 1 ≤ ("-" ++ Nat.repr (m + 1)).toList.length
    rw [String.toList_append, List.length_append]
    exact Nat.le_add_right 1 _
/-- the text of turns -/
theorem shT_ok {ts : List Int} (hl : ts.length ≤ 200) (hb : ∀ t ∈ ts, -(10 ^ 9) < t ∧ t < 10 ^ 9) : ∃ x : List Nat, shT ts = txt x ∧ x.length ≤ 6500 ∧ Cp x ∧ ((ts.map fun t => Str.ofString (toString t)).map fun s : Str => s.length).sum ≤ 6200 ∧
    (if ((Txt.join " " (ts.map fun t => Str.ofString (toString t))).length : Int) != 0 then Txt.join " " (ts.map fun t => Str.ofString (toString t)) else "none") = shT ts ∧ (Txt.join " " (ts.map fun t => Str.ofString (toString t))).length ≤ 6500 := by
  have eSp : Str.ofString " " = txt [32] := by decide +kernel
  obtain ⟨ws, hws⟩ : ∃ ws, ws = ts.map fun t => (Str.ofString (toString t)).cps.toList := ⟨_, rfl⟩
  have ew : (ts.map fun t => Str.ofString (toString t)) = ws.map txt := by
    rw [hws, List.map_map]
    exact List.map_congr_left fun t _ => (txt_back _).symm
  have ej : Txt.join " " (ts.map fun t => Str.ofString (toString t)) = txt (TL.joinL [32] ws) := by
    rw [ew]
    show Txt.join (Str.ofString " ") _ = _
    rw [eSp]
    exact join_txt ws
  have hs : ∀ xs : List Int, (∀ t ∈ xs, -(10 ^ 9) < t ∧ t < 10 ^ 9) → ((xs.map fun t => Str.ofString (toString t)).map fun x : Str => x.length).sum ≤ 31 * xs.length := fun xs => by
    induction xs with
    | nil => intro _; exact Nat.le_refl _
    | cons x xs ih =>
      intro hx
      rw [List.map_cons, List.map_cons, List.sum_cons, List.length_cons]
      have := num_len (hx x List.mem_cons_self)
      have := ih fun t ht => hx t (List.mem_cons_of_mem _ ht)
      omega
  have hsum := hs ts hb
  have hsw : (ws.map List.length).sum = ((ts.map fun t => Str.ofString (toString t)).map fun x : Str => x.length).sum := by
    rw [ew, List.map_map]
    exact congrArg List.sum (List.map_congr_left fun w _ => (txt_length w).symm)
  have hwl : ws.length = ts.length := by rw [hws, List.length_map]
  have hjl := joinL_len ws
  have hjx : (TL.joinL [32] ws).length ≤ 6500 := by omega
  have hcp : Cp (TL.joinL [32] ws) := fun c hc => by
    rcases joinL_mem hc with rfl | ⟨w, hw, hcw⟩
    · decide
    · rw [hws] at hw
      obtain ⟨t, _, rfl⟩ := List.mem_map.mp hw
      exact str_cp _ c hcw
  by_cases e : ts = []
  · subst e
    refine ⟨[110, 111, 110, 101], by decide +kernel, by decide, by unfold Cp; decide, by decide, by decide +kernel, by decide +kernel⟩
  · have hsh : shT ts = Txt.join " " (ts.map fun t => Str.ofString (toString t)) := by
      unfold shT lstd
      rw [if_neg (fun z => e (List.map_eq_nil_iff.mp z))]
    have hpos : 1 ≤ (TL.joinL [32] ws).length := by
      cases ts with
      | nil => exact absurd rfl e
      | cons t r =>
        have h1 := num_pos t
        have h1 : 1 ≤ ((Str.ofString (toString t)).cps.toList).length := by rw [Array.length_toList]; exact h1
        rw [hws]
        cases r with
        | nil => exact h1
        | cons u r =>
          show 1 ≤ ((Str.ofString (toString t)).cps.toList ++ ([32] ++ TL.joinL [32] (((u :: r).map fun t => (Str.ofString (toString t)).cps.toList)))).length
          rw [List.length_append]
          exact Nat.le_trans h1 (Nat.le_add_right _ _)
    refine ⟨TL.joinL [32] ws, by rw [hsh, ej], hjx, hcp, Nat.le_trans hsum (by omega), ?_, by rw [ej, txt_length]; exact hjx⟩
    rw [hsh, if_pos]
    rw [ej, txt_length]
    exact bne_iff_ne.mpr fun z => by omega
theorem ifOr {b : Bool} {u v y : Str} {σ : St} {H : Hp} {F : V → Hp → Prop} (e : (if b = true then u else v) = y) (h : F (.str y) H) : if b = true then F (.str u) H else tC (.str v) σ H F := by
  cases b with
  | true => rw [if_pos rfl] at e ⊢; rw [e]; exact h
  | false => rw [if_neg Bool.false_ne_true] at e ⊢; subst e; exact h
theorem ifNS {x : Str} {A B : Prop} (h : B) : if (!decide (V.str x = V.str x)) = true then A else B := by
  rw [decide_eq_true rfl]
  exact h
theorem ifQn {d e : PyData} {A B : Prop} (h : PyData.eqv d e = true) (hb : B) : if (!PyData.eqv d e) = true then A else B := by
  rw [h]
  exact hb
def spLaw (K : PySem.W.Frag) : Sp := fun vs H Q _ => ∃ (a : Addr) (ns : List Int), vs = [.ref a] ∧ SqL K H a (ns.map V.int) ∧ ns.length ≤ 63 ∧ ∀ H', Q (.bl true) H'
theorem ok_law {f : Addr} {fd : FuncData} (F : Fun K "law" "law" sLaw f fd) (T : Txt mg) (CDs : Cal P w K mg base CX0 1 "_law_draws" ["script", "k"] (spDraws K)) (CDw : Cal P w K mg base CX0 1 "_law_draw" ["draws", "many"] spDrawW)
    (CSh : Cal P w K mg base CX0 2 "show_turns" ["turns"] (spShT K)) (CRi : Cal P w K mg base CX0 4 "_law_right" ["text"] (spRig K)) (CSp : Cal P w K mg base CX0 3 "_law_spoilt" ["text", "draws"] spSpo) (CTh : Cal P w K mg base CX0 7 "_law_thing" ["draws", "deep"] (spThi K 3)) :
    FnOk P w K mg base CX0 8 f fd ["script"] (spLaw K) := by
  obtain ⟨fDs, dDs, GDs, kDs, bDs, mDs⟩ := CDs
  obtain ⟨fDw, dDw, GDw, kDw, bDw, mDw⟩ := CDw
  obtain ⟨fSh, dSh, GSh, kSh, bSh, mSh⟩ := CSh
  obtain ⟨fRi, dRi, GRi, kRi, bRi, mRi⟩ := CRi
  obtain ⟨fSp, dSp, GSp, kSp, bSp, mSp⟩ := CSp
  obtain ⟨fTh, dTh, GTh, kTh, bTh, mTh⟩ := CTh
  refine F.ok scLaw (fun vs H Q E h => ?_) (fun cdv A outer s H vs Q E hr h => ?_)
  · obtain ⟨a, ns, rfl, _⟩ := h
    rfl
  · obtain ⟨a, ns, rfl, hS, hlen, k⟩ := h
    refine ⟨_, (@pss_cons _ _ _ _ _ (@ps_for _ _ _ _ _ _ _ _ PassesOwn.never rfl (@pi_range1 _ _ _ _ _ _ (by rfl) T.range (@pa_cK _ _ _ _ _ _ _ _ (@pe_callB _ _ _ _ _ _ _ _ _ (call_max2 rfl) (by rfl) T.max (by decide +kernel) (@pa_cC _ _ _ _ _ _ _ (@pe_int _ _ _ _) (@pa_cK _ _ _ _ _ _ _ _ (@pe_callB _ _ _ _ _ _ _ _ _ (call_min2 rfl) (by rfl) T.min (by decide +kernel) (@pa_cC _ _ _ _ _ _ _ (@pe_int _ _ _ _) (@pa_cK _ _ _ _ _ _ _ _ (@pe_callB _ _ _ _ _ _ _ _ _ call_len_seq (by rfl) T.len PySem.boot_len (@pa_cN _ _ _ _ _ _ (@pv _ 0 _ _ (by rfl) vLaw_0 (by decide) (by decide)) (@pa_nil _)) (by decide) (by decide) (by rfl) (by rfl)) (@pa_nil _))) (by decide) (by decide) (by rfl) (by rfl)) (@pa_nil _))) (by decide) (by decide) (by rfl) (by rfl)) (@pa_nil _)) (by rfl)) (@pg_name _ _ 1 _ scLaw.nd rfl lLaw_1 (by first | exact .inl rfl | exact .inr rfl | assumption)) (@pss_cons _ _ _ _ _ (@ps_set _ _ 2 _ _ _ _ scLaw.nd rfl lLaw_2 (@pe_call _ _ _ _ _ _ _ _ _ _ _ _ _ _ _ _ GDs (hr.mono (by decide)) (by rfl) mDs kDs bDs .nil pass0 (@pa_cN _ _ _ _ _ _ (@pv _ 0 _ _ (by rfl) vLaw_0 (by decide) (by decide)) (@pa_cN _ _ _ _ _ _ (@pv _ 1 _ _ (by rfl) vLaw_1 (by decide) (by decide)) (@pa_nil _))) (by decide) (by rfl) (by rfl)) (by rfl) (by first | exact .inl rfl | exact .inr rfl | assumption)) (@pss_cons _ _ _ _ _ (@ps_set _ _ 3 _ _ _ _ scLaw.nd rfl lLaw_3 (@pe_lst _ _ _ _ (@pa_nil _)) (by rfl) (by first | exact .inl rfl | exact .inr rfl | assumption)) (@pss_cons _ _ _ _ _ (@ps_for _ _ _ _ _ _ _ _ PassesOwn.never rfl (@pi_range1 _ _ _ _ _ _ (by rfl) T.range (@pa_cS _ _ _ _ _ _ _ (@pe_ix _ _ _ _ _ _ _ ix_list (@pe_lst _ _ _ _ (@pa_cK _ _ _ _ _ _ _ _ (@pe_call _ _ _ _ _ _ _ _ _ _ _ _ _ _ _ _ GDw (hr.mono (by decide)) (by rfl) mDw kDw bDw .nil pass0 (@pa_cN _ _ _ _ _ _ (@pv _ 2 _ _ (by rfl) vLaw_2 (by decide) (by decide)) (@pa_cC _ _ _ _ _ _ _ (@pe_int _ _ _ _) (@pa_nil _))) (by decide) (by rfl) (by rfl)) (@pa_cK _ _ _ _ _ _ _ _ (@pe_call _ _ _ _ _ _ _ _ _ _ _ _ _ _ _ _ GDw (hr.mono (by decide)) (by rfl) mDw kDw bDw .nil pass0 (@pa_cN _ _ _ _ _ _ (@pv _ 2 _ _ (by rfl) vLaw_2 (by decide) (by decide)) (@pa_cC _ _ _ _ _ _ _ (@pe_int _ _ _ _) (@pa_nil _))) (by decide) (by rfl) (by rfl)) (@pa_nil _)))) (@pe_call _ _ _ _ _ _ _ _ _ _ _ _ _ _ _ _ GDw (hr.mono (by decide)) (by rfl) mDw kDw bDw .nil pass0 (@pa_cN _ _ _ _ _ _ (@pv _ 2 _ _ (by rfl) vLaw_2 (by decide) (by decide)) (@pa_cC _ _ _ _ _ _ _ (@pe_int _ _ _ _) (@pa_nil _))) (by decide) (by rfl) (by rfl)) (fun _ _ => rfl)) (@pa_nil _)) (by rfl)) (@pg_name _ _ 4 _ scLaw.nd rfl lLaw_4 (by first | exact .inl rfl | exact .inr rfl | assumption)) (@pss_cons _ _ _ _ _ (@ps_set _ _ 5 _ _ _ _ scLaw.nd rfl lLaw_5 (@pe_op _ _ _ _ _ _ _ _ op_add (@pe_op _ _ _ _ _ _ _ _ op_sub (@pe_call _ _ _ _ _ _ _ _ _ _ _ _ _ _ _ _ GDw (hr.mono (by decide)) (by rfl) mDw kDw bDw .nil pass0 (@pa_cN _ _ _ _ _ _ (@pv _ 2 _ _ (by rfl) vLaw_2 (by decide) (by decide)) (@pa_cB _ _ _ _ _ _ _ _ (@pe_op _ _ _ _ _ _ _ _ op_sub (@pe_op _ _ _ _ _ _ _ _ op_mul (@pe_int _ _ _ _) (@pe_op _ _ _ _ _ _ _ _ op_pow (@pe_int _ _ _ _) (@pe_int _ _ _ _))) (@pe_int _ _ _ _)) (@pa_nil _))) (by decide) (by rfl) (by rfl)) (@pe_op _ _ _ _ _ _ _ _ op_pow (@pe_int _ _ _ _) (@pe_int _ _ _ _))) (@pe_int _ _ _ _)) (by rfl) (by first | exact .inl rfl | exact .inr rfl | assumption)) (@pss_one _ _ _ (@ps_expr _ _ _ _ (@pe_bm _ _ _ _ _ _ _ _ _ _ _ _ PySem.F.plainAttrs_list PySem.F.slot_list_append PySem.F.type_list_append mt_append (@pv _ 3 _ _ (by rfl) vLaw_3 (by decide) (by decide)) (@pa_cS _ _ _ _ _ _ _ (@pe_ix _ _ _ _ _ _ _ ix_list (@pe_lst _ _ _ _ (@pa_cB _ _ _ _ _ _ _ _ (@pe_op _ _ _ _ _ _ _ _ op_sub (@pe_call _ _ _ _ _ _ _ _ _ _ _ _ _ _ _ _ GDw (hr.mono (by decide)) (by rfl) mDw kDw bDw .nil pass0 (@pa_cN _ _ _ _ _ _ (@pv _ 2 _ _ (by rfl) vLaw_2 (by decide) (by decide)) (@pa_cC _ _ _ _ _ _ _ (@pe_int _ _ _ _) (@pa_nil _))) (by decide) (by rfl) (by rfl)) (@pe_int _ _ _ _)) (@pa_cN _ _ _ _ _ _ (@pv _ 5 _ _ (by rfl) vLaw_5 (by decide) (by decide)) (@pa_nil _)))) (@pe_op _ _ _ _ _ _ _ _ op_fdiv (@pe_call _ _ _ _ _ _ _ _ _ _ _ _ _ _ _ _ GDw (hr.mono (by decide)) (by rfl) mDw kDw bDw .nil pass0 (@pa_cN _ _ _ _ _ _ (@pv _ 2 _ _ (by rfl) vLaw_2 (by decide) (by decide)) (@pa_cC _ _ _ _ _ _ _ (@pe_int _ _ _ _) (@pa_nil _))) (by decide) (by rfl) (by rfl)) (@pe_int _ _ _ _)) (fun _ _ => rfl)) (@pa_nil _)) (by rfl) (by rfl) (by rfl) (by rfl) (by rfl)) (by rfl)))) (by intro _ ; rfl)) (@pss_cons _ _ _ _ _ (@ps_set _ _ 6 _ _ _ _ scLaw.nd rfl lLaw_6 (@pe_callTy _ _ _ _ _ _ _ _ _ call_list_of (by rfl) T.list (by decide +kernel) (@pa_cN _ _ _ _ _ _ (@pv _ 3 _ _ (by rfl) vLaw_3 (by decide) (by decide)) (@pa_nil _)) (by decide) (by decide) (by rfl) (by rfl)) (by rfl) (by first | exact .inl rfl | exact .inr rfl | assumption)) (@pss_cons _ _ _ _ _ (@ps_set _ _ 7 _ _ _ _ scLaw.nd rfl lLaw_7 (@pe_call _ _ _ _ _ _ _ _ _ _ _ _ _ _ _ _ GSh (hr.mono (by decide)) (by rfl) mSh kSh bSh .nil pass0 (@pa_cN _ _ _ _ _ _ (@pv _ 6 _ _ (by rfl) vLaw_6 (by decide) (by decide)) (@pa_nil _)) (by decide) (by rfl) (by rfl)) (by rfl) (by first | exact .inl rfl | exact .inr rfl | assumption)) (@pss_cons _ _ _ _ _ (@ps_set _ _ 9 _ _ _ _ scLaw.nd rfl lLaw_9 (@pe_orS _ _ _ _ _ _ _ (@pe_join _ _ _ _ _ _ _ (@pe_str _ _ _ _) (@pe_lc _ _ _ _ _ _ [("turn", 8)] _ _ (gName 8) _ _ (by rfl) scLaw.nd (@pi_list _ _ _ _ (@pv _ 3 _ _ (by rfl) vLaw_3 (by decide) (by decide))) (blkOk_by (own := [("turn", 8)]) (N := ["script", "k", "draws", "turns", "j", "great", "handed", "text", "turn", "due"]) (sc := defScope sLaw) (by decide +kernel)) (fun _ _ _ _ _ => (@pg_name _ _ 8 _ scLaw.nd rfl (Or.inl rfl) (by first | exact .inl rfl | exact .inr rfl | assumption))) (fun _ _ _ _ _ => (@pts_nil _)) (fun _ _ _ _ _ => (@pe_callTy _ _ _ _ _ _ _ _ _ call_str_int (by rfl) T.str (by decide +kernel) (@pa_cN _ _ _ _ _ _ (@pv _ 8 _ _ (by rfl) (by first | exact Or.inl rfl | exact Or.inr (Or.inl rfl) | exact Or.inr (Or.inr rfl)) (by decide) (by decide)) (@pa_nil _)) (by decide) (by decide) (by rfl) (by rfl))) (by intro _ ; rfl)) (by rfl) (by rfl) (by rfl)) (@pe_one _ _ _ _ _ (@pe_str _ _ _ _))) (by rfl) (by first | exact .inl rfl | exact .inr rfl | assumption)) (@pss_cons _ _ _ _ _ (@ps_if _ _ _ _ _ _ _ _ (@PW.pt _ _ _ (@pw_or _ _ _ _ _ _ _ (@pt_not _ _ _ _ (@pt_val _ _ _ (@pe_callB _ _ _ _ _ _ _ _ _ cr_isi (by rfl) T.isi boot_isi (@pa_cN _ _ _ _ _ _ (@pv _ 7 _ _ (by rfl) vLaw_7 (by decide) (by decide)) (@pa_cN _ _ _ _ _ _ (@pe_bltn _ _ (.ty "str") _ _ (by rfl) T.str (by decide +kernel) rfl (by decide) (by decide)) (@pa_nil _))) (by decide) (by decide) (by rfl) (by rfl)) (by intro _ ; rfl))) (@pw_or _ _ _ _ _ _ _ (@pt_cmpR _ _ _ _ _ _ _ _ op_ne (@pv _ 7 _ _ (by rfl) vLaw_7 (by decide) (by decide)) (@pv _ 9 _ _ (by rfl) vLaw_9 (by decide) (by decide)) (nomark _)) (@pw_or _ _ _ _ _ _ _ (@pt_cmpR _ _ _ _ _ _ _ _ (op_neD hr.units) (@pv _ 6 _ _ (by rfl) vLaw_6 (by decide) (by decide)) (@pv _ 3 _ _ (by rfl) vLaw_3 (by decide) (by decide)) (nomark _)) (@pw_or1 _ _ _ _ (@pt_not _ _ _ _ (@pt_val _ _ _ (@pe_call _ _ _ _ _ _ _ _ _ _ _ _ _ _ _ _ GRi (hr.mono (by decide)) (by rfl) mRi kRi bRi .nil pass0 (@pa_cN _ _ _ _ _ _ (@pv _ 7 _ _ (by rfl) vLaw_7 (by decide) (by decide)) (@pa_nil _)) (by decide) (by rfl) (by rfl)) (by intro _ ; rfl)))))))) (@pss_one _ _ _ (@ps_ret _ _ _ _ (@pe_bl _ _ _ _))) (@pss_nil _)) (@pss_cons _ _ _ _ _ (@ps_for _ _ _ _ _ _ _ _ PassesOwn.never rfl (@pi_range1 _ _ _ _ _ _ (by rfl) T.range (@pa_cC _ _ _ _ _ _ _ (@pe_int _ _ _ _) (@pa_nil _)) (by rfl)) (@pg_name _ _ 8 _ scLaw.nd rfl lLaw_8 (by first | exact .inl rfl | exact .inr rfl | assumption)) (@pss_cons _ _ _ _ _ (@ps_set _ _ 7 _ _ _ _ scLaw.nd rfl lLaw_7 (@pe_call _ _ _ _ _ _ _ _ _ _ _ _ _ _ _ _ GSp (hr.mono (by decide)) (by rfl) mSp kSp bSp .nil pass0 (@pa_cN _ _ _ _ _ _ (@pv _ 7 _ _ (by rfl) vLaw_7 (by decide) (by decide)) (@pa_cN _ _ _ _ _ _ (@pv _ 2 _ _ (by rfl) vLaw_2 (by decide) (by decide)) (@pa_nil _))) (by decide) (by rfl) (by rfl)) (by rfl) (by first | exact .inl rfl | exact .inr rfl | assumption)) (@pss_one _ _ _ (@ps_if _ _ _ _ _ _ _ _ (@pt_not _ _ _ _ (@pt_val _ _ _ (@pe_call _ _ _ _ _ _ _ _ _ _ _ _ _ _ _ _ GRi (hr.mono (by decide)) (by rfl) mRi kRi bRi .nil pass0 (@pa_cN _ _ _ _ _ _ (@pv _ 7 _ _ (by rfl) vLaw_7 (by decide) (by decide)) (@pa_nil _)) (by decide) (by rfl) (by rfl)) (by intro _ ; rfl))) (@pss_one _ _ _ (@ps_ret _ _ _ _ (@pe_bl _ _ _ _))) (@pss_nil _)))) (by intro _ ; rfl)) (@pss_one _ _ _ (@ps_if _ _ _ _ _ _ _ _ (@pt_not _ _ _ _ (@pt_val _ _ _ (@pe_call _ _ _ _ _ _ _ _ _ _ _ _ _ _ _ _ GRi (hr.mono (by decide)) (by rfl) mRi kRi bRi .nil pass0 (@pa_cK _ _ _ _ _ _ _ _ (@pe_call _ _ _ _ _ _ _ _ _ _ _ _ _ _ _ _ GTh (hr.mono (by decide)) (by rfl) mTh kTh bTh .nil pass0 (@pa_cN _ _ _ _ _ _ (@pv _ 2 _ _ (by rfl) vLaw_2 (by decide) (by decide)) (@pa_cC _ _ _ _ _ _ _ (@pe_int _ _ _ _) (@pa_nil _))) (by decide) (by rfl) (by rfl)) (@pa_nil _)) (by decide) (by rfl) (by rfl)) (by intro _ ; rfl))) (@pss_one _ _ _ (@ps_ret _ _ _ _ (@pe_bl _ _ _ _))) (@pss_nil _))))))))))) (by intro _ ; rfl)) (@pss_one _ _ _ (@ps_ret _ _ _ _ (@pe_bl _ _ _ _)))), ?_⟩
    refine ⟨_, rfl, a, _, rfl, .inl hS, _, _, rfl, _, _, rfl, ?_⟩
    have hn : ∃ z : Int, (if (if ((ns.map V.int).length : Int) < 16 then ((ns.map V.int).length : Int) else 16) > 1 then (if ((ns.map V.int).length : Int) < 16 then ((ns.map V.int).length : Int) else 16) else 1) = z ∧ 1 ≤ z ∧ z ≤ 16 := by
      refine ⟨_, rfl, ?_, ?_⟩ <;> (split <;> (try split) <;> omega)
    obtain ⟨z, hz', z1, z20⟩ := hn
    refine ⟨_, rfl, ?_⟩
    rw [hz']
    refine ⟨by omega, by omega, for_range (lo := 0) (n := z.toNat) (fun i σ H2 => ∃ o1 o2 o3 o4 o5 o6 o7 o8 o9 : Option V, σ = [some (.ref a), o1, o2, o3, o4, o5, o6, o7, o8, o9] ∧ Same H H2) ?_ ?_ ?_⟩
    · exact ⟨_, _, _, _, _, _, _, _, _, rfl, Same.refl H⟩
    rotate_left
    · rintro σ H2 ⟨_, _, _, _, _, _, _, _, _, rfl, s2⟩
      exact k _
    rintro i σ H2 hi ⟨o1, o2, o3, o4, o5, o6, o7, o8, o9, rfl, s2⟩
    refine ⟨_, rfl, _, rfl, a, ns, _, rfl, s2.seq hS, hlen, by omega, by omega, fun p H3 pn D3 s3 => ?_⟩
    have fin : ∀ {H'}, But p H3 H' → Same H H' := fun b => But.same (s2.trans s3) (s2.free pn) b
    refine ⟨(by show 0 ≤ sizeLine; decide), fun TU hTU => ?_⟩
    have hTp := D3.ne hTU
    refine ⟨_, rfl, ?_⟩
    refine ⟨p, 4, rfl, D3.new hTU, ⟨by decide, by decide⟩, fun u1 H4 u10 u14 D4 B4 => ?_⟩
    refine ⟨_, rfl, p, 201, rfl, D4, ⟨by decide, by decide⟩, fun u2 H5 u20 u24 D5 B5 => ?_⟩
    refine ⟨(by show 2 ≤ sizeLine; decide), fun L1 hL1 => ?_⟩
    refine ⟨_, rfl, p, 2, rfl, D5.new hL1, ⟨by decide, by decide⟩, fun u3 H6 u30 u34 D6 B6 => ?_⟩
    have hLp := D5.ne hL1
    obtain ⟨v, hv, hv'⟩ := at2 (a := .int u1) (b := .int u2) (z := u3) u30 u34
    obtain ⟨M, rfl, hM1, hM2⟩ : ∃ M : Int, v = .int M ∧ 0 ≤ M ∧ M ≤ 200 := by
      rcases hv' with rfl | rfl
      · exact ⟨_, rfl, by omega, by omega⟩
      · exact ⟨_, rfl, by omega, by omega⟩
    have hT6 : H6 TU = some (.lst []) := B6 _ _ ((Same.new hL1) _ _ (B5 _ _ (B4 _ _ upd_same hTp) hTp)) hTp
    have B36 : But p H3 H6 := (But.new hTU).trans (B4.trans (B5.trans ((But.new hL1).trans B6)))
    refine ⟨L1, _, _, _, rfl, rfl, SqL.of (B6 _ _ upd_same hLp), hv, ?_⟩
    refine ⟨_, rfl, by omega, by omega, for_range (lo := 0) (n := M.toNat) (fun j σ H7 => ∃ (q4 q5 : Option V) (ts : List Int), σ = [some (.ref a), some (.int (0 + (i : Int))), some (.ref p), some (.ref TU), q4, q5, o6, o7, o8, o9] ∧ ts.length = j ∧ (∀ t ∈ ts, -(10 ^ 9) < t ∧ t < 10 ^ 9) ∧ H7 TU = some (.lst (ts.map V.int)) ∧ DrAt H7 p ∧ But p H3 H7) ?_ ?_ ?_⟩
    · exact ⟨_, _, [], rfl, rfl, (fun t h => by cases h), hT6, D6, B36⟩
    · rintro j σ H7 hj ⟨q4, q5, ts, rfl, htl, htb, hT7, D7, B7⟩
      refine ⟨_, rfl, ?_⟩
      refine ⟨_, _, rfl, rfl, ⟨by decide, by decide, by decide⟩, _, _, rfl, rfl, .inl ⟨by decide, by decide⟩, _, _, rfl, rfl, ?_⟩
      refine ⟨p, _, rfl, D7, ⟨by decide, by decide⟩, fun g H8 g0 g1 D8 B8 => ?_⟩
      refine ⟨_, _, rfl, rfl, ⟨by decide, by decide, by decide⟩, _, _, rfl, rfl, _, _, rfl, rfl, ?_⟩
      refine ⟨_, rfl, ?_⟩
      have hT8 := B8 _ _ hT7 hTp
      refine ⟨.inl ⟨rfl, _, SqL.of hT8⟩, ?_⟩
      refine ⟨_, rfl, p, 60, rfl, D8, ⟨by decide, by decide⟩, fun r H9 r0 r1 D9 B9 => ?_⟩
      refine ⟨_, _, rfl, rfl, _, rfl, (by show 2 ≤ sizeLine; decide), fun L2 hL2 => ?_⟩
      have hT9 := B9 _ _ hT8 hTp
      have hL2p := D9.ne hL2
      refine ⟨_, rfl, p, 4, rfl, D9.new hL2, ⟨by decide, by decide⟩, fun c HA c0 c1 DA BA => ?_⟩
      have hTA := BA _ _ ((Same.new hL2) _ _ hT9) hTp
      obtain ⟨v2, hv2, hv2'⟩ := at2 (a := .int (r - 30)) (b := .int (g - 10 ^ (9 : Int).toNat + 1)) (z := c / 3) (by omega) (by omega)
      obtain ⟨t, rfl, ht1⟩ : ∃ t : Int, v2 = .int t ∧ (-(10 ^ 9) < t ∧ t < 10 ^ 9) := by
        rcases hv2' with rfl | rfl
        · exact ⟨_, rfl, by omega, by omega⟩
        · exact ⟨_, rfl, by have : (10 : Int) ^ (9 : Int).toNat = 10 ^ 9 := rfl
                            omega, by have : (10 : Int) ^ (9 : Int).toNat = 10 ^ 9 := rfl
                                      have : (2 : Int) * 10 ^ (9 : Int).toNat - 1 = 1999999999 := rfl
                                      omega⟩
      refine ⟨_, _, rfl, rfl, ⟨by omega, by decide⟩, L2, _, _, _, rfl, rfl, SqL.of (BA _ _ upd_same hL2p), hv2, ?_⟩
      refine ⟨TU, _, _, rfl, rfl, hTA, by rw [List.length_map]; exact small1000 (by omega), ?_⟩
      refine ⟨_, _, ts ++ [t], rfl, by rw [List.length_append, htl]; rfl, fun x hx => ?_, by rw [upd_same, List.map_append]; rfl, DA.set hTp, (B7.trans (B8.trans (B9.trans ((But.new hL2).trans BA)))).set hTU⟩
      rcases List.mem_append.mp hx with hx | hx
      · exact htb x hx
      · rw [List.mem_singleton.mp hx]; exact ht1
    rintro σ H7 ⟨q4, q5, ts, rfl, htl, htb, hT7, D7, B7⟩
    have hl200 : ts.length ≤ 200 := by omega
    obtain ⟨x, hx1, hx2, hx3, hx4, hx5, hx6⟩ := shT_ok hl200 htb
    refine ⟨_, rfl, TU, _, rfl, .inl (SqL.of hT7), fun HN hHN => ?_⟩
    have sN := Same.new (o := .lst (ts.map V.int)) hHN
    have hT8 := sN _ _ hT7
    refine ⟨_, rfl, HN, ts, rfl, SqL.of upd_same, by omega, htb, fun H9 s9 => ?_⟩
    rw [hx1]
    have hN9 := s9 _ _ (upd_same (H := H7) (a := HN) (o := .lst (ts.map V.int)))
    have hT9 := s9 _ _ hT8
    have D9 := Same.dr s9 (D7.new hHN)
    have B9 : But p H3 H9 := B7.trans ((But.new hHN).trans (Same.but s9))
    refine ⟨⟨_, rfl⟩, _, rfl, TU, rfl, ⟨_, SqL.of hT9⟩, fun D hD => ?_⟩
    have hDp := D9.ne hD
    refine lc_listP (as := ts) (vf := V.int) (fun _ => true) (fun t => V.str (Str.ofString (toString t))) (SqL.of hT9) hD (small1000 (by omega)) ?_ ?_
    · intro t H2 ht s2 Qy Qn ky kn
      refine ⟨rfl, ?_⟩
      dsimp only [tYes]
      refine iteT ?_
      have ht' := htb t ht
      refine ⟨_, rfl, t, rfl, ?_, ky rfl _ (Same.refl _)⟩
      by_cases h0 : t.natAbs = 0
      · rw [h0]; decide
      · exact Nat.lt_trans ((Nat.log2_lt h0).mpr (by omega : t.natAbs < 2 ^ 30)) (by decide)
    intro HA sA hDA
    rw [List.filter_eq_self.mpr (fun _ _ => rfl)] at hDA
    have e2 : (ts.map fun t => V.str (Str.ofString (toString t))) = (ts.map fun t => Str.ofString (toString t)).map V.str := by rw [List.map_map]; rfl
    rw [e2] at hDA
    refine ⟨_, D, ts.map (fun t => Str.ofString (toString t)), rfl, rfl, .inl (SqL.of hDA), ?_, ?_⟩
    · rw [List.length_map]
      show _ + _ * 1 ≤ _
      omega
    have hNA := sA _ _ hN9
    have hTA := sA _ _ hT9
    have DA := Same.dr sA D9
    have BA : But p H3 HA := B9.trans (Same.but sA)
    refine ⟨_, ⟨by rw [sizeLine_eq]; exact Nat.le_trans hx6 (by decide), rfl⟩, ?_⟩
    refine ifOr (hx5.trans hx1) ?_
    refine ⟨_, rfl, _, _, _, _, _, rfl, TyOf.str _, rfl, kssT, _, rfl, ?_⟩
    refine iteF ?_
    refine ⟨_, rfl, _, rfl, rfl, _, rfl, ?_⟩
    refine ifNS ?_
    refine ⟨_, rfl, _, rfl, dInts ts, dInts ts, Dp.ints (SqL.of hNA), Dp.ints (SqL.of hTA), (Sh.ints _).shaped, (Sh.ints _).shaped, _, rfl, ?_⟩
    refine ifQn (dInts_eqv ts) ?_
    refine ⟨_, rfl, _, rfl, .inl ⟨x, rfl, by omega, hx3⟩, fun HB sB => ?_⟩
    refine ⟨_, rfl, iteF ?_⟩
    have DB := Same.dr sB DA
    have BB : But p H3 HB := BA.trans (Same.but sB)
    refine ⟨_, rfl, by omega, by omega, for_range (lo := 0) (n := 2) (fun j σ H7 => ∃ (q8 : Option V) (y : List Nat), σ = [some (.ref a), some (.int (0 + (i : Int))), some (.ref p), some (.ref TU), q4, q5, some (.ref HN), some (.str (txt y)), q8, some (.str (txt x))] ∧ Cp y ∧ y.length ≤ 6500 * 2 ^ j + 20 * (2 ^ j - 1) ∧ DrAt H7 p ∧ But p H3 H7) ?_ ?_ ?_⟩
    · exact ⟨_, x, rfl, hx3, by omega, DB, BB⟩
    · rintro j σ H7 hj ⟨q8, y, rfl, hy1, hy2, D7', B7'⟩
      have hyb : y.length ≤ 13020 := by
        rcases j with _ | _ | j
        · omega
        · omega
        · omega
      refine ⟨_, rfl, _, rfl, y, p, rfl, hy1, by omega, D7', fun m HC hm1 hm2 DC BC => ?_⟩
      refine ⟨_, rfl, _, rfl, .inl ⟨m, rfl, by omega, hm1⟩, fun HD sD => ?_⟩
      refine ⟨_, rfl, iteF ?_⟩
      refine ⟨_, m, rfl, hm1, ?_, Same.dr sD DC, B7'.trans (BC.trans (Same.but sD))⟩
      rcases j with _ | _ | j <;> omega
    rintro σ H7 ⟨q8, y, rfl, hy1, hy2, D7', B7'⟩
    refine ⟨_, rfl, p, 3, rfl, D7', by decide, fun v HC hv DC BC => ?_⟩
    refine ⟨v, rfl, hv, fun HD sD => ?_⟩
    refine ⟨_, rfl, iteF ?_⟩
    exact ⟨_, _, _, _, _, _, _, _, _, rfl, fin (B7'.trans (BC.trans (Same.but sD)))⟩
end
end W

set_option Elab.async false
set_option linter.all false
set_option maxRecDepth 100000
set_option maxHeartbeats 4000000
namespace W
open PySem L2 WM
theorem kit_ref {K : PySem.W.Frag} {C D : Addr} {b : Bool} (hd : Nat.beq C D = false) (h1 : PySem.W.isClsIn K D = true) (h2 : PySem.W.typeIn K (.ref D) = some (.type "type")) (h3 : PySem.W.subIn K (.ref C) (.ref D) = some b) : PySem.W.kitOne K (.ref C) (.ref D) = some b := by
  have hne : ¬ ((Value.ref C == Value.ref D) = true) := fun e => by
    have e' := Value.ref.inj (beq_iff_eq.mp e)
    subst e'
    rw [Nat.beq_refl] at hd
    cases hd
  have h1' : (PySem.W.clsIn K D).isSome = true := h1
  unfold PySem.W.kitOne PySem.W.kitCls
  rw [if_neg hne]
  dsimp only
  rw [h1', h2, if_pos (by simp), h3]
theorem kit_self {K : PySem.W.Frag} {C : Addr} : PySem.W.kitOne K (.ref C) (.ref C) = some true := by
  unfold PySem.W.kitOne
  rw [if_pos (by simp)]
theorem kit_ty {K : PySem.W.Frag} {C : Addr} {t : String} {b : Bool} (h0 : PySem.W.kitMeta t = true) (hne : (Value.ref C == Value.type t) = false) (h : PySem.W.subIn K (.ref C) (.type t) = some b) : PySem.W.kitOne K (.ref C) (.type t) = some b := by
  unfold PySem.W.kitOne PySem.W.kitCls
  rw [if_neg (by rw [hne]; exact Bool.false_ne_true)]
  dsimp only
  rw [if_pos h0, h]
theorem all_mk {l : PySem.W.OpenLaw} {w : World} {K : PySem.W.Frag} {h : Heap} {mg : Str → Option Value} {fa fLst fShT fINu fRdT fKind fFIn fTIn fLWhole fDraw fBent fDraws fLetters fThi fRea fRig fSpo fLaw Cw C0 C1 C2 C3 C4 C5 C6 C7 C8 C9 C10 C11 C12 C13 : Addr} (X : K.In h) (G : h.Ns mainGlobals mg) (hfa : mg "law" = some (.ref fa))
    {odLst anLst odShT anShT odINu anINu odRdT anRdT odKind anKind odFIn anFIn odTIn anTIn odLWhole anLWhole odDraw anDraw odBent anBent odDraws anDraws odLetters anLetters odThi anThi odRea anRea odRig anRig odSpo anSpo odLaw anLaw : Option Addr} {slLst slShT slINu slRdT slKind slFIn slTIn slLWhole slDraw slBent slDraws slLetters slThi slRea slRig slSpo slLaw : Array (Option Value)} {ocLst kVLst dcLst pmLst cdLst ctLst ocShT kVShT dcShT pmShT cdShT ctShT ocINu kVINu dcINu pmINu cdINu ctINu ocRdT kVRdT dcRdT pmRdT cdRdT ctRdT ocKind kVKind dcKind pmKind cdKind ctKind ocFIn kVFIn dcFIn pmFIn cdFIn ctFIn ocTIn kVTIn dcTIn pmTIn cdTIn ctTIn ocLWhole kVLWhole dcLWhole pmLWhole cdLWhole ctLWhole ocDraw kVDraw dcDraw pmDraw cdDraw ctDraw ocBent kVBent dcBent pmBent cdBent ctBent ocDraws kVDraws dcDraws pmDraws cdDraws ctDraws ocLetters kVLetters dcLetters pmLetters cdLetters ctLetters ocThi kVThi dcThi pmThi cdThi ctThi ocRea kVRea dcRea pmRea cdRea ctRea ocRig kVRig dcRig pmRig cdRig ctRig ocSpo kVSpo dcSpo pmSpo cdSpo ctSpo ocLaw kVLaw dcLaw pmLaw cdLaw ctLaw : Value} {tMOST_FIGURES : Tok}
    (aLst : PySem.W.nsIn K mainGlobals "listed" = some (some (.ref fLst)))
    (lLst : K.lookup fLst = some ⟨ocLst, odLst, .func (PySem.W.fnOf "listed" "listed" (defArgs sLst) (defBody sLst) (defScope sLst) .none kVLst dcLst pmLst anLst cdLst ctLst), slLst⟩)
    (cLst : PySem.W.codeIn K cdLst "listed" = true)
    (kLst : PySem.W.keepIn K (.ref fLst) = true)
    (aShT : PySem.W.nsIn K mainGlobals "show_turns" = some (some (.ref fShT)))
    (lShT : K.lookup fShT = some ⟨ocShT, odShT, .func (PySem.W.fnOf "show_turns" "show_turns" (defArgs sShT) (defBody sShT) (defScope sShT) .none kVShT dcShT pmShT anShT cdShT ctShT), slShT⟩)
    (cShT : PySem.W.codeIn K cdShT "show_turns" = true)
    (kShT : PySem.W.keepIn K (.ref fShT) = true)
    (aINu : PySem.W.nsIn K mainGlobals "is_number" = some (some (.ref fINu)))
    (lINu : K.lookup fINu = some ⟨ocINu, odINu, .func (PySem.W.fnOf "is_number" "is_number" (defArgs sINu) (defBody sINu) (defScope sINu) .none kVINu dcINu pmINu anINu cdINu ctINu), slINu⟩)
    (cINu : PySem.W.codeIn K cdINu "is_number" = true)
    (kINu : PySem.W.keepIn K (.ref fINu) = true)
    (aRdT : PySem.W.nsIn K mainGlobals "read_turns" = some (some (.ref fRdT)))
    (lRdT : K.lookup fRdT = some ⟨ocRdT, odRdT, .func (PySem.W.fnOf "read_turns" "read_turns" (defArgs sRdT) (defBody sRdT) (defScope sRdT) .none kVRdT dcRdT pmRdT anRdT cdRdT ctRdT), slRdT⟩)
    (cRdT : PySem.W.codeIn K cdRdT "read_turns" = true)
    (kRdT : PySem.W.keepIn K (.ref fRdT) = true)
    (aKind : PySem.W.nsIn K mainGlobals "_law_kind" = some (some (.ref fKind)))
    (lKind : K.lookup fKind = some ⟨ocKind, odKind, .func (PySem.W.fnOf "_law_kind" "_law_kind" (defArgs sKind) (defBody sKind) (defScope sKind) .none kVKind dcKind pmKind anKind cdKind ctKind), slKind⟩)
    (cKind : PySem.W.codeIn K cdKind "_law_kind" = true)
    (kKind : PySem.W.keepIn K (.ref fKind) = true)
    (aFIn : PySem.W.nsIn K mainGlobals "_law_figures_in" = some (some (.ref fFIn)))
    (lFIn : K.lookup fFIn = some ⟨ocFIn, odFIn, .func (PySem.W.fnOf "_law_figures_in" "_law_figures_in" (defArgs sFIn) (defBody sFIn) (defScope sFIn) .none kVFIn dcFIn pmFIn anFIn cdFIn ctFIn), slFIn⟩)
    (cFIn : PySem.W.codeIn K cdFIn "_law_figures_in" = true)
    (kFIn : PySem.W.keepIn K (.ref fFIn) = true)
    (aTIn : PySem.W.nsIn K mainGlobals "_law_turns_in" = some (some (.ref fTIn)))
    (lTIn : K.lookup fTIn = some ⟨ocTIn, odTIn, .func (PySem.W.fnOf "_law_turns_in" "_law_turns_in" (defArgs sTIn) (defBody sTIn) (defScope sTIn) .none kVTIn dcTIn pmTIn anTIn cdTIn ctTIn), slTIn⟩)
    (cTIn : PySem.W.codeIn K cdTIn "_law_turns_in" = true)
    (kTIn : PySem.W.keepIn K (.ref fTIn) = true)
    (aLWhole : PySem.W.nsIn K mainGlobals "_law_whole" = some (some (.ref fLWhole)))
    (lLWhole : K.lookup fLWhole = some ⟨ocLWhole, odLWhole, .func (PySem.W.fnOf "_law_whole" "_law_whole" (defArgs sLWhole) (defBody sLWhole) (defScope sLWhole) .none kVLWhole dcLWhole pmLWhole anLWhole cdLWhole ctLWhole), slLWhole⟩)
    (cLWhole : PySem.W.codeIn K cdLWhole "_law_whole" = true)
    (kLWhole : PySem.W.keepIn K (.ref fLWhole) = true)
    (aDraw : PySem.W.nsIn K mainGlobals "_law_draw" = some (some (.ref fDraw)))
    (lDraw : K.lookup fDraw = some ⟨ocDraw, odDraw, .func (PySem.W.fnOf "_law_draw" "_law_draw" (defArgs sDraw) (defBody sDraw) (defScope sDraw) .none kVDraw dcDraw pmDraw anDraw cdDraw ctDraw), slDraw⟩)
    (cDraw : PySem.W.codeIn K cdDraw "_law_draw" = true)
    (kDraw : PySem.W.keepIn K (.ref fDraw) = true)
    (aBent : PySem.W.nsIn K mainGlobals "_law_bent" = some (some (.ref fBent)))
    (lBent : K.lookup fBent = some ⟨ocBent, odBent, .func (PySem.W.fnOf "_law_bent" "_law_bent" (defArgs sBent) (defBody sBent) (defScope sBent) .none kVBent dcBent pmBent anBent cdBent ctBent), slBent⟩)
    (cBent : PySem.W.codeIn K cdBent "_law_bent" = true)
    (kBent : PySem.W.keepIn K (.ref fBent) = true)
    (aDraws : PySem.W.nsIn K mainGlobals "_law_draws" = some (some (.ref fDraws)))
    (lDraws : K.lookup fDraws = some ⟨ocDraws, odDraws, .func (PySem.W.fnOf "_law_draws" "_law_draws" (defArgs sDraws) (defBody sDraws) (defScope sDraws) .none kVDraws dcDraws pmDraws anDraws cdDraws ctDraws), slDraws⟩)
    (cDraws : PySem.W.codeIn K cdDraws "_law_draws" = true)
    (kDraws : PySem.W.keepIn K (.ref fDraws) = true)
    (aLetters : PySem.W.nsIn K mainGlobals "_law_letters" = some (some (.ref fLetters)))
    (lLetters : K.lookup fLetters = some ⟨ocLetters, odLetters, .func (PySem.W.fnOf "_law_letters" "_law_letters" (defArgs sLetters) (defBody sLetters) (defScope sLetters) .none kVLetters dcLetters pmLetters anLetters cdLetters ctLetters), slLetters⟩)
    (cLetters : PySem.W.codeIn K cdLetters "_law_letters" = true)
    (kLetters : PySem.W.keepIn K (.ref fLetters) = true)
    (aThi : PySem.W.nsIn K mainGlobals "_law_thing" = some (some (.ref fThi)))
    (lThi : K.lookup fThi = some ⟨ocThi, odThi, .func (PySem.W.fnOf "_law_thing" "_law_thing" (defArgs sThi) (defBody sThi) (defScope sThi) .none kVThi dcThi pmThi anThi cdThi ctThi), slThi⟩)
    (cThi : PySem.W.codeIn K cdThi "_law_thing" = true)
    (kThi : PySem.W.keepIn K (.ref fThi) = true)
    (aRea : PySem.W.nsIn K mainGlobals "_law_read" = some (some (.ref fRea)))
    (lRea : K.lookup fRea = some ⟨ocRea, odRea, .func (PySem.W.fnOf "_law_read" "_law_read" (defArgs sRea) (defBody sRea) (defScope sRea) .none kVRea dcRea pmRea anRea cdRea ctRea), slRea⟩)
    (cRea : PySem.W.codeIn K cdRea "_law_read" = true)
    (kRea : PySem.W.keepIn K (.ref fRea) = true)
    (aRig : PySem.W.nsIn K mainGlobals "_law_right" = some (some (.ref fRig)))
    (lRig : K.lookup fRig = some ⟨ocRig, odRig, .func (PySem.W.fnOf "_law_right" "_law_right" (defArgs sRig) (defBody sRig) (defScope sRig) .none kVRig dcRig pmRig anRig cdRig ctRig), slRig⟩)
    (cRig : PySem.W.codeIn K cdRig "_law_right" = true)
    (kRig : PySem.W.keepIn K (.ref fRig) = true)
    (aSpo : PySem.W.nsIn K mainGlobals "_law_spoilt" = some (some (.ref fSpo)))
    (lSpo : K.lookup fSpo = some ⟨ocSpo, odSpo, .func (PySem.W.fnOf "_law_spoilt" "_law_spoilt" (defArgs sSpo) (defBody sSpo) (defScope sSpo) .none kVSpo dcSpo pmSpo anSpo cdSpo ctSpo), slSpo⟩)
    (cSpo : PySem.W.codeIn K cdSpo "_law_spoilt" = true)
    (kSpo : PySem.W.keepIn K (.ref fSpo) = true)
    (aLaw : PySem.W.nsIn K mainGlobals "law" = some (some (.ref fLaw)))
    (lLaw : K.lookup fLaw = some ⟨ocLaw, odLaw, .func (PySem.W.fnOf "law" "law" (defArgs sLaw) (defBody sLaw) (defScope sLaw) .none kVLaw dcLaw pmLaw anLaw cdLaw ctLaw), slLaw⟩)
    (cLaw : PySem.W.codeIn K cdLaw "law" = true)
    (kLaw : PySem.W.keepIn K (.ref fLaw) = true)
    (gMOST_FIGURES : PySem.W.nsIn K mainGlobals "MOST_FIGURES" = some (some (.int 9 tMOST_FIGURES)))
    (zlen : PySem.W.nsIn K mainGlobals "len" = some none)
    (zstr : PySem.W.nsIn K mainGlobals "str" = some none)
    (zint : PySem.W.nsIn K mainGlobals "int" = some none)
    (zbool : PySem.W.nsIn K mainGlobals "bool" = some none)
    (ztuple : PySem.W.nsIn K mainGlobals "tuple" = some none)
    (zlist : PySem.W.nsIn K mainGlobals "list" = some none)
    (zdict : PySem.W.nsIn K mainGlobals "dict" = some none)
    (zset : PySem.W.nsIn K mainGlobals "set" = some none)
    (zenumerate : PySem.W.nsIn K mainGlobals "enumerate" = some none)
    (zisinstance : PySem.W.nsIn K mainGlobals "isinstance" = some none)
    (zall : PySem.W.nsIn K mainGlobals "all" = some none)
    (zany : PySem.W.nsIn K mainGlobals "any" = some none)
    (zrange : PySem.W.nsIn K mainGlobals "range" = some none)
    (zmin : PySem.W.nsIn K mainGlobals "min" = some none)
    (zmax : PySem.W.nsIn K mainGlobals "max" = some none)
    (zsum : PySem.W.nsIn K mainGlobals "sum" = some none)
    (zabs : PySem.W.nsIn K mainGlobals "abs" = some none)
    (zsorted : PySem.W.nsIn K mainGlobals "sorted" = some none)
    (zzip : PySem.W.nsIn K mainGlobals "zip" = some none)
    (zreversed : PySem.W.nsIn K mainGlobals "reversed" = some none)
    (zValueError : PySem.W.nsIn K mainGlobals "ValueError" = some none)
    (nC0 : PySem.W.nsIn K mainGlobals "Lacks" = some (some (.ref C0)))
    (nC1 : PySem.W.nsIn K mainGlobals "NoBank" = some (some (.ref C1)))
    (nC2 : PySem.W.nsIn K mainGlobals "NoBook" = some (some (.ref C2)))
    (nC3 : PySem.W.nsIn K mainGlobals "NoDeed" = some (some (.ref C3)))
    (nC4 : PySem.W.nsIn K mainGlobals "NoName" = some (some (.ref C4)))
    (nC5 : PySem.W.nsIn K mainGlobals "NoOrder" = some (some (.ref C5)))
    (nC6 : PySem.W.nsIn K mainGlobals "NoPlace" = some (some (.ref C6)))
    (nC7 : PySem.W.nsIn K mainGlobals "NoRow" = some (some (.ref C7)))
    (nC8 : PySem.W.nsIn K mainGlobals "NoSlack" = some (some (.ref C8)))
    (nC9 : PySem.W.nsIn K mainGlobals "NoText" = some (some (.ref C9)))
    (nC10 : PySem.W.nsIn K mainGlobals "NoTurns" = some (some (.ref C10)))
    (nC11 : PySem.W.nsIn K mainGlobals "NoWheel" = some (some (.ref C11)))
    (nC12 : PySem.W.nsIn K mainGlobals "NoWord" = some (some (.ref C12)))
    (nC13 : PySem.W.nsIn K mainGlobals "TooMany" = some (some (.ref C13)))
    (nCw : PySem.W.nsIn K mainGlobals "WheelError" = some (some (.ref Cw)))
    (wc : PySem.W.isClsIn K Cw = true)
    (wt : PySem.W.typeIn K (.ref Cw) = some (.type "type"))
    (wb : PySem.W.mroIn K Cw (.type "BaseException") = some true)
    (ed : PySem.W.specialIn K (.builtin "object.__class__") "__get__" = some (some (.builtin "getset_descriptor.__get__")))
    (ee : PySem.W.takesIn K (.builtin "object.__class__") = some true)
    (qa0 : PySem.W.isClsIn K C0 = true)
    (qb0 : PySem.W.typeIn K (.ref C0) = some (.type "type"))
    (qa1 : PySem.W.isClsIn K C1 = true)
    (qb1 : PySem.W.typeIn K (.ref C1) = some (.type "type"))
    (qa2 : PySem.W.isClsIn K C2 = true)
    (qb2 : PySem.W.typeIn K (.ref C2) = some (.type "type"))
    (qa3 : PySem.W.isClsIn K C3 = true)
    (qb3 : PySem.W.typeIn K (.ref C3) = some (.type "type"))
    (qa4 : PySem.W.isClsIn K C4 = true)
    (qb4 : PySem.W.typeIn K (.ref C4) = some (.type "type"))
    (qa5 : PySem.W.isClsIn K C5 = true)
    (qb5 : PySem.W.typeIn K (.ref C5) = some (.type "type"))
    (qa6 : PySem.W.isClsIn K C6 = true)
    (qb6 : PySem.W.typeIn K (.ref C6) = some (.type "type"))
    (qa7 : PySem.W.isClsIn K C7 = true)
    (qb7 : PySem.W.typeIn K (.ref C7) = some (.type "type"))
    (qa8 : PySem.W.isClsIn K C8 = true)
    (qb8 : PySem.W.typeIn K (.ref C8) = some (.type "type"))
    (qa9 : PySem.W.isClsIn K C9 = true)
    (qb9 : PySem.W.typeIn K (.ref C9) = some (.type "type"))
    (qa10 : PySem.W.isClsIn K C10 = true)
    (qb10 : PySem.W.typeIn K (.ref C10) = some (.type "type"))
    (qa11 : PySem.W.isClsIn K C11 = true)
    (qb11 : PySem.W.typeIn K (.ref C11) = some (.type "type"))
    (qa12 : PySem.W.isClsIn K C12 = true)
    (qb12 : PySem.W.typeIn K (.ref C12) = some (.type "type"))
    (qa13 : PySem.W.isClsIn K C13 = true)
    (qb13 : PySem.W.typeIn K (.ref C13) = some (.type "type"))
    (xi9 : PySem.W.excIn K C9 bmVE "ValueError.__new__" = true)
    (ws9 : PySem.W.mroIn K C9 (.ref Cw) = some true)
    (ea9 : PySem.W.findIn K (.ref C9) "__getattribute__" = some (some (.builtin "BaseException.__getattribute__")))
    (eb9 : PySem.W.findIn K (.ref C9) "__getattr__" = some none)
    (ec9 : PySem.W.findIn K (.ref C9) "__class__" = some (some (.builtin "object.__class__")))
    (ef9 : PySem.W.mroIn K C9 (.type "object") = some true)
    (eg9 : PySem.W.mroIn K C9 (.type "BaseException") = some true)
    (qc9_0 : PySem.W.subIn K (.ref C9) (.ref C0) = some false)
    (qd9_0 : Nat.beq C9 C0 = false)
    (qc9_1 : PySem.W.subIn K (.ref C9) (.ref C1) = some false)
    (qd9_1 : Nat.beq C9 C1 = false)
    (qc9_2 : PySem.W.subIn K (.ref C9) (.ref C2) = some false)
    (qd9_2 : Nat.beq C9 C2 = false)
    (qc9_3 : PySem.W.subIn K (.ref C9) (.ref C3) = some false)
    (qd9_3 : Nat.beq C9 C3 = false)
    (qc9_4 : PySem.W.subIn K (.ref C9) (.ref C4) = some false)
    (qd9_4 : Nat.beq C9 C4 = false)
    (qc9_5 : PySem.W.subIn K (.ref C9) (.ref C5) = some false)
    (qd9_5 : Nat.beq C9 C5 = false)
    (qc9_6 : PySem.W.subIn K (.ref C9) (.ref C6) = some false)
    (qd9_6 : Nat.beq C9 C6 = false)
    (qc9_7 : PySem.W.subIn K (.ref C9) (.ref C7) = some false)
    (qd9_7 : Nat.beq C9 C7 = false)
    (qc9_8 : PySem.W.subIn K (.ref C9) (.ref C8) = some false)
    (qd9_8 : Nat.beq C9 C8 = false)
    (qc9_10 : PySem.W.subIn K (.ref C9) (.ref C10) = some false)
    (qd9_10 : Nat.beq C9 C10 = false)
    (qc9_11 : PySem.W.subIn K (.ref C9) (.ref C11) = some false)
    (qd9_11 : Nat.beq C9 C11 = false)
    (qc9_12 : PySem.W.subIn K (.ref C9) (.ref C12) = some false)
    (qd9_12 : Nat.beq C9 C12 = false)
    (qc9_13 : PySem.W.subIn K (.ref C9) (.ref C13) = some false)
    (qd9_13 : Nat.beq C9 C13 = false)
    (qe9 : PySem.W.subIn K (.ref C9) (.type "ValueError") = some true) :
    ∃ fd : FuncData, (∀ (s : Shared) (v : Value), BindsTo s fd ⟨[v], []⟩ [("script", v)]) ∧ ∀ base : Heap, K.In base → base.Ns mainGlobals mg → FnOk l.prog w K mg base CX0 8 fa fd ["script"] (spLaw K) := by
  have e := hfa.symm.trans (PySem.W.mg_of X G aLaw)
  cases e
  have T : Txt mg := ⟨PySem.W.mg_none_of X G zlen, PySem.W.mg_none_of X G zstr, PySem.W.mg_none_of X G zint, PySem.W.mg_none_of X G zbool, PySem.W.mg_none_of X G ztuple, PySem.W.mg_none_of X G zlist, PySem.W.mg_none_of X G zdict, PySem.W.mg_none_of X G zset, PySem.W.mg_none_of X G zenumerate, PySem.W.mg_none_of X G zisinstance, PySem.W.mg_none_of X G zall, PySem.W.mg_none_of X G zany, PySem.W.mg_none_of X G zrange, PySem.W.mg_none_of X G zmin, PySem.W.mg_none_of X G zmax, PySem.W.mg_none_of X G zsum, PySem.W.mg_none_of X G zabs, PySem.W.mg_none_of X G zsorted, PySem.W.mg_none_of X G zzip, PySem.W.mg_none_of X G zreversed, PySem.W.mg_none_of X G zValueError⟩
  have g_MOST_FIGURES : GInt mg "MOST_FIGURES" 9 := ⟨_, PySem.W.mg_of X G gMOST_FIGURES⟩
  have FLst := fun_mk (st := sLst) lLst cLst kLst
  have D_Lst : Def K mg "listed" sLst ["parts"] := ⟨_, _, FLst, PySem.W.mg_of X G aLst, FLst.binds (ps := ["parts"]) fun _ _ _ _ _ _ us hl => match us, hl with | [_], _ => rfl⟩
  have FShT := fun_mk (st := sShT) lShT cShT kShT
  have D_ShT : Def K mg "show_turns" sShT ["turns"] := ⟨_, _, FShT, PySem.W.mg_of X G aShT, FShT.binds (ps := ["turns"]) fun _ _ _ _ _ _ us hl => match us, hl with | [_], _ => rfl⟩
  have FINu := fun_mk (st := sINu) lINu cINu kINu
  have D_INu : Def K mg "is_number" sINu ["text"] := ⟨_, _, FINu, PySem.W.mg_of X G aINu, FINu.binds (ps := ["text"]) fun _ _ _ _ _ _ us hl => match us, hl with | [_], _ => rfl⟩
  have FRdT := fun_mk (st := sRdT) lRdT cRdT kRdT
  have D_RdT : Def K mg "read_turns" sRdT ["text"] := ⟨_, _, FRdT, PySem.W.mg_of X G aRdT, FRdT.binds (ps := ["text"]) fun _ _ _ _ _ _ us hl => match us, hl with | [_], _ => rfl⟩
  have FKind := fun_mk (st := sKind) lKind cKind kKind
  have D_Kind : Def K mg "_law_kind" sKind ["e"] := ⟨_, _, FKind, PySem.W.mg_of X G aKind, FKind.binds (ps := ["e"]) fun _ _ _ _ _ _ us hl => match us, hl with | [_], _ => rfl⟩
  have FFIn := fun_mk (st := sFIn) lFIn cFIn kFIn
  have D_FIn : Def K mg "_law_figures_in" sFIn ["word"] := ⟨_, _, FFIn, PySem.W.mg_of X G aFIn, FFIn.binds (ps := ["word"]) fun _ _ _ _ _ _ us hl => match us, hl with | [_], _ => rfl⟩
  have FTIn := fun_mk (st := sTIn) lTIn cTIn kTIn
  have D_TIn : Def K mg "_law_turns_in" sTIn ["text"] := ⟨_, _, FTIn, PySem.W.mg_of X G aTIn, FTIn.binds (ps := ["text"]) fun _ _ _ _ _ _ us hl => match us, hl with | [_], _ => rfl⟩
  have FLWhole := fun_mk (st := sLWhole) lLWhole cLWhole kLWhole
  have D_LWhole : Def K mg "_law_whole" sLWhole ["found"] := ⟨_, _, FLWhole, PySem.W.mg_of X G aLWhole, FLWhole.binds (ps := ["found"]) fun _ _ _ _ _ _ us hl => match us, hl with | [_], _ => rfl⟩
  have FDraw := fun_mk (st := sDraw) lDraw cDraw kDraw
  have D_Draw : Def K mg "_law_draw" sDraw ["draws", "many"] := ⟨_, _, FDraw, PySem.W.mg_of X G aDraw, FDraw.binds (ps := ["draws", "many"]) fun _ _ _ _ _ _ us hl => match us, hl with | [_, _], _ => rfl⟩
  have FBent := fun_mk (st := sBent) lBent cBent kBent
  have D_Bent : Def K mg "_law_bent" sBent ["text", "draws"] := ⟨_, _, FBent, PySem.W.mg_of X G aBent, FBent.binds (ps := ["text", "draws"]) fun _ _ _ _ _ _ us hl => match us, hl with | [_, _], _ => rfl⟩
  have FDraws := fun_mk (st := sDraws) lDraws cDraws kDraws
  have D_Draws : Def K mg "_law_draws" sDraws ["script", "k"] := ⟨_, _, FDraws, PySem.W.mg_of X G aDraws, FDraws.binds (ps := ["script", "k"]) fun _ _ _ _ _ _ us hl => match us, hl with | [_, _], _ => rfl⟩
  have FLetters := fun_mk (st := sLetters) lLetters cLetters kLetters
  have D_Letters : Def K mg "_law_letters" sLetters ["draws", "many", "kinds"] := ⟨_, _, FLetters, PySem.W.mg_of X G aLetters, FLetters.binds (ps := ["draws", "many", "kinds"]) fun _ _ _ _ _ _ us hl => match us, hl with | [_, _, _], _ => rfl⟩
  have FThi := fun_mk (st := sThi) lThi cThi kThi
  have D_Thi : Def K mg "_law_thing" sThi ["draws", "deep"] := ⟨_, _, FThi, PySem.W.mg_of X G aThi, FThi.binds (ps := ["draws", "deep"]) fun _ _ _ _ _ _ us hl => match us, hl with | [_, _], _ => rfl⟩
  have FRea := fun_mk (st := sRea) lRea cRea kRea
  have D_Rea : Def K mg "_law_read" sRea ["text"] := ⟨_, _, FRea, PySem.W.mg_of X G aRea, FRea.binds (ps := ["text"]) fun _ _ _ _ _ _ us hl => match us, hl with | [_], _ => rfl⟩
  have FRig := fun_mk (st := sRig) lRig cRig kRig
  have D_Rig : Def K mg "_law_right" sRig ["text"] := ⟨_, _, FRig, PySem.W.mg_of X G aRig, FRig.binds (ps := ["text"]) fun _ _ _ _ _ _ us hl => match us, hl with | [_], _ => rfl⟩
  have FSpo := fun_mk (st := sSpo) lSpo cSpo kSpo
  have D_Spo : Def K mg "_law_spoilt" sSpo ["text", "draws"] := ⟨_, _, FSpo, PySem.W.mg_of X G aSpo, FSpo.binds (ps := ["text", "draws"]) fun _ _ _ _ _ _ us hl => match us, hl with | [_, _], _ => rfl⟩
  have FLaw := fun_mk (st := sLaw) lLaw cLaw kLaw
  have R : Ref K mg ⟨C0, C1, C2, C3, C4, C5, C6, C7, C8, C9, C10, C11, C12, C13⟩ := ⟨PySem.W.mg_of X G nC0, PySem.W.mg_of X G nC1, PySem.W.mg_of X G nC2, PySem.W.mg_of X G nC3, PySem.W.mg_of X G nC4, PySem.W.mg_of X G nC5, PySem.W.mg_of X G nC6, PySem.W.mg_of X G nC7, PySem.W.mg_of X G nC8, PySem.W.mg_of X G nC9, PySem.W.mg_of X G nC10, PySem.W.mg_of X G nC11, PySem.W.mg_of X G nC12, PySem.W.mg_of X G nC13⟩
  have mW := PySem.W.mg_of X G nCw
  have ZW : CatchK K Cw := ⟨wc, wt, wb⟩
  have n9 := PySem.W.mg_of X G nC9
  have kit9 : Kit K ⟨C0, C1, C2, C3, C4, C5, C6, C7, C8, C9, C10, C11, C12, C13⟩ C9 (bsAt 9) := ⟨⟨_, _, _, _, _, _, _, _, _, _, _, _, _, _, _, rfl, kit_ref qd9_0 qa0 qb0 qc9_0, kit_ref qd9_1 qa1 qb1 qc9_1, kit_ref qd9_2 qa2 qb2 qc9_2, kit_ref qd9_3 qa3 qb3 qc9_3, kit_ref qd9_4 qa4 qb4 qc9_4, kit_ref qd9_5 qa5 qb5 qc9_5, kit_ref qd9_6 qa6 qb6 qc9_6, kit_ref qd9_7 qa7 qb7 qc9_7, kit_ref qd9_8 qa8 qb8 qc9_8, kit_self, kit_ref qd9_10 qa10 qb10 qc9_10, kit_ref qd9_11 qa11 qb11 qc9_11, kit_ref qd9_12 qa12 qb12 qc9_12, kit_ref qd9_13 qa13 qb13 qc9_13, kit_ty (by decide +kernel) (by rfl) qe9⟩, ⟨ea9, eb9, ec9, ed, ee, ef9, eg9, qa9⟩⟩
  refine ⟨PySem.W.fnOf "law" "law" (defArgs sLaw) (defBody sLaw) (defScope sLaw) .none kVLaw dcLaw pmLaw anLaw cdLaw ctLaw, fun s v => .of_eq rfl, fun base _ _ => ?_⟩
  have CDw := cal_draw (P := l.prog) (w := w) (base := base) D_Draw
  have CSh := cal_sht D_ShT T (cal_lst (P := l.prog) (w := w) (base := base) D_Lst T)
  have CRt := cal_rdt D_RdT T (cal_inu (P := l.prog) (w := w) (base := base) D_INu T g_MOST_FIGURES) n9 xi9
  have CRe := cal_rea D_Rea T CRt (cal_kind D_Kind T R) mW ZW ws9 kit9
  have CTi := cal_tin D_TIn T (cal_fin (P := l.prog) (w := w) (base := base) D_FIn T)
  have CRi := cal_rig D_Rig T CTi CRe CRt (cal_lwhole D_LWhole T)
  have CBe := cal_bent (P := l.prog) (w := w) (base := base) D_Bent T D_Draw
  have CTh := cal_thi (P := l.prog) (w := w) (base := base) D_Thi T CDw (cal_letters (P := l.prog) (w := w) (base := base) D_Letters T D_Draw)
  exact ok_law FLaw T (cal_draws D_Draws T) (cal_draww (P := l.prog) (w := w) (base := base) D_Draw) CSh CRi (cal_spo D_Spo T CDw CBe) CTh
theorem walk {l : PySem.W.OpenLaw} {q : Program} {loose : List Str} {XP : (Str → Option Value) → Heap → Prop} {YP : World → Heap → Prop} {d : DefRec} {K : Params → PySem.W.Frag} (hn : l.most = some 63) (hdf : d.params.defaults = [])
    (hY : ∀ (w : World) (h : Heap), YP w h → (K w.params).In h)
    (F : ∀ (w : World) (mg : Str → Option Value) (fa : Addr) (h : Heap), (K w.params).In h → h.Ns mainGlobals mg → mg d.name = some (.ref fa) →
      ∃ fd : FuncData, (∀ (s : Shared) (u : Value), BindsTo s fd ⟨[u], []⟩ [("script", u)]) ∧ ∀ base : Heap, (K w.params).In base → base.Ns mainGlobals mg → FnOk l.prog w (K w.params) mg base CX0 8 fa fd ["script"] (spLaw (K w.params))) :
    PySem.W.WalkO q loose XP YP l.row.toRowW d [] (fun f vs => PySem.call f vs) :=
  L2.walk_of (n := 63) (k := 8) (x := "script") (CX := fun _ => CX0) (sp := fun w => spLaw (K w.params)) hn (by decide) hdf ⟨rfl, by decide, by decide⟩ hY F (fun _ _ a ns hl _ hS => ⟨a, ns, rfl, hS, hl, fun _ => rfl⟩) fun _ _ _ _ _ z => z
end W
open PySem PySem.W PyProof.Rows
set_option maxRecDepth 100000 in
set_option maxHeartbeats 0 in
theorem PySem.Challenge.cw_strikewheel_k61_turns_written_holds : PySem.Challenge.rw_strikewheel_k61_turns_written.Holds := by
  w_on; o_law; k_head; (case hw => w_witness2)
  k_fill
  refine W.walk (l := PySem.Challenge.rw_strikewheel_k61_turns_written) rfl rfl (fun w h Y => PySem.W.kIn_of Y) ?F
  case F =>
    intro w mg fa h KX G hmg
    refine' W.all_mk KX G hmg ?aLst ?lLst ?cLst ?kLst ?aShT ?lShT ?cShT ?kShT ?aINu ?lINu ?cINu ?kINu ?aRdT ?lRdT ?cRdT ?kRdT ?aKind ?lKind ?cKind ?kKind ?aFIn ?lFIn ?cFIn ?kFIn ?aTIn ?lTIn ?cTIn ?kTIn ?aLWhole ?lLWhole ?cLWhole ?kLWhole ?aDraw ?lDraw ?cDraw ?kDraw ?aBent ?lBent ?cBent ?kBent ?aDraws ?lDraws ?cDraws ?kDraws ?aLetters ?lLetters ?cLetters ?kLetters ?aThi ?lThi ?cThi ?kThi ?aRea ?lRea ?cRea ?kRea ?aRig ?lRig ?cRig ?kRig ?aSpo ?lSpo ?cSpo ?kSpo ?aLaw ?lLaw ?cLaw ?kLaw ?gMOST_FIGURES ?zlen ?zstr ?zint ?zbool ?ztuple ?zlist ?zdict ?zset ?zenumerate ?zisinstance ?zall ?zany ?zrange ?zmin ?zmax ?zsum ?zabs ?zsorted ?zzip ?zreversed ?zValueError ?nC0 ?nC1 ?nC2 ?nC3 ?nC4 ?nC5 ?nC6 ?nC7 ?nC8 ?nC9 ?nC10 ?nC11 ?nC12 ?nC13 ?nCw ?wc ?wt ?wb ?ed ?ee ?qa0 ?qb0 ?qa1 ?qb1 ?qa2 ?qb2 ?qa3 ?qb3 ?qa4 ?qb4 ?qa5 ?qb5 ?qa6 ?qb6 ?qa7 ?qb7 ?qa8 ?qb8 ?qa9 ?qb9 ?qa10 ?qb10 ?qa11 ?qb11 ?qa12 ?qb12 ?qa13 ?qb13 ?xi9 ?ws9 ?ea9 ?eb9 ?ec9 ?ef9 ?eg9 ?qc9_0 ?qd9_0 ?qc9_1 ?qd9_1 ?qc9_2 ?qd9_2 ?qc9_3 ?qd9_3 ?qc9_4 ?qd9_4 ?qc9_5 ?qd9_5 ?qc9_6 ?qd9_6 ?qc9_7 ?qd9_7 ?qc9_8 ?qd9_8 ?qc9_10 ?qd9_10 ?qc9_11 ?qd9_11 ?qc9_12 ?qd9_12 ?qc9_13 ?qd9_13 ?qe9
    (case aLst => k_is)
    (case lLst => k_is)
    (case cLst => k_is)
    (case kLst => k_is)
    (case aShT => k_is)
    (case lShT => k_is)
    (case cShT => k_is)
    (case kShT => k_is)
    (case aINu => k_is)
    (case lINu => k_is)
    (case cINu => k_is)
    (case kINu => k_is)
    (case aRdT => k_is)
    (case lRdT => k_is)
    (case cRdT => k_is)
    (case kRdT => k_is)
    (case aKind => k_is)
    (case lKind => k_is)
    (case cKind => k_is)
    (case kKind => k_is)
    (case aFIn => k_is)
    (case lFIn => k_is)
    (case cFIn => k_is)
    (case kFIn => k_is)
    (case aTIn => k_is)
    (case lTIn => k_is)
    (case cTIn => k_is)
    (case kTIn => k_is)
    (case aLWhole => k_is)
    (case lLWhole => k_is)
    (case cLWhole => k_is)
    (case kLWhole => k_is)
    (case aDraw => k_is)
    (case lDraw => k_is)
    (case cDraw => k_is)
    (case kDraw => k_is)
    (case aBent => k_is)
    (case lBent => k_is)
    (case cBent => k_is)
    (case kBent => k_is)
    (case aDraws => k_is)
    (case lDraws => k_is)
    (case cDraws => k_is)
    (case kDraws => k_is)
    (case aLetters => k_is)
    (case lLetters => k_is)
    (case cLetters => k_is)
    (case kLetters => k_is)
    (case aThi => k_is)
    (case lThi => k_is)
    (case cThi => k_is)
    (case kThi => k_is)
    (case aRea => k_is)
    (case lRea => k_is)
    (case cRea => k_is)
    (case kRea => k_is)
    (case aRig => k_is)
    (case lRig => k_is)
    (case cRig => k_is)
    (case kRig => k_is)
    (case aSpo => k_is)
    (case lSpo => k_is)
    (case cSpo => k_is)
    (case kSpo => k_is)
    (case aLaw => k_is)
    (case lLaw => k_is)
    (case cLaw => k_is)
    (case kLaw => k_is)
    (case gMOST_FIGURES => k_is)
    (case zlen => k_is)
    (case zstr => k_is)
    (case zint => k_is)
    (case zbool => k_is)
    (case ztuple => k_is)
    (case zlist => k_is)
    (case zdict => k_is)
    (case zset => k_is)
    (case zenumerate => k_is)
    (case zisinstance => k_is)
    (case zall => k_is)
    (case zany => k_is)
    (case zrange => k_is)
    (case zmin => k_is)
    (case zmax => k_is)
    (case zsum => k_is)
    (case zabs => k_is)
    (case zsorted => k_is)
    (case zzip => k_is)
    (case zreversed => k_is)
    (case zValueError => k_is)
    (case nC0 => k_is)
    (case nC1 => k_is)
    (case nC2 => k_is)
    (case nC3 => k_is)
    (case nC4 => k_is)
    (case nC5 => k_is)
    (case nC6 => k_is)
    (case nC7 => k_is)
    (case nC8 => k_is)
    (case nC9 => k_is)
    (case nC10 => k_is)
    (case nC11 => k_is)
    (case nC12 => k_is)
    (case nC13 => k_is)
    (case nCw => k_is)
    (case wc => k_is)
    (case wt => k_is)
    (case wb => k_is)
    (case ed => k_is)
    (case ee => k_is)
    (case qa0 => k_is)
    (case qb0 => k_is)
    (case qa1 => k_is)
    (case qb1 => k_is)
    (case qa2 => k_is)
    (case qb2 => k_is)
    (case qa3 => k_is)
    (case qb3 => k_is)
    (case qa4 => k_is)
    (case qb4 => k_is)
    (case qa5 => k_is)
    (case qb5 => k_is)
    (case qa6 => k_is)
    (case qb6 => k_is)
    (case qa7 => k_is)
    (case qb7 => k_is)
    (case qa8 => k_is)
    (case qb8 => k_is)
    (case qa9 => k_is)
    (case qb9 => k_is)
    (case qa10 => k_is)
    (case qb10 => k_is)
    (case qa11 => k_is)
    (case qb11 => k_is)
    (case qa12 => k_is)
    (case qb12 => k_is)
    (case qa13 => k_is)
    (case qb13 => k_is)
    (case xi9 => k_exc)
    (case ws9 => k_is)
    (case ea9 => k_is)
    (case eb9 => k_is)
    (case ec9 => k_is)
    (case ef9 => k_is)
    (case eg9 => k_is)
    (case qc9_0 => k_is)
    (case qd9_0 => decide +kernel)
    (case qc9_1 => k_is)
    (case qd9_1 => decide +kernel)
    (case qc9_2 => k_is)
    (case qd9_2 => decide +kernel)
    (case qc9_3 => k_is)
    (case qd9_3 => decide +kernel)
    (case qc9_4 => k_is)
    (case qd9_4 => decide +kernel)
    (case qc9_5 => k_is)
    (case qd9_5 => decide +kernel)
    (case qc9_6 => k_is)
    (case qd9_6 => decide +kernel)
    (case qc9_7 => k_is)
    (case qd9_7 => decide +kernel)
    (case qc9_8 => k_is)
    (case qd9_8 => decide +kernel)
    (case qc9_10 => k_is)
    (case qd9_10 => decide +kernel)
    (case qc9_11 => k_is)
    (case qd9_11 => decide +kernel)
    (case qc9_12 => k_is)
    (case qd9_12 => decide +kernel)
    (case qc9_13 => k_is)
    (case qd9_13 => decide +kernel)
    (case qe9 => k_is)
#print axioms PySem.Challenge.cw_strikewheel_k61_turns_written_holds

