import PyProof.Rows.All
import Wide.All
import OpenK.AllK
import Wide.FinOn
import PyProof.EqAt
import PyProof.EqKinds
import PyProof.TupleCall
import KE.BitLaws
import KE.KSortTupG
import KE.KDictSum
import PyProof.Rows.TupDisplay
import PyProof.Rows.SetFrom
import KE.KSortRegAny
import PyProof.ListMulRoad
import PyProof.FactsAll.tuple_2
import PyProof.StrLawsIn
import PySem.Challenge.RW_strikewheel_k08_whole_first_of_great_pla
set_option Elab.async false
set_option linter.all false
set_option maxRecDepth 100000
/-! THE HAND LAYER, for ints, bools, texts, own classes, lists, tuples, dicts, comprehensions, walks over dicts, enumerate, zip, reversed, texts, calls, loops. Paste it whole ahead of your own text; what your proof does not reach may be deleted. -/
namespace L2
open PySem PySem.Spec PyProof.Rows

/-- a key: an int or a str -/
abbrev Key := Sum Int Str
def keyIs : Key → Value → Bool
  | .inl k, v => Value.isInt k v
  | .inr x, v => Value.isStrOf x v
def keyH (w : World) : Key → Int
  | .inl k => hashInt k
  | .inr x => hashStr w x
theorem keyIs_shape : ∀ {k : Key} {v : Value}, keyIs k v = true → (∃ i t, k = Sum.inl i ∧ v = Value.int i t) ∨ (∃ x t, k = Sum.inr x ∧ v = Value.str x t)
  | .inl i, v, h => by
    obtain ⟨t, e⟩ := Value.isInt_shape (k := i) (v := v) h
    exact .inl ⟨i, t, rfl, e⟩
  | .inr x, v, h => by
    obtain ⟨t, e⟩ := Value.isStrOf_shape (x := x) (v := v) h
    exact .inr ⟨x, t, rfl, e⟩
theorem keyIs_int (i : Int) (t : Tok) : keyIs (.inl i) (.int i t) = true := by simp [keyIs, Value.isInt]
theorem keyIs_str (x : Str) (t : Tok) : keyIs (.inr x) (.str x t) = true := by simp [keyIs, Value.isStrOf]
theorem key_ll (a b : Int) : decide ((Sum.inl a : Key) = Sum.inl b) = (a == b) := by
  by_cases e : a = b
  · subst e; simp
  · have h : ¬ (Sum.inl a : Key) = Sum.inl b := fun q => e (Sum.inl.inj q)
    rw [decide_eq_false h]
    exact (beq_eq_false_iff_ne.mpr e).symm
theorem key_rr (a b : Str) : decide ((Sum.inr a : Key) = Sum.inr b) = decide (a = b) := by
  by_cases e : a = b
  · subst e; simp
  · have h : ¬ (Sum.inr a : Key) = Sum.inr b := fun q => e (Sum.inr.inj q)
    rw [decide_eq_false h, decide_eq_false e]
theorem key_lr (a : Int) (b : Str) : decide ((Sum.inl a : Key) = Sum.inr b) = false := decide_eq_false (fun q => nomatch q)
theorem key_rl (a : Str) (b : Int) : decide ((Sum.inr a : Key) = Sum.inl b) = false := decide_eq_false (fun q => nomatch q)

def mixKind (prog : Program) (w : World) : PySem.KeyKind prog w Key where
  is := keyIs
  hash := keyH w
  inj := fun v a b ha hb => by
    rcases keyIs_shape ha with ⟨i, t, rfl, rfl⟩ | ⟨x, t, rfl, rfl⟩
    · rcases keyIs_shape hb with ⟨j, u, rfl, e⟩ | ⟨y, u, rfl, e⟩
      · injection e with e1 _; rw [e1]
      · exact nomatch e
    · rcases keyIs_shape hb with ⟨j, u, rfl, e⟩ | ⟨y, u, rfl, e⟩
      · exact nomatch e
      · injection e with e1 _; rw [e1]
  byValue := fun k v h => by
    rcases keyIs_shape h with ⟨i, t, rfl, rfl⟩ | ⟨x, t, rfl, rfl⟩ <;> rfl
  pyHash := fun hv h => by
    rcases keyIs_shape hv with ⟨i, t, rfl, rfl⟩ | ⟨x, t, rfl, rfl⟩
    · exact wpAny_pyHash_int h
    · exact wpAny_pyHash_str h
  eqBool := fun hu hv h => by
    rcases keyIs_shape hu with ⟨i, t, rfl, rfl⟩ | ⟨x, t, rfl, rfl⟩
    · rcases keyIs_shape hv with ⟨j, u, rfl, rfl⟩ | ⟨y, u, rfl, rfl⟩
      · rw [key_ll] at h; exact wpAny_eqBool_int h
      · rw [key_lr] at h; exact SeqAt.EqAt.int_str i t y u _ _ _ _ h
    · rcases keyIs_shape hv with ⟨j, u, rfl, rfl⟩ | ⟨y, u, rfl, rfl⟩
      · rw [key_rl] at h; exact SeqAt.EqAt.str_int x t j u _ _ _ _ h
      · rw [key_rr] at h; exact wpAny_eqBool_str h
  «strs» := fun k x t v h => by
    rcases keyIs_shape h with ⟨i, u, rfl, e⟩ | ⟨y, u, rfl, e⟩
    · exact nomatch e
    · injection e with e1 _
      subst e1
      cases v <;> rfl

theorem mixKind_int (prog : Program) (w : World) (i : Int) (t : Tok) : (mixKind prog w).is (.inl i) (.int i t) = true := keyIs_int i t
theorem mixKind_str (prog : Program) (w : World) (x : Str) (t : Tok) : (mixKind prog w).is (.inr x) (.str x t) = true := keyIs_str x t
end L2

namespace L2
open PySem PySem.Spec PyProof.Rows

/-- a value, without the heap -/
inductive V where
  | non | bl (b : Bool) | int (i : Int) | str (x : Str) | byt (b : Array UInt8) | flt (b : UInt64) | ref (a : Addr) | ty (n : String)
  deriving DecidableEq

def RelV : V → Value → Prop
  | .non, u => u = Value.none
  | .bl b, u => u = Value.bool b
  | .int i, u => ∃ t, u = Value.int i t
  | .str x, u => ∃ t, u = Value.str x t
  | .byt b, u => ∃ t, u = Value.bytes b t
  | .flt b, u => ∃ t, u = Value.float b t
  | .ref a, u => u = Value.ref a
  | .ty n, u => u = Value.type n

abbrev Vals : List V → List Value → Prop := Paired RelV
theorem Vals.length {xs : List V} {us : List Value} (r : Vals xs us) : xs.length = us.length := Paired.length r
theorem Vals.get : ∀ {xs : List V} {us : List Value} {i : Nat} {x : V}, Vals xs us → xs[i]? = some x → ∃ u, us[i]? = some u ∧ RelV x u
  | _, _, _, _, .nil, e => by simp at e
  | _, _, 0, _, .cons r _, e => by simp at e; subst e; exact ⟨_, rfl, r⟩
  | _, _, i + 1, x, .cons _ t, e => by
    obtain ⟨u, h1, h2⟩ := Vals.get (i := i) (x := x) t (by simpa using e)
    exact ⟨u, by simpa using h1, h2⟩
theorem Vals.set {x : V} {u : Value} (r : RelV x u) : ∀ {xs : List V} {us : List Value} (i : Nat), Vals xs us → Vals (xs.set i x) (us.set i u)
  | _, _, _, .nil => .nil
  | _, _, 0, .cons _ t => .cons r t
  | _, _, i + 1, .cons q t => .cons q (Vals.set r i t)
theorem Vals.append : ∀ {xs ys : List V} {us ws : List Value}, Vals xs us → Vals ys ws → Vals (xs ++ ys) (us ++ ws)
  | _, _, _, _, .nil, s => s
  | _, _, _, _, .cons r t, s => .cons r (Vals.append t s)
theorem Vals.take : ∀ {xs : List V} {us : List Value} (n : Nat), Vals xs us → Vals (xs.take n) (us.take n)
  | _, _, 0, _ => .nil
  | _, _, _ + 1, .nil => .nil
  | _, _, n + 1, .cons r t => .cons r (Vals.take n t)
theorem Vals.drop : ∀ {xs : List V} {us : List Value} (n : Nat), Vals xs us → Vals (xs.drop n) (us.drop n)
  | _, _, 0, r => r
  | _, _, _ + 1, .nil => .nil
  | _, _, n + 1, .cons _ t => Vals.drop n t
def RelO : Option V → Option Value → Prop
  | some v, some u => RelV v u
  | none, none => True
  | _, _ => False
def KV {κ : Type} : List (κ × V) → List (κ × Value) → Prop := Paired fun (p : κ × V) (q : κ × Value) => p.1 = q.1 ∧ RelV p.2 q.2

/-- a key of a dict (00_mix): an int or a text -/
def kV : Key → V
  | .inl i => .int i
  | .inr x => .str x

/-- what stands at a tracked address -/
inductive HO where
  /-- a list -/
  | lst (xs : List V)
  /-- a tuple (never changes) -/
  | tup (xs : List V)
  /-- a dict whose keys are ints and texts; one whose keys are tuples of ints and texts (the empty one is both) -/
  | dK (kvs : List (Key × V)) | dT (kvs : List (List Key × V))
  /-- a set of ints: its members, its size -/
  | set (S : Int → Bool) (n : Nat)
  /-- an instance of the class at C, its dict at dx, its attributes -/
  | ins (C dx : Addr) (fs : List (Str × V))
  /-- the dict of the instance at x -/
  | own (x : Addr)
  /-- the dict of an exception -/
  | xd (fs : List (Str × V))
  /-- a bound method, f of x -/
  | met (f x : Addr)
  /-- a range object lo, lo + 1, .. below hi -/
  | rng (lo hi : Int)
  /-- a thing that is known to the object (the script; a dict while a loop walks it): read, never written while it is so -/
  | frz (o : Obj) (u : HO)
  /-- a code object's table -/
  | tbl (ps : Array Value)
  /-- any other thing, by what is true of its one object (a def of one's own: SetO a S n := HO.ext fun h => ..) -/
  | ext (φ : Heap → Prop)

abbrev Hp := Addr → Option HO
def upd (H : Hp) (a : Addr) (o : HO) : Hp := fun b => if b = a then some o else H b
theorem upd_same {H : Hp} {a : Addr} {o : HO} : upd H a o a = some o := by unfold upd; rw [if_pos rfl]
theorem upd_ne {H : Hp} {a b : Addr} {o : HO} (h : b ≠ a) : upd H a o b = H b := by unfold upd; rw [if_neg h]
/-- two objects of different content stand apart -/
theorem ne_of {H : Hp} {a b : Addr} {o u : HO} (h : H a = some o) (h' : H b = some u) (d : o ≠ u) : a ≠ b := by
  intro e; subst e; rw [h] at h'; exact d (Option.some.inj h')
theorem ne_of_none {H : Hp} {a b : Addr} {o : HO} (h : H a = some o) (h' : H b = none) : a ≠ b := by
  intro e; subst e; rw [h] at h'; cases h'

section
variable (P : Program) (w : World)
def ObjOk (H : Hp) (h : Heap) (a : Addr) : HO → Prop
  | .lst xs => xs.length ≤ sizeLine ∧ ∃ (its : List Value) (n : Nat), Vals xs its ∧ h.get? a = some { cls := .type "list", data := .seq its.toArray n }
  | .tup xs => xs.length ≤ sizeLine ∧ ∃ its : List Value, Vals xs its ∧ IsTup h a its.toArray
  | .dK kvs => kvs.length ≤ sizeLine ∧ (a == sysModules) = false ∧ ∃ vs, KV kvs vs ∧ h.DictOf (mixKind P w) a vs
  | .dT kvs => kvs.length ≤ sizeLine ∧ (a == sysModules) = false ∧ ∃ xs : List (List Key × Addr × Value),
      Paired (fun (p : List Key × V) (q : List Key × Addr × Value) => p.1 = q.1 ∧ H q.2.1 = some (.tup (p.1.map kV)) ∧ RelV p.2 q.2.2) kvs xs ∧
      ∃ o es ep, h.get? a = some o ∧ o.ExactDict ∧ o.data = .dict es ep ∧ es.toList = xs.map (entryOfKey (tupleKind (mixKind P w))) ∧ (xs.map (·.1)).Nodup
  | .set S n => h.SetOf (intKind P w) a S n
  | .ins C dx fs => H dx = some (.own a) ∧ fs.length ≤ 1000 ∧ dx ≠ a ∧ h.get? a = some (PySem.W.instObj C dx) ∧
      ∃ mA, h.Ns1 dx mA ∧ (∀ f, RelO (fs.lookup f) (mA f)) ∧ PySem.Within mA (fs.map (·.1))
  | .own _ => ∃ o, h.get? a = some o
  | .xd fs => ∃ mA, h.Ns1 a mA ∧ ∀ f, RelO (fs.lookup f) (mA f)
  | .rng lo hi => ∃ t u v, h.get? a = some { cls := .type "range", data := .fields #[.int lo t, .int hi u, .int 1 v] }
  | .frz o u => h.get? a = some o ∧ ObjOk H h a u
  | .tbl ps => h.get? a = some { cls := .none, data := .fields ps }
  | .met f x => h.get? a = some (PySem.W.methodObj (.ref f) (.ref x))
  | .ext φ => φ h ∧ (∃ o, h.get? a = some o) ∧ ∀ h1 h2 : Heap, φ h1 → (∀ o, h1.get? a = some o → h2.get? a = some o) → φ h2
/-- the abstract heap is held -/
def HOk (H : Hp) (h : Heap) : Prop := ∀ a o, H a = some o → ObjOk P w H h a o
end

section
variable {P : Program} {w : World} {H H' : Hp} {h h' : Heap} {a : Addr} {o : HO}
theorem ObjOk.lt (x : ObjOk P w H h a o) : a < h.objs.size := by
  cases o with
  | lst xs => obtain ⟨_, _, _, _, e⟩ := x; exact Heap.lt_size e
  | tup xs => obtain ⟨_, _, _, p⟩ := x; exact p.lt
  | dK kvs => obtain ⟨_, _, _, _, o, _, _, e, _⟩ := x; exact Heap.lt_size e
  | dT kvs => obtain ⟨_, _, _, _, o, _, _, e, _⟩ := x; exact Heap.lt_size e
  | set S n => obtain ⟨o, _, _, _, e, _⟩ := x; exact Heap.lt_size e
  | ins C dx fs => obtain ⟨_, _, _, e, _⟩ := x; exact Heap.lt_size e
  | own y => obtain ⟨_, e⟩ := x; exact Heap.lt_size e
  | xd fs => obtain ⟨_, ⟨_, _, _, e, _⟩, _⟩ := x; exact Heap.lt_size e
  | rng lo hi => obtain ⟨_, _, _, e⟩ := x; exact Heap.lt_size e
  | frz ob u => obtain ⟨e, _⟩ := x; exact Heap.lt_size e
  | tbl ps => exact Heap.lt_size (show h.get? a = some _ from x)
  | met f y => exact Heap.lt_size (show h.get? a = some _ from x)
  | ext φ => obtain ⟨_, ⟨_, e⟩, _⟩ := x; exact Heap.lt_size e
theorem Paired.mapP {α β : Type} {F G : α → β → Prop} : ∀ {l₁ : List α} {l₂ : List β}, Paired F l₁ l₂ → (∀ a b, F a b → G a b) → Paired G l₁ l₂
  | _, _, .nil, _ => .nil
  | _, _, .cons r t, f => .cons (f _ _ r) (Paired.mapP t f)
/-- what an object's description leans on: its own object, its own dict, the tuples -/
theorem ObjOk.stay (x : ObjOk P w H h a o) (k : ∀ b u, (b = a ∨ H b = some (.own a)) → h.get? b = some u → h'.get? b = some u)
    (ho : ∀ b, H b = some (.own a) → H' b = some (.own a)) (ht : ∀ b xs, H b = some (.tup xs) → H' b = some (.tup xs)) : ObjOk P w H' h' a o := by
  induction o with
  | lst xs => obtain ⟨z, its, n, r, e⟩ := x; exact ⟨z, its, n, r, k _ _ (.inl rfl) e⟩
  | tup xs => obtain ⟨z, its, r, ob, e, c⟩ := x; exact ⟨z, its, r, ob, k _ _ (.inl rfl) e, c⟩
  | dK kvs => obtain ⟨z, y, vs, r, ob, es, ep, e, c⟩ := x; exact ⟨z, y, vs, r, ob, es, ep, k _ _ (.inl rfl) e, c⟩
  | dT kvs =>
    obtain ⟨z, y, xs, r, ob, es, ep, e, c⟩ := x
    exact ⟨z, y, xs, Paired.mapP r fun p q z => ⟨z.1, ht _ _ z.2.1, z.2.2⟩, ob, es, ep, k _ _ (.inl rfl) e, c⟩
  | set S n => obtain ⟨ob, es, ep, t, e, c⟩ := x; exact ⟨ob, es, ep, t, k _ _ (.inl rfl) e, c⟩
  | ins C dx fs =>
    obtain ⟨d, z, ne, e, mA, ⟨od, es, ep, e2, c⟩, r⟩ := x
    exact ⟨ho _ d, z, ne, k _ _ (.inl rfl) e, mA, ⟨od, es, ep, k _ _ (.inr d) e2, c⟩, r⟩
  | own y => obtain ⟨ob, e⟩ := x; exact ⟨ob, k _ _ (.inl rfl) e⟩
  | xd fs => obtain ⟨mA, ⟨od, es, ep, e, c⟩, r⟩ := x; exact ⟨mA, ⟨od, es, ep, k _ _ (.inl rfl) e, c⟩, r⟩
  | rng lo hi => obtain ⟨t, u, v, e⟩ := x; exact ⟨t, u, v, k _ _ (.inl rfl) e⟩
  | frz ob u ih => obtain ⟨e, q⟩ := x; exact ⟨k _ _ (.inl rfl) e, ih q⟩
  | tbl ps =>
    have e : h.get? a = some { cls := .none, data := .fields ps } := x
    show h'.get? a = some { cls := .none, data := .fields ps }
    exact k a _ (.inl rfl) e
  | met f y =>
    have e : h.get? a = some (PySem.W.methodObj (.ref f) (.ref y)) := x
    show h'.get? a = some (PySem.W.methodObj (.ref f) (.ref y))
    exact k a _ (.inl rfl) e
  | ext φ => obtain ⟨p, ⟨o, e⟩, st⟩ := x; exact ⟨st _ _ p fun o q => k _ _ (.inl rfl) q, ⟨o, k _ _ (.inl rfl) e⟩, st⟩
theorem HOk.lt (x : HOk P w H h) (e : H a = some o) : a < h.objs.size := (x a o e).lt
theorem HOk.fresh (x : HOk P w H h) (e : h.objs.size ≤ a) : H a = none := by
  cases q : H a with
  | none => rfl
  | some u => exact absurd (Nat.lt_of_lt_of_le (x.lt q) e) (Nat.lt_irrefl _)
/-- every object of the heap is kept -/
theorem HOk.kept (x : HOk P w H h) (k : ∀ b u, h.get? b = some u → h'.get? b = some u) : HOk P w H h' := fun a o e =>
  (x a o e).stay (fun b u _ q => k b u q) (fun _ q => q) fun _ _ q => q
/-- a new object is laid and tracked -/
theorem HOk.laid (x : HOk P w H h) (k : ∀ b u, h.get? b = some u → h'.get? b = some u) (hp : h.objs.size ≤ a) (new : ObjOk P w (upd H a o) h' a o) : HOk P w (upd H a o) h' := fun b u e => by
  have hn := x.fresh hp
  by_cases hb : b = a
  · subst hb; rw [upd_same] at e; cases e; exact new
  · rw [upd_ne hb] at e
    exact (x b u e).stay (fun c v _ q => k c v q) (fun c q => by rw [upd_ne (ne_of_none q hn)]; exact q) fun c xs q => by rw [upd_ne (ne_of_none q hn)]; exact q
end

/-- what may be read as u: it is u, or a known u -/
def Rd (H : Hp) (a : Addr) (u : HO) : Prop := H a = some u ∨ ∃ o, H a = some (.frz o u)
theorem Rd.ok {P : Program} {w : World} {H : Hp} {h : Heap} {a : Addr} {u : HO} (r : Rd H a u) (x : HOk P w H h) : ObjOk P w H h a u := by
  rcases r with r | ⟨o, r⟩
  · exact x a u r
  · obtain ⟨_, q⟩ := x a _ r
    exact q
/-- what may be written -/
def Mut : Option HO → Prop
  | some (.lst _) => True
  | some (.dK _) => True
  | some (.dT _) => True
  | some (.set _ _) => True
  | some (.ins _ _ _) => True
  | some (.ext _) => True
  | _ => False
section
variable {P : Program} {w : World} {H : Hp} {h h' : Heap} {x e : Addr} {o' : HO}
/-- the object at e is changed: x itself, or the dict of the instance x -/
theorem HOk.write (ok : HOk P w H h) (mu : Mut (H x)) (he : e = x ∨ H e = some (.own x)) (k : ∀ b u, b ≠ e → h.get? b = some u → h'.get? b = some u) (heo : ∃ u, h'.get? e = some u)
    (new : ObjOk P w (upd H x o') h' x o') : HOk P w (upd H x o') h' := fun b u q => by
  have nown : ∀ c y, H c = some (.own y) → c ≠ x := fun c y r z => by subst z; rw [r] at mu; exact mu
  have ntup : ∀ c xs, H c = some (.tup xs) → c ≠ x := fun c xs r z => by subst z; rw [r] at mu; exact mu
  by_cases hb : b = x
  · subst hb; rw [upd_same] at q; cases q; exact new
  · rw [upd_ne hb] at q
    by_cases hbe : b = e
    · have q' : H b = some (.own x) := by
        rcases he with z | z
        · exact absurd (hbe.trans z) hb
        · rw [hbe]; exact z
      rw [q] at q'; cases q'
      obtain ⟨v, hv⟩ := heo
      exact ⟨v, by rw [hbe]; exact hv⟩
    · refine (ok b u q).stay (fun c v hc r => k c v ?_ r) (fun c r => by rw [upd_ne (nown c b r)]; exact r) fun c xs r => by rw [upd_ne (ntup c xs r)]; exact r
      rcases hc with rfl | hc
      · exact hbe
      · rintro rfl
        rcases he with z | z
        · exact nown c b hc z
        · rw [hc] at z; cases z; exact hb rfl
end

/-! ### kept unless tracked; of the frames at fs (the callers') the slots may change (an exception that passes writes there); of the records at ex (iterators) nothing is said -/
structure Un (fs ex : List Addr) (H H' : Hp) (h h' : Heap) : Prop where
  keep : ∀ b o, h.get? b = some o → H b = none → b ∉ fs → b ∉ ex → h'.get? b = some o
  slot : ∀ b o, h.get? b = some o → H b = none → b ∈ fs → b ∉ ex → ∃ sl, h'.get? b = some { o with slots := sl }
  free : ∀ b o, h.get? b = some o → H b = none → b ∉ ex → H' b = none
  there : ∀ b o, h.get? b = some o → b ∉ ex → ∃ o', h'.get? b = some o'
  tups : ∀ b xs, H b = some (.tup xs) → H' b = some (.tup xs)
  frzs : ∀ b o u, H b = some (.frz o u) → H' b = some (.frz o u)
  tbls : ∀ b ps, H b = some (.tbl ps) → ∃ more, H' b = some (.tbl (ps ++ more))
section
variable {fs fs' ex ex' : List Addr} {H H1 H2 : Hp} {h h1 h2 h' : Heap} {a x e : Addr} {o : HO}
theorem Un.any (u : Un fs ex H H1 h h1) {b : Addr} {ob : Obj} (q : h.get? b = some ob) (n : H b = none) (hx : b ∉ ex) : ∃ sl, h1.get? b = some { ob with slots := sl } := by
  by_cases hb : b ∈ fs
  · exact u.slot b ob q n hb hx
  · exact ⟨ob.slots, u.keep b ob q n hb hx⟩
theorem Un.kept (k : ∀ b u, h.get? b = some u → h'.get? b = some u) : Un fs ex H H h h' :=
  ⟨fun b ob q _ _ _ => k b ob q, fun b ob q _ _ _ => ⟨ob.slots, k b ob q⟩, fun _ _ _ n _ => n, fun b ob q _ => ⟨ob, k b ob q⟩, fun _ _ q => q, fun _ _ _ q => q, fun _ ps q => ⟨#[], by rw [q]; simp⟩⟩
theorem Un.refl : Un fs ex H H h h := Un.kept fun _ _ q => q
theorem Un.laid (k : ∀ b u, h.get? b = some u → h'.get? b = some u) (hp : h.objs.size ≤ a) (hn : H a = none) : Un fs ex H (upd H a o) h h' where
  keep := fun b u q _ _ _ => k b u q
  slot := fun b u q _ _ _ => ⟨u.slots, k b u q⟩
  free := fun b u q n _ => by rw [upd_ne (Nat.ne_of_lt (Nat.lt_of_lt_of_le (Heap.lt_size q) hp))]; exact n
  there := fun b u q _ => ⟨u, k b u q⟩
  tups := fun b xs q => by rw [upd_ne (ne_of_none q hn)]; exact q
  frzs := fun b u xs q => by rw [upd_ne (ne_of_none q hn)]; exact q
  tbls := fun b ps q => ⟨#[], by rw [upd_ne (ne_of_none q hn), q]; simp⟩
theorem Un.write (mu : Mut (H x)) (he : e = x ∨ H e = some (.own x)) (k : ∀ b u, b ≠ e → h.get? b = some u → h'.get? b = some u) (heo : ∃ u, h'.get? e = some u) : Un fs ex H (upd H x o) h h' := by
  have hx : ∀ b, H b = none → b ≠ x := fun b n z => by subst z; rw [n] at mu; exact mu
  have hb : ∀ b, H b = none → b ≠ e := fun b n z => by
    subst z
    rcases he with r | r
    · exact hx b n r
    · rw [n] at r; cases r
  have hm : ∀ b u, H b = some u → ¬ Mut (some u) → b ≠ x := fun b u q nm z => by subst z; rw [q] at mu; exact nm mu
  refine ⟨fun b u q n _ _ => k b u (hb b n) q, fun b u q n _ _ => ⟨u.slots, k b u (hb b n) q⟩, fun b u q n _ => by rw [upd_ne (hx b n)]; exact n, fun b u q _ => ?_,
    fun b xs q => by rw [upd_ne (hm b _ q fun z => z)]; exact q, fun b u xs q => by rw [upd_ne (hm b _ q fun z => z)]; exact q, fun b ps q => ⟨#[], by rw [upd_ne (hm b _ q fun z => z), q]; simp⟩⟩
  by_cases hbe : b = e
  · subst hbe; exact heo
  · exact ⟨u, k b u hbe q⟩
end

/-! ### the heap without what is tracked -/
def trk (h : Heap) (H : Hp) : List Addr := (List.range h.objs.size).filter fun a => (H a).isSome
def hidT (h : Heap) (H : Hp) : Heap := PySem.W.hideAll h (trk h H)
theorem hidT_size (h : Heap) (H : Hp) : (hidT h H).objs.size = h.objs.size := PySem.W.hideAll_size _ _
theorem hidT_get {h : Heap} {H : Hp} {b : Addr} {o : Obj} (e : h.get? b = some o) (n : H b = none) : (hidT h H).get? b = some o :=
  PySem.W.hideAll_get _ e fun hm => by
    have q : (H b).isSome = true := (List.mem_filter.mp hm).2
    rw [n] at q; simp at q
theorem of_hidT {h : Heap} {H : Hp} {b : Addr} {o : Obj} (e : (hidT h H).get? b = some o) : h.get? b = some o ∧ H b = none := by
  have e' : h.get? b = some o := PySem.W.of_hideAll (trk h H) e
  refine ⟨e', ?_⟩
  cases q : H b with
  | none => rfl
  | some x =>
    have hm : b ∈ trk h H := List.mem_filter.mpr ⟨List.mem_range.mpr (Heap.lt_size e'), by simp [q]⟩
    have z : (hidT h H).get? b = none := PySem.W.hideAll_none (trk h H) hm
    rw [z] at e; cases e

/-! ### OpenK's ledger, filled with every new object but one -/
def allNews (g h : Heap) (L : Addr) : List (Addr × Obj) := (List.range h.objs.size).filterMap fun a => if a = L ∨ (g.get? a).isSome = true then none else (h.get? a).map fun o => (a, o)
def rest (g h : Heap) (L d : Addr) : List (Addr × Obj) := (allNews g h L).filter fun p => decide (p.1 ≠ d)
end L2

namespace L2
open PySem PySem.Spec PyProof.Rows

/-- the module's facts, over the base: the heap at the law's entry without what is tracked there -/
structure Mod (K : PySem.W.Frag) (mg : Str → Option Value) (base : Heap) : Prop where
  kin : K.In base
  glob : base.Ns mainGlobals mg
  blt : ∃ mb, base.Ns builtinsNs mb ∧ ∀ x : Str, x ≠ "__name__" → mb x = bootBuiltins x
  nolimit : base.NoLimit

/-- the context: a def's body (or a comprehension's block) running. base: fixed through the whole law; s₀, H₀: the entry; outer: the frames whose slots others may change (a def's callers); stack: all frames that run;
   ex: iterators that were made ahead of the entry and are walked here (a comprehension's); fn: the names whose cells were made at the entry (a def: all; a comprehension's block: its own); calm: not within an except suite; pn: pins that every state bears; xe: what is wanted of an exception that leaves the code -/
structure Cx where
  prog : Program
  w : World
  K : PySem.W.Frag
  mg : Str → Option Value
  base : Heap
  A : Around
  N : List Str
  s_0 : Shared
  H_0 : Hp
  env : Env
  outer : List Env
  stack : List Env
  ex : List Addr
  fn : Str → Bool
  calm : Bool
  pn : List (Addr × Obj)
  xe : Value → Shared → Prop
/-- the callers' frames -/
def frs (l : List Env) : List Addr := l.filterMap (·.frame)
abbrev Cx.fs (X : Cx) : List Addr := frs X.outer

def Vis (sc : Scope) (x : Str) : Prop := sc.names.lookup x = some .local ∨ sc.names.lookup x = some .cell ∨ sc.names.lookup x = some .free
def Loc (sc : Scope) (x : Str) : Prop := sc.names.lookup x = some .local ∨ sc.names.lookup x = some .cell
def Look (env : Env) (h : Heap) (m : Str → Option Value) (x : Str) (u : Value) : Prop :=
  (env.kindOf x = some .local ∧ m x = some u) ∨ ((env.kindOf x = some .cell ∨ env.kindOf x = some .free) ∧ ∃ c, env.cells.lookup x = some c ∧ h.IsCell c (some u))

structure Cx.Ok (X : Cx) : Prop where
  mod : Mod X.K X.mg X.base
  kind : X.env.scope.kind = .function
  glob : X.env.globals = mainGlobals
  blt : X.env.builtins = builtinsNs
  above : X.s_0.heap.objs.size ≤ X.env.locals
  inj : ∀ x y c, X.env.cells.lookup x = some c → X.env.cells.lookup y = some c → x = y
  has : ∀ x, (X.env.kindOf x = some .cell ∨ X.env.kindOf x = some .free) → ∃ c, X.env.cells.lookup x = some c
  cab : ∀ x c, X.fn x = true → X.env.cells.lookup x = some c → X.s_0.heap.objs.size ≤ c
  hd : X.calm = true → X.A.handled = none
  frames : X.A.frames = some X.stack
  stk : X.stack = X.outer ∨ (X.stack = X.env :: X.outer ∧ X.env.frame = some X.env.locals)
  exf : ∀ b ∈ X.ex, b ≠ X.env.locals ∧ ∀ x c, X.env.cells.lookup x = some c → c ≠ b
  bs : ∀ b o, X.base.get? b = some o → X.s_0.heap.get? b = some o ∧ X.H_0 b = none
  bsz : X.base.objs.size ≤ X.s_0.heap.objs.size
  noex : ∀ b o, X.base.get? b = some o → b ∉ X.ex
  exfs : ∀ b ∈ X.ex, b ∉ X.fs
  funs : X.s_0.heap.FunFrames X.base X.outer
  frf : ∀ b ∈ X.fs, X.H_0 b = none

structure Inv (X : Cx) (pins : List (Addr × Obj)) (σ : List (Option V)) (H : Hp) (s : Shared) : Prop where
  ok : X.Ok
  os : s.os = X.s_0.os
  bare : AllBare s.gens
  base : Un X.fs X.ex X.H_0 H X.s_0.heap s.heap
  loc : ∃ m, s.heap.Ns X.env.locals m ∧ ∀ (i : Nat) (x : Str) (v : V), X.N[i]? = some x → σ[i]? = some (some v) → Vis X.env.scope x → ∃ u, RelV v u ∧ Look X.env s.heap m x u
  cell : ∀ x c, X.env.cells.lookup x = some c → ∃ v, s.heap.IsCell c v
  free : H X.env.locals = none
  freeC : ∀ x c, X.env.cells.lookup x = some c → H c = none
  pin : ∀ p ∈ X.pn ++ pins, s.heap.get? p.1 = some p.2 ∧ H p.1 = none ∧ p.1 ≠ X.env.locals ∧ p.1 ∉ X.fs ∧ ∀ v, p.2.data ≠ .cell v
  hok : HOk X.prog X.w H s.heap
  len : σ.length = X.N.length

section
variable {X : Cx} {pins : List (Addr × Obj)} {σ : List (Option V)} {H H' : Hp} {s : Shared} {h' : Heap}

theorem Cx.Ok.nofr (ok : X.Ok) {b : Addr} {o : Obj} (e : X.base.get? b = some o) : b ∉ X.fs := fun hb => by
  have := (ok.funs.mem hb).1
  rw [e] at this; cases this
theorem Inv.bs (I : Inv X pins σ H s) : ∀ b o, X.base.get? b = some o → s.heap.get? b = some o ∧ H b = none := fun b o e =>
  ⟨I.base.keep b o (I.ok.bs b o e).1 (I.ok.bs b o e).2 (I.ok.nofr e) (I.ok.noex b o e), I.base.free b o (I.ok.bs b o e).1 (I.ok.bs b o e).2 (I.ok.noex b o e)⟩
theorem Inv.bk (I : Inv X pins σ H s) : ∀ b o, X.base.get? b = some o → s.heap.get? b = some o := fun b o e => (I.bs b o e).1
theorem Inv.mod (I : Inv X pins σ H s) : Mod X.K X.mg X.base := I.ok.mod
theorem Inv.kIn (I : Inv X pins σ H s) : X.K.In s.heap := I.ok.mod.kin.keeps I.bk
/-- the frame over the base: for OpenK's rules (K.In X.base is I.mod.kin) -/
theorem Inv.fr (I : Inv X pins σ H s) : ∃ m, Fr X.base X.env.locals s.heap m :=
  let ⟨m, hn, _⟩ := I.loc
  ⟨m, hn, I.bk, Nat.le_trans I.ok.bsz I.ok.above⟩
theorem Inv.lt (I : Inv X pins σ H s) : X.env.locals < s.heap.objs.size := let ⟨_, hn, _⟩ := I.loc; hn.lt
theorem Inv.sz (I : Inv X pins σ H s) : X.s_0.heap.objs.size ≤ s.heap.objs.size := Nat.le_trans I.ok.above (Nat.le_of_lt I.lt)
theorem Inv.nofs (I : Inv X pins σ H s) {a : Addr} (h : s.heap.objs.size ≤ a) : a ∉ X.fs := fun hb => by
  obtain ⟨_, o, ho, _⟩ := I.ok.funs.mem hb
  exact absurd (Nat.lt_of_lt_of_le (Heap.lt_size ho) (Nat.le_trans I.sz h)) (Nat.lt_irrefl _)
theorem Inv.cne (I : Inv X pins σ H s) : ∀ x c, X.env.cells.lookup x = some c → c ≠ X.env.locals := fun x c e z => by
  obtain ⟨v, o, ho, hd⟩ := I.cell x c e
  obtain ⟨m, ⟨o', es, ep, ho', hd', _⟩, _⟩ := I.loc
  rw [z, ho'] at ho; cases ho; rw [hd'] at hd; cases hd
theorem Inv.funs (I : Inv X pins σ H s) : s.heap.FunFrames X.base X.outer := by
  have all : ∀ (l : List Env), (∀ b ∈ frs l, b ∈ X.fs) → X.s_0.heap.FunFrames X.base l → s.heap.FunFrames X.base l := by
    intro l
    induction l with
    | nil => intro _ _; trivial
    | cons env r ih =>
      intro hs hl
      obtain ⟨hk, ⟨L, o, hf, hn, ho, hd⟩, hr⟩ := hl
      have hL : L ∈ X.fs := hs L (by unfold frs; rw [List.filterMap_cons, hf]; exact List.mem_cons_self)
      obtain ⟨sl, e⟩ := I.base.slot L o ho (I.ok.frf L hL) hL fun z => I.ok.exfs L z hL
      exact ⟨hk, ⟨L, _, hf, hn, e, hd⟩, ih (fun b hb => hs b (by unfold frs; rw [List.filterMap_cons, hf]; exact List.mem_cons_of_mem _ hb)) hr⟩
  exact all X.outer (fun _ hb => hb) I.ok.funs

/-- the frames that run, for a call -/
theorem Inv.stack (I : Inv X pins σ H s) : s.heap.FunFrames X.base X.stack := by
  rcases I.ok.stk with e | ⟨e, hf⟩
  · rw [e]; exact I.funs
  · rw [e]
    obtain ⟨m, hn, _⟩ := I.loc
    refine .cons (by rw [I.ok.kind]; decide) hf hn ?_ I.funs
    exact Heap.get?_none_of_le (Nat.le_trans I.ok.bsz I.ok.above)
theorem Inv.stkSub (I : Inv X pins σ H s) : ∀ b ∈ frs X.stack, b ∈ X.env.locals :: X.fs := fun b hb => by
  rcases I.ok.stk with e | ⟨e, hf⟩
  · rw [e] at hb; exact List.mem_cons_of_mem _ hb
  · rw [e] at hb
    unfold frs at hb
    rw [List.filterMap_cons, hf] at hb
    exact hb
theorem Inv.stkFree (I : Inv X pins σ H s) : ∀ b ∈ frs X.stack, H b = none := fun b hb => by
  rcases List.mem_cons.mp (I.stkSub b hb) with e | hb
  · rw [e]; exact I.free
  · obtain ⟨_, o, ho, _⟩ := I.ok.funs.mem hb
    exact I.base.free b o ho (I.ok.frf b hb) fun z => I.ok.exfs b z hb

/-- THE STEP: the untracked objects but the frame and the records at ch are kept (the callers' frames up to slots), the frame's map is kept, the new abstract heap is held -/
theorem Inv.step {g' : Array GenState} {t' : Nat} {d' : Drawn} {ch : List Addr} (I : Inv X pins σ H s)
    (hch : ∀ b ∈ ch, (b ∈ X.ex ∨ X.s_0.heap.objs.size ≤ b) ∧ b ≠ X.env.locals ∧ (∀ x c, X.env.cells.lookup x = some c → c ≠ b) ∧ ∀ p ∈ X.pn ++ pins, p.1 ≠ b)
    (keep : ∀ b o, b ≠ X.env.locals → b ∉ X.fs → b ∉ ch → s.heap.get? b = some o → H b = none → h'.get? b = some o)
    (slot : ∀ b o, b ≠ X.env.locals → b ∈ X.fs → b ∉ ch → s.heap.get? b = some o → H b = none → ∃ sl, h'.get? b = some { o with slots := sl }) (free : ∀ b o, b ∉ ch → s.heap.get? b = some o → H b = none → H' b = none)
    (there : ∀ b o, b ∉ ch → s.heap.get? b = some o → ∃ o', h'.get? b = some o')
    (tups : ∀ b xs, H b = some (.tup xs) → H' b = some (.tup xs)) (frzs : ∀ b o u, H b = some (.frz o u) → H' b = some (.frz o u)) (tbls : ∀ b ps, H b = some (.tbl ps) → ∃ more, H' b = some (.tbl (ps ++ more)))
    (ns : ∀ m, s.heap.Ns X.env.locals m → h'.Ns X.env.locals m) (hok : HOk X.prog X.w H' h') (hg : AllBare g') :
    Inv X pins σ H' { s with heap := h', gens := g', drawn := d', toks := t' } := by
  have neL : ∀ b o, X.s_0.heap.get? b = some o → b ≠ X.env.locals := fun b o e => Nat.ne_of_lt (Nat.lt_of_lt_of_le (Heap.lt_size e) I.ok.above)
  have neC : ∀ b o, X.s_0.heap.get? b = some o → b ∉ X.ex → b ∉ ch := fun b o e hx hb => by
    rcases (hch b hb).1 with z | z
    · exact hx z
    · exact absurd (Nat.lt_of_lt_of_le (Heap.lt_size e) z) (Nat.lt_irrefl _)
  have cellK : ∀ x c, X.env.cells.lookup x = some c → ∀ v, s.heap.IsCell c v → h'.IsCell c v := fun x c e v ⟨o, ho, hd⟩ => by
    have nch : c ∉ ch := fun z => (hch c z).2.2.1 x c e rfl
    by_cases hc : c ∈ X.fs
    · obtain ⟨sl, q⟩ := slot c o (I.cne x c e) hc nch ho (I.freeC x c e)
      exact ⟨_, q, hd⟩
    · exact ⟨o, keep c o (I.cne x c e) hc nch ho (I.freeC x c e), hd⟩
  refine ⟨I.ok, I.os, hg, ⟨fun b o e n hb hx => ?_, fun b o e n hb hx => ?_, fun b o e n hx => ?_, fun b o e hx => ?_, fun b xs e => tups b xs (I.base.tups b xs e), fun b o xs e => frzs b o xs (I.base.frzs b o xs e), fun b ps e => ?_⟩, ?_, fun x c e => ?_, ?_, fun x c e => ?_, fun p hp => ?_, hok, I.len⟩
  · exact keep b o (neL b o e) hb (neC b o e hx) (I.base.keep b o e n hb hx) (I.base.free b o e n hx)
  · obtain ⟨sl, e1⟩ := I.base.slot b o e n hb hx
    obtain ⟨sl', e2⟩ := slot b _ (neL b o e) hb (neC b o e hx) e1 (I.base.free b o e n hx)
    exact ⟨sl', e2⟩
  · obtain ⟨o', e1⟩ := I.base.there b o e hx
    exact free b o' (neC b o e hx) e1 (I.base.free b o e n hx)
  · obtain ⟨o', e1⟩ := I.base.there b o e hx
    exact there b o' (neC b o e hx) e1
  · obtain ⟨m1, e1⟩ := I.base.tbls b ps e
    obtain ⟨m2, e2⟩ := tbls b _ e1
    exact ⟨m1 ++ m2, by rw [e2, Array.append_assoc]⟩
  · obtain ⟨m, hn, hl⟩ := I.loc
    refine ⟨m, ns m hn, fun i x v e1 e2 e3 => ?_⟩
    obtain ⟨u, r, l⟩ := hl i x v e1 e2 e3
    refine ⟨u, r, ?_⟩
    rcases l with l | ⟨k, c, e, z⟩
    · exact .inl l
    · exact .inr ⟨k, c, e, cellK x c e _ z⟩
  · obtain ⟨v, z⟩ := I.cell x c e
    exact ⟨v, cellK x c e v z⟩
  · obtain ⟨m, ⟨o, _, _, ho, _⟩, _⟩ := I.loc
    exact free _ o (fun z => (hch _ z).2.1 rfl) ho I.free
  · obtain ⟨v, o, ho, hd⟩ := I.cell x c e
    exact free c o (fun z => (hch c z).2.2.1 x c e rfl) ho (I.freeC x c e)
  · obtain ⟨e, n, ne, nf, d⟩ := I.pin p hp
    have nch : p.1 ∉ ch := fun z => (hch p.1 z).2.2.2 p hp rfl
    exact ⟨keep p.1 p.2 ne nf nch e n, free p.1 p.2 nch e n, ne, nf, d⟩
/-- .. where the frame's own object is kept too -/
theorem Inv.un {t' : Nat} (I : Inv X pins σ H s) (u : Un X.fs [] H H' s.heap h') (hok : HOk X.prog X.w H' h') : Inv X pins σ H' { s with heap := h', toks := t' } := by
  obtain ⟨m, ⟨o, es, ep, ho, r⟩, _⟩ := id I.loc
  obtain ⟨sl, hL⟩ := u.any ho I.free (by simp)
  exact I.step (g' := s.gens) (d' := s.drawn) (ch := []) (fun _ z => nomatch z) (fun b o _ hb _ e n => u.keep b o e n hb (by simp)) (fun b o _ hb _ e n => u.slot b o e n hb (by simp)) (fun b o _ e n => u.free b o e n (by simp)) (fun b o _ e => u.there b o e (by simp)) u.tups u.frzs u.tbls (fun m' hm => by
    obtain ⟨o', es', ep', ho', r'⟩ := hm
    rw [ho] at ho'; cases ho'
    exact ⟨_, es', ep', hL, r'⟩) hok I.bare
/-- behind a call (or a comprehension's block): the slots of this frame may have changed too, the records at ch may have turned -/
theorem Inv.call {g' : Array GenState} {t' : Nat} {d' : Drawn} {ch : List Addr} (I : Inv X pins σ H s) (u : Un (frs X.stack) ch H H' s.heap h') (hok : HOk X.prog X.w H' h') (hg : AllBare g')
    (hch : ∀ b ∈ ch, (b ∈ X.ex ∨ X.s_0.heap.objs.size ≤ b) ∧ b ≠ X.env.locals ∧ (∀ x c, X.env.cells.lookup x = some c → c ≠ b) ∧ ∀ p ∈ X.pn ++ pins, p.1 ≠ b) :
    Inv X pins σ H' { s with heap := h', gens := g', drawn := d', toks := t' } := by
  obtain ⟨m, ⟨o, es, ep, ho, r⟩, _⟩ := id I.loc
  obtain ⟨sl, hL⟩ := u.any ho I.free fun z => (hch _ z).2.1 rfl
  exact I.step (ch := ch) hch (fun b o hL hb hc e n => u.keep b o e n (fun z => (List.mem_cons.mp (I.stkSub b z)).elim hL hb) hc) (fun b o _ _ hc e n => u.any e n hc) (fun b o hc e n => u.free b o e n hc) (fun b o hc e => u.there b o e hc) u.tups u.frzs u.tbls (fun m' hm => by
    obtain ⟨o', es', ep', ho', r'⟩ := hm
    rw [ho] at ho'; cases ho'
    exact ⟨_, es', ep', hL, r'⟩) hok hg
/-- an untracked record of ours (an iterator) has turned -/
theorem Inv.turned {t' : Nat} {it : Addr} (I : Inv X pins σ H s) (k : ∀ b o, b ≠ it → s.heap.get? b = some o → h'.get? b = some o) (hn : H it = none) (hL : it ≠ X.env.locals)
    (h1 : it ∈ X.ex ∨ X.s_0.heap.objs.size ≤ it) (h2 : ∀ x c, X.env.cells.lookup x = some c → c ≠ it) (h3 : ∀ p ∈ X.pn ++ pins, p.1 ≠ it) : Inv X pins σ H { s with heap := h', toks := t' } := by
  have nit : ∀ b u, H b = some u → b ≠ it := fun b u e z => by rw [z, hn] at e; cases e
  refine I.step (g' := s.gens) (d' := s.drawn) (ch := [it]) (fun b hb => ?_) (fun b o _ _ hc e _ => k b o (fun z => hc (by simp [z])) e) (fun b o _ _ hc e _ => ⟨o.slots, k b o (fun z => hc (by simp [z])) e⟩) (fun _ _ _ _ n => n)
    (fun b o hc e => ⟨o, k b o (fun z => hc (by simp [z])) e⟩) (fun _ _ e => e) (fun _ _ _ e => e) (fun b ps e => ⟨#[], by rw [e]; simp⟩) (fun m hm => ?_) (fun b u e => ?_) I.bare
  · have e : b = it := by simpa using hb
    subst e
    exact ⟨h1, hL, h2, h3⟩
  · obtain ⟨o, es, ep, ho, r⟩ := hm
    exact ⟨o, es, ep, k _ o (Ne.symm hL) ho, r⟩
  · refine (I.hok b u e).stay (fun c v hc q => k c v ?_ q) (fun _ q => q) fun _ _ q => q
    rcases hc with z | z
    · rw [z]; exact nit b u e
    · exact nit c _ z
theorem Inv.tok (I : Inv X pins σ H s) (t : Nat) : Inv X pins σ H { s with toks := t } := I.un (h' := s.heap) (t' := t) Un.refl I.hok
/-- all objects kept -/
theorem Inv.kept {t' : Nat} (I : Inv X pins σ H s) (k : ∀ b u, s.heap.get? b = some u → h'.get? b = some u) : Inv X pins σ H { s with heap := h', toks := t' } := I.un (Un.kept k) (I.hok.kept k)
/-- a new object laid and tracked -/
theorem Inv.laid {a : Addr} {o : HO} {t' : Nat} (I : Inv X pins σ H s) (k : ∀ b u, s.heap.get? b = some u → h'.get? b = some u) (hp : s.heap.objs.size ≤ a) (new : ObjOk X.prog X.w (upd H a o) h' a o) :
    Inv X pins σ (upd H a o) { s with heap := h', toks := t' } := I.un (Un.laid k hp (I.hok.fresh hp)) (I.hok.laid k hp new)
/-- an object written -/
theorem Inv.write {x e : Addr} {o : HO} {t' : Nat} (I : Inv X pins σ H s) (mu : Mut (H x)) (he : e = x ∨ H e = some (.own x)) (k : ∀ b u, b ≠ e → s.heap.get? b = some u → h'.get? b = some u) (heo : ∃ u, h'.get? e = some u)
    (new : ObjOk X.prog X.w (upd H x o) h' x o) : Inv X pins σ (upd H x o) { s with heap := h', toks := t' } := I.un (Un.write mu he k heo) (I.hok.write mu he k heo new)
/-- forgetting slots, pins -/
theorem Inv.weak {σ' : List (Option V)} (I : Inv X pins σ H s) (hl : σ'.length = σ.length) (w : ∀ (i : Nat) v, σ'[i]? = some (some v) → σ[i]? = some (some v)) : Inv X pins σ' H s :=
  ⟨I.ok, I.os, I.bare, I.base, let ⟨m, hn, hl'⟩ := I.loc; ⟨m, hn, fun i x v e1 e2 e3 => hl' i x v e1 (w i v e2) e3⟩, I.cell, I.free, I.freeC, I.pin, I.hok, hl.trans I.len⟩
theorem Inv.pins_of {pins' : List (Addr × Obj)} (I : Inv X pins σ H s) (h : ∀ p ∈ pins', s.heap.get? p.1 = some p.2 ∧ H p.1 = none ∧ p.1 ≠ X.env.locals ∧ p.1 ∉ X.fs ∧ ∀ v, p.2.data ≠ .cell v) : Inv X pins' σ H s :=
  ⟨I.ok, I.os, I.bare, I.base, I.loc, I.cell, I.free, I.freeC, fun p hp => (List.mem_append.mp hp).elim (fun z => I.pin p (List.mem_append_left _ z)) (h p), I.hok, I.len⟩

theorem nodup_ix {N : List Str} (hN : N.Nodup) {i j : Nat} {x : Str} (a : N[i]? = some x) (b : N[j]? = some x) : i = j := by
  obtain ⟨h1, e1⟩ := List.getElem?_eq_some_iff.mp a
  obtain ⟨h2, e2⟩ := List.getElem?_eq_some_iff.mp b
  exact (List.getElem_inj hN).mp (e1.trans e2.symm)

/-- a name is stored; what changed -/
theorem store_ok2 {M : Model} {A : Around} {E : Value → Shared → Prop} {i : Nat} {x : Str} {v : V} {u : Value} {Q : Unit → Shared → Prop} (I : Inv X pins σ H s) (hN : X.N.Nodup) (hi : X.N[i]? = some x) (hx : Loc X.env.scope x) (r : RelV v u)
    (h : ∀ s', Inv X pins (σ.set i (some v)) H s' → (∃ a, Heap.SameBut a s.heap s'.heap ∧ (a = X.env.locals ∨ X.env.cells.lookup x = some a)) → Q () s') (hf : X.fn x = true ∨ X.env.scope.names.lookup x = some .local := by first | exact .inl rfl | exact .inr rfl | assumption) : wpAny M A (storeName X.env x u) Q E s := by
  obtain ⟨m, hn, hl⟩ := id I.loc
  have hcls : (X.env.scope.kind == .class || (X.env.scope.kind == .module && X.env.locals != X.env.globals)) = false := by rw [I.ok.kind]; rfl
  have hiσ : i < σ.length := by rw [I.len]; exact (List.getElem?_eq_some_iff.mp hi).1
  have cne := I.cne
  have tracked : ∀ {a : Addr} {h' : Heap}, (∃ o, s.heap.get? a = some o ∧ H a = none) → Heap.SameBut a s.heap h' → HOk X.prog X.w H h' := fun {a h'} ha hs b ob e => by
    obtain ⟨_, _, hfree⟩ := ha
    refine (I.hok b ob e).stay (fun c w' hc q => (hs.2 c ?_).trans q) (fun _ q => q) fun _ _ q => q
    rintro rfl
    rcases hc with rfl | hc
    · rw [hfree] at e; cases e
    · rw [hfree] at hc; cases hc
  rcases hx with hk | hk
  · refine wpAny_storeName_local hk hn (fun h' hn' hs => ?_) hcls
    obtain ⟨oL, _, _, hoL, _⟩ := id hn
    refine h _ ⟨I.ok, I.os, I.bare, ⟨fun b o e n hb hx => ?_, fun b o e n hb hx => ?_, I.base.free, fun b o e hx => ?_, I.base.tups, I.base.frzs, I.base.tbls⟩, ⟨_, hn', fun j y v' e1 e2 e3 => ?_⟩, fun y c e => ?_, I.free, I.freeC, fun p hp => ?_, tracked ⟨oL, hoL, I.free⟩ hs, by simpa using I.len⟩ ⟨_, hs, .inl rfl⟩
    · exact (hs.2 b (Nat.ne_of_lt (Nat.lt_of_lt_of_le (Heap.lt_size e) I.ok.above))).trans (I.base.keep b o e n hb hx)
    · obtain ⟨sl, e1⟩ := I.base.slot b o e n hb hx
      exact ⟨sl, (hs.2 b (Nat.ne_of_lt (Nat.lt_of_lt_of_le (Heap.lt_size e) I.ok.above))).trans e1⟩
    · obtain ⟨o', e1⟩ := I.base.there b o e hx
      exact ⟨o', (hs.2 b (Nat.ne_of_lt (Nat.lt_of_lt_of_le (Heap.lt_size e) I.ok.above))).trans e1⟩
    · by_cases hj : j = i
      · subst hj
        rw [hi] at e1; cases e1
        rw [List.getElem?_set_self hiσ] at e2
        cases e2
        exact ⟨u, r, .inl ⟨hk, by simp⟩⟩
      · rw [List.getElem?_set_ne (Ne.symm hj)] at e2
        obtain ⟨u', r', q⟩ := hl j y v' e1 e2 e3
        refine ⟨u', r', ?_⟩
        rcases q with ⟨k, e⟩ | ⟨k, c, e, z⟩
        · refine .inl ⟨k, ?_⟩
          have : y ≠ x := fun e => hj (nodup_ix hN e1 (e ▸ hi))
          simp [this, e]
        · exact .inr ⟨k, c, e, z.sameBut hs (cne y c e)⟩
    · obtain ⟨w', z⟩ := I.cell y c e
      exact ⟨w', z.sameBut hs (cne y c e)⟩
    · obtain ⟨e, n, ne, nf, d⟩ := I.pin p hp
      exact ⟨(hs.2 p.1 ne).trans e, n, ne, nf, d⟩
  · have hfn : X.fn x = true := by
      rcases hf with z | z
      · exact z
      · rw [z] at hk; cases hk
    obtain ⟨c, hc⟩ := I.ok.has x (.inl hk)
    obtain ⟨w', z⟩ := I.cell x c hc
    refine wpAny_storeName_cell I.ok.kind hk hc z (fun h' hc' hs => ?_)
    obtain ⟨oc, hoc, hocd⟩ := id z
    refine h { s with heap := h' } ⟨I.ok, I.os, I.bare, ⟨fun b o e n hb hx => ?_, fun b o e n hb hx => ?_, I.base.free, fun b o e hx => ?_, I.base.tups, I.base.frzs, I.base.tbls⟩, ⟨m, hn.sameBut hs (Ne.symm (cne x c hc)), fun j y v' e1 e2 e3 => ?_⟩, fun y c' e => ?_, I.free, I.freeC, fun p hp => ?_, tracked ⟨oc, hoc, I.freeC x c hc⟩ hs, by simpa using I.len⟩ ⟨c, hs, .inr hc⟩
    · exact (hs.2 b (Nat.ne_of_lt (Nat.lt_of_lt_of_le (Heap.lt_size e) (I.ok.cab x c hfn hc)))).trans (I.base.keep b o e n hb hx)
    · obtain ⟨sl, e1⟩ := I.base.slot b o e n hb hx
      exact ⟨sl, (hs.2 b (Nat.ne_of_lt (Nat.lt_of_lt_of_le (Heap.lt_size e) (I.ok.cab x c hfn hc)))).trans e1⟩
    · obtain ⟨o', e1⟩ := I.base.there b o e hx
      exact ⟨o', (hs.2 b (Nat.ne_of_lt (Nat.lt_of_lt_of_le (Heap.lt_size e) (I.ok.cab x c hfn hc)))).trans e1⟩
    · by_cases hj : j = i
      · subst hj
        rw [hi] at e1; cases e1
        rw [List.getElem?_set_self hiσ] at e2
        cases e2
        exact ⟨u, r, .inr ⟨.inl hk, c, hc, hc'⟩⟩
      · rw [List.getElem?_set_ne (Ne.symm hj)] at e2
        obtain ⟨u', r', q⟩ := hl j y v' e1 e2 e3
        refine ⟨u', r', ?_⟩
        rcases q with q | ⟨k, c', e, z'⟩
        · exact .inl q
        · refine .inr ⟨k, c', e, z'.sameBut hs ?_⟩
          rintro rfl
          exact hj (nodup_ix hN e1 (I.ok.inj _ _ _ e hc ▸ hi))
    · by_cases hcc : c' = c
      · subst hcc; exact ⟨_, hc'⟩
      · obtain ⟨w2, z2⟩ := I.cell y c' e
        exact ⟨w2, z2.sameBut hs hcc⟩
    · obtain ⟨e, n, ne, nf, d⟩ := I.pin p hp
      refine ⟨(hs.2 p.1 ?_).trans e, n, ne, nf, d⟩
      intro q
      rw [q, hoc] at e
      have q' : oc = p.2 := Option.some.inj e
      exact d w' (by rw [← q']; exact hocd)
theorem store_ok {M : Model} {A : Around} {E : Value → Shared → Prop} {i : Nat} {x : Str} {v : V} {u : Value} {Q : Unit → Shared → Prop} (I : Inv X pins σ H s) (hN : X.N.Nodup) (hi : X.N[i]? = some x) (hx : Loc X.env.scope x) (r : RelV v u)
    (h : ∀ s', Inv X pins (σ.set i (some v)) H s' → Q () s') (hf : X.fn x = true ∨ X.env.scope.names.lookup x = some .local := by first | exact .inl rfl | exact .inr rfl | assumption) : wpAny M A (storeName X.env x u) Q E s :=
  store_ok2 I hN hi hx r (fun s' I' _ => h s' I') hf
/-- behind a call or a block, the state as it is -/
theorem Inv.call' {s' : Shared} {ch : List Addr} (I : Inv X pins σ H s) (ho : s'.os = s.os) (u : Un (frs X.stack) ch H H' s.heap s'.heap) (hok : HOk X.prog X.w H' s'.heap) (hg : AllBare s'.gens)
    (hch : ∀ b ∈ ch, (b ∈ X.ex ∨ X.s_0.heap.objs.size ≤ b) ∧ b ≠ X.env.locals ∧ (∀ x c, X.env.cells.lookup x = some c → c ≠ b) ∧ ∀ p ∈ X.pn ++ pins, p.1 ≠ b) : Inv X pins σ H' s' := by
  obtain ⟨h', g', d', t', o'⟩ := s'
  have e : o' = s.os := ho
  subst e
  exact I.call (g' := g') (t' := t') (d' := d') u hok hg hch
end

/-! ### the judgements -/
/-- an exception: its class, its own dict's address (where it has one), the abstract heap behind it -/
abbrev XK := Value → Option Addr → Hp → Prop
abbrev St := List (Option V)
abbrev VK := V → Hp → Prop
/-- an expression's reading; a test's; an argument list's -/
abbrev TE := St → Hp → VK → Prop
abbrev TT := St → Hp → (Bool → Hp → Prop) → Prop
abbrev TA := St → Hp → (List V → Hp → Prop) → Prop
/-- what is wanted behind a statement -/
structure Ends where
  nx : St → Hp → Prop
  rt : VK
  bk : St → Hp → Prop := fun _ _ => False
  ct : St → Hp → Prop := fun _ _ => False
abbrev TS := Ends → St → Hp → Prop

def EP (X : Cx) (pins : List (Addr × Obj)) (σ : St) (Q : VK) (u : Value) (s' : Shared) : Prop := ∃ v H', Inv X pins σ H' s' ∧ RelV v u ∧ Q v H'
def TP (X : Cx) (pins : List (Addr × Obj)) (σ : St) (Q : Bool → Hp → Prop) (b : Bool) (s' : Shared) : Prop := ∃ H', Inv X pins σ H' s' ∧ Q b H'
def AP (X : Cx) (pins : List (Addr × Obj)) (σ : St) (Q : List V → Hp → Prop) (us : List Value) (s' : Shared) : Prop := ∃ vs H', Inv X pins σ H' s' ∧ Vals vs us ∧ Q vs H'
def SP (X : Cx) (pins : List (Addr × Obj)) (D : Ends) (f : Flow) (s' : Shared) : Prop :=
  match f with
  | .next => ∃ σ' H', Inv X pins σ' H' s' ∧ D.nx σ' H'
  | .brk => ∃ σ' H', Inv X pins σ' H' s' ∧ D.bk σ' H'
  | .cont => ∃ σ' H', Inv X pins σ' H' s' ∧ D.ct σ' H'
  | .ret u => ∃ v σ' H', Inv X pins σ' H' s' ∧ RelV v u ∧ D.rt v H'

def PE (X : Cx) (e : Expr) (t : TE) : Prop :=
  ∀ (pins : List (Addr × Obj)) (s : Shared) (σ : St) (H : Hp) (Q : VK), Inv X pins σ H s → t σ H Q → wpAny (model X.prog X.w) X.A (eval e X.env) (EP X pins σ Q) X.xe s
def PT (X : Cx) (e : Expr) (t : TT) : Prop :=
  ∀ (pins : List (Addr × Obj)) (s : Shared) (σ : St) (H : Hp) (Q : Bool → Hp → Prop), Inv X pins σ H s → t σ H Q → wpAny (model X.prog X.w) X.A (isTrue e X.env (eval e X.env)) (TP X pins σ Q) X.xe s
/-- a test whatever its 'whole' is (and, or) -/
def PW (X : Cx) (e : Expr) (t : TT) : Prop :=
  ∀ (whole : Sem Value) (pins : List (Addr × Obj)) (s : Shared) (σ : St) (H : Hp) (Q : Bool → Hp → Prop), Inv X pins σ H s → t σ H Q → wpAny (model X.prog X.w) X.A (isTrue e X.env whole) (TP X pins σ Q) X.xe s
theorem PW.pt {X : Cx} {e : Expr} {t : TT} (h : PW X e t) : PT X e t := h _
/-- an argument list (no star), from the left -/
def PA (X : Cx) (es : List Expr) (t : TA) : Prop :=
  ∀ (pos : Pos) (pins : List (Addr × Obj)) (s : Shared) (σ : St) (H : Hp) (Q : List V → Hp → Prop), Inv X pins σ H s → t σ H Q → wpAny (model X.prog X.w) X.A (spliced (backTo pos (starEach es X.env))) (AP X pins σ Q) X.xe s
def PS (X : Cx) (st : Stmt) (t : TS) : Prop :=
  ∀ (pins : List (Addr × Obj)) (s : Shared) (σ : St) (H : Hp) (D : Ends), Inv X pins σ H s → t D σ H → wpAny (model X.prog X.w) X.A (exec st X.env) (SP X pins D) X.xe s
def PSs (X : Cx) (st : List Stmt) (t : TS) : Prop :=
  ∀ (pins : List (Addr × Obj)) (s : Shared) (σ : St) (H : Hp) (D : Ends), Inv X pins σ H s → t D σ H → wpAny (model X.prog X.w) X.A (execs st X.env) (SP X pins D) X.xe s
/-- weaken the end -/
theorem thn {α : Type} {t : Sem α} {Q Q' : α → Shared → Prop} {M : Model} {A : Around} {E : Value → Shared → Prop} {s : Shared} (h : wpAny M A t Q E s) (hQ : ∀ a s, Q a s → Q' a s) : wpAny M A t Q' E s := wpAny_mono h hQ fun _ _ x => x
end L2

namespace L2
open PySem PySem.Spec PyProof.Rows
section
variable {X : Cx}

/-- two expressions in a row -/
theorem bin {a b : Expr} {ta tb : TE} (ha : PE X a ta) (hb : PE X b tb) {pins : List (Addr × Obj)} {s : Shared} {σ : St} {H : Hp} {R : V → V → Hp → Prop} (I : Inv X pins σ H s) (h : ta σ H fun x H1 => tb σ H1 fun y H2 => R x y H2)
    {α : Type} {Q : α → Shared → Prop} {f : Value → Value → Sem α}
    (hf : ∀ v u s2 x y H2, Inv X pins σ H2 s2 → RelV x v → RelV y u → R x y H2 → wpAny (model X.prog X.w) X.A (f v u) Q X.xe s2) :
    wpAny (model X.prog X.w) X.A (eval a X.env) (fun v s₁ => wpAny (model X.prog X.w) X.A (eval b X.env) (fun u s₂ => wpAny (model X.prog X.w) X.A (f v u) Q X.xe s₂) X.xe s₁) X.xe s := by
  refine thn (ha pins s σ H _ I h) fun v s1 ⟨x, H1, I1, r1, q1⟩ => ?_
  refine thn (hb pins s1 σ H1 _ I1 q1) fun u s2 ⟨y, H2, I2, r2, q2⟩ => ?_
  exact hf v u s2 x y H2 I2 r1 r2 q2

/-! ### names and constants -/
def tVar (i : Nat) : TE := fun σ H Q => ∃ v, σ[i]? = some (some v) ∧ Q v H
def tC (v : V) : TE := fun _ H Q => Q v H
theorem pe_var {i : Nat} {x : Str} {pos : Pos} (hN : X.N[i]? = some x) (hv : Vis X.env.scope x) (hd : (x == ("__debug__" : Str)) = false := by decide) (hcd : (x == ("__classdict__" : Str)) = false := by decide) : PE X (.Name x pos) (tVar i) := by
  intro pins s σ H Q I h
  obtain ⟨v, e, h⟩ := h
  obtain ⟨m, hn, hl⟩ := I.loc
  obtain ⟨u, r, l⟩ := hl i x v hN e hv
  have fin : EP X pins σ Q u s := ⟨v, H, I, r, h⟩
  rcases l with ⟨hk, hm⟩ | ⟨hk, c, hc, hcell⟩
  · exact wpAny_Name (wpAny_loadName_local I.ok.kind hk hn hm fin) hd
  · rcases hk with hk | hk
    · exact wpAny_Name (wpAny_loadName_cell I.ok.kind hk hc hcell fin) hd
    · exact wpAny_Name (wpAny_loadName_free I.ok.kind hk hc hcell fin hcd) hd
theorem pe_int {i j pos} : PE X (.Constant (.int i) j pos) (tC (.int i)) := fun _ _ _ H _ I h => wpAny_Constant_int ⟨.int i, H, I.tok _, ⟨_, rfl⟩, h⟩
theorem pe_bl {b j pos} : PE X (.Constant (.bool b) j pos) (tC (.bl b)) := fun _ _ _ H _ I h => Constant_bool ⟨.bl b, H, I, rfl, h⟩
theorem pe_str {x j pos} : PE X (.Constant (.str x) j pos) (tC (.str x)) := fun _ _ _ H _ I h => Calls.Constant_str ⟨.str x, H, I.tok _, ⟨_, rfl⟩, h⟩

/-- a global name of the def -/
def Gl (X : Cx) (x : Str) : Prop := X.env.kindOf x = some .globalImplicit
theorem ld_glob {E : Value → Shared → Prop} {pins : List (Addr × Obj)} {s : Shared} {σ : St} {H : Hp} {x : Str} {u : Value} {pos : Pos} {Q : Value → Shared → Prop} (I : Inv X pins σ H s) (hg : Gl X x) (hm : X.mg x = some u) (h : Q u s)
    (hd : (x == ("__debug__" : Str)) = false := by decide) : wpAny (model X.prog X.w) X.A (eval (.Name x pos) X.env) Q E s :=
  Calls.Name_function_global I.ok.kind hg (Calls.loadGlobal_global (by rw [I.ok.glob]; exact I.mod.glob.keeps I.bk) hm h) hd
theorem ld_blt {E : Value → Shared → Prop} {pins : List (Addr × Obj)} {s : Shared} {σ : St} {H : Hp} {x : Str} {u : Value} {pos : Pos} {Q : Value → Shared → Prop} (I : Inv X pins σ H s) (hg : Gl X x) (hm : X.mg x = none) (hv : bootBuiltins x = some u) (h : Q u s)
    (hn : x ≠ "__name__" := by decide) (hd : (x == ("__debug__" : Str)) = false := by decide) : wpAny (model X.prog X.w) X.A (eval (.Name x pos) X.env) Q E s := by
  obtain ⟨mb, h1, h2⟩ := I.mod.blt
  exact Calls.Name_function_global I.ok.kind hg (Calls.loadGlobal_builtin (by rw [I.ok.glob]; exact I.mod.glob.keeps I.bk) hm (by rw [I.ok.blt]; exact h1.keeps I.bk) ((h2 x hn).trans hv) h) hd
/-- a module's constant, a class, a function, as a value -/
theorem pe_glob {x : Str} {v : V} {u : Value} {pos : Pos} (hg : Gl X x) (hm : X.mg x = some u) (r : RelV v u) (hd : (x == ("__debug__" : Str)) = false := by decide) : PE X (.Name x pos) (tC v) :=
  fun _ _ _ H _ I h => ld_glob I hg hm ⟨v, H, I, r, h⟩ hd
theorem pe_bltn {x : Str} {v : V} {u : Value} {pos : Pos} (hg : Gl X x) (hm : X.mg x = none) (hv : bootBuiltins x = some u) (r : RelV v u) (hn : x ≠ "__name__" := by decide) (hd : (x == ("__debug__" : Str)) = false := by decide) : PE X (.Name x pos) (tC v) :=
  fun _ _ _ H _ I h => ld_blt I hg hm hv ⟨v, H, I, r, h⟩ hn hd

/-! ### arithmetic -/
/-- two ints -/
def t2I (ta tb : TE) (k : Int → Int → Hp → Prop) : St → Hp → Prop := fun σ H => ta σ H fun x H1 => tb σ H1 fun y H2 => ∃ i j, x = .int i ∧ y = .int j ∧ k i j H2
def tAdd (ta tb : TE) : TE := fun σ H Q => t2I ta tb (fun i j H2 => Q (.int (i + j)) H2) σ H
def tSub (ta tb : TE) : TE := fun σ H Q => t2I ta tb (fun i j H2 => Q (.int (i - j)) H2) σ H
/-- the left factor below 2^64 -/
def tMul (ta tb : TE) : TE := fun σ H Q => t2I ta tb (fun i j H2 => (-(2 ^ 64) < i ∧ i < 2 ^ 64) ∧ Q (.int (i * j)) H2) σ H
variable {a b : Expr} {ta tb : TE} {pos : Pos}
/-! ### comparisons -/
def PC (X : Cx) (op : CmpOp) (a b : Expr) (t : TE) : Prop :=
  ∀ (pins : List (Addr × Obj)) (s : Shared) (σ : St) (H : Hp) (Q : VK), Inv X pins σ H s → t σ H Q →
    wpAny (model X.prog X.w) X.A (eval a X.env) (fun v s₁ => wpAny (model X.prog X.w) X.A (eval b X.env) (fun u s₂ => wpAny (model X.prog X.w) X.A (compareOp op v u) (EP X pins σ Q) X.xe s₂) X.xe s₁) X.xe s
def tCmp (p : Int → Int → Bool) (ta tb : TE) : TE := fun σ H Q => t2I ta tb (fun i j H2 => Q (.bl (p i j)) H2) σ H
abbrev tLt : TE → TE → TE := tCmp fun i j => decide (i < j)
abbrev tLe : TE → TE → TE := tCmp fun i j => decide (i ≤ j)
abbrev tGt : TE → TE → TE := tCmp fun i j => decide (j < i)
abbrev tGe : TE → TE → TE := tCmp fun i j => decide (j ≤ i)
abbrev tEqI : TE → TE → TE := tCmp fun i j => decide (i = j)
abbrev tNeI : TE → TE → TE := tCmp fun i j => !decide (i = j)
/-- is None -/
def tIsN (ta : TE) : TE := fun σ H Q => ta σ H fun x H1 => Q (.bl (decide (x = .non))) H1
def tNotN (ta : TE) : TE := fun σ H Q => ta σ H fun x H1 => Q (.bl (!decide (x = .non))) H1
/-- a comparison as a value, as a test -/
def tB (t : TE) : TT := fun σ H Q => t σ H fun x H1 => ∃ c, x = .bl c ∧ Q c H1
theorem pt_cmp {op : CmpOp} {t : TE} (h : PC X op a b t) (h1 : behindInMarks op b = false := by first | exact nobehind _ (by decide) (by decide) | rfl) : PT X (.Compare a [op] [b] pos) (tB t) := by
  intro pins s σ H Q I hw
  refine wpAny_isTrue_Compare1 (thn (h pins s σ H _ I hw) fun v s1 h1 => thn h1 fun u s2 h2 => thn h2 fun c s3 ⟨x, H1, I1, r1, q1⟩ => ?_) h1
  obtain ⟨d, rfl, q⟩ := q1
  cases r1
  exact wpAny_truthy_bool ⟨H1, I1, q⟩
/-- an expression whose value is a bool, as a test -/
theorem pt_val {e : Expr} {t : TE} (h : PE X e t) (he : ∀ whole, isTrue e X.env whole = (do let v ← whole; standAt e.pos; holding [v] (truthy v)) := by intro _; rfl) : PT X e (tB t) := by
  intro pins s σ H Q I hw
  refine isTrue_plain (thn (h pins s σ H _ I hw) fun v s1 ⟨x, H1, I1, r1, q1⟩ => ?_) (he _)
  obtain ⟨d, rfl, q⟩ := q1
  cases r1
  exact wpAny_truthy_bool ⟨H1, I1, q⟩

/-! ### and, or, not -/
variable {tA tB' : TT} {rest : List Expr}
def tAnd (t u : TT) : TT := fun σ H Q => t σ H fun c H1 => if c = true then u σ H1 Q else Q false H1
def tOr (t u : TT) : TT := fun σ H Q => t σ H fun c H1 => if c = true then Q true H1 else u σ H1 Q
def tNot (t : TT) : TT := fun σ H Q => t σ H fun c H1 => Q (!c) H1
theorem pw_and1 (ha : PT X a tA) : PW X (.BoolOp .And [a] pos) tA := by
  intro wh pins s σ H Q I h
  refine isTrue_and (thn (ha pins s σ H Q I h) fun c s1 e => ?_)
  cases c with
  | true => exact isTrue_and_nil e
  | false => exact e
theorem pw_or1 (ha : PT X a tA) : PW X (.BoolOp .Or [a] pos) tA := by
  intro wh pins s σ H Q I h
  refine isTrue_or (thn (ha pins s σ H Q I h) fun c s1 e => ?_)
  cases c with
  | false => exact isTrue_or_nil e
  | true => exact e
theorem pw_and (ha : PT X a tA) (hb : PW X (.BoolOp .And (b :: rest) pos) tB') : PW X (.BoolOp .And (a :: b :: rest) pos) (tAnd tA tB') := by
  intro wh pins s σ H Q I h
  refine isTrue_and (thn (ha pins s σ H _ I h) fun c s1 ⟨H1, I1, q1⟩ => ?_)
  cases c with
  | true => exact hb wh pins s1 σ H1 Q I1 q1
  | false => exact ⟨H1, I1, q1⟩
theorem pw_or (ha : PT X a tA) (hb : PW X (.BoolOp .Or (b :: rest) pos) tB') : PW X (.BoolOp .Or (a :: b :: rest) pos) (tOr tA tB') := by
  intro wh pins s σ H Q I h
  refine isTrue_or (thn (ha pins s σ H _ I h) fun c s1 ⟨H1, I1, q1⟩ => ?_)
  cases c with
  | true => exact ⟨H1, I1, q1⟩
  | false => exact hb wh pins s1 σ H1 Q I1 q1
theorem pt_not (ha : PT X a tA) : PT X (.UnaryOp .Not a pos) (tNot tA) := by
  intro pins s σ H Q I h
  exact isTrue_not (ha pins s σ H (fun c H1 => Q (!c) H1) I h)
/-- .. as values (bools) -/
def tAndV (ta tb : TE) : TE := fun σ H Q => ta σ H fun x H1 => ∃ c, x = .bl c ∧ if c = true then tb σ H1 Q else Q (.bl false) H1
def tOrV (ta tb : TE) : TE := fun σ H Q => ta σ H fun x H1 => ∃ c, x = .bl c ∧ if c = true then Q (.bl true) H1 else tb σ H1 Q
def tNotV (ta : TE) : TE := fun σ H Q => ta σ H fun x H1 => ∃ c, x = .bl c ∧ Q (.bl (!c)) H1
theorem pe_one {op} {t : TE} (h : PE X a t) : PE X (.BoolOp op [a] pos) t := fun pins s σ H Q I hw => BoolOp_one (h pins s σ H Q I hw)
theorem pe_and (ha : PE X a ta) (hb : PE X (.BoolOp .And (b :: rest) pos) tb) : PE X (.BoolOp .And (a :: b :: rest) pos) (tAndV ta tb) := by
  intro pins s σ H Q I h
  refine BoolOp_and (thn (ha pins s σ H _ I h) fun v s1 ⟨x, H1, I1, r1, q1⟩ => ?_)
  obtain ⟨c, rfl, q1⟩ := q1
  cases r1
  refine wpAny_truthy_bool ?_
  cases c with
  | true => exact hb pins s1 σ H1 Q I1 q1
  | false => exact ⟨.bl false, H1, I1, rfl, q1⟩
theorem pe_not (ha : PE X a ta) : PE X (.UnaryOp .Not a pos) (tNotV ta) := by
  intro pins s σ H Q I h
  refine UnaryOp_ (thn (ha pins s σ H _ I h) fun v s1 ⟨x, H1, I1, r1, q1⟩ => ?_)
  obtain ⟨c, rfl, q1⟩ := q1
  cases r1
  exact not_of (wpAny_truthy_bool ⟨.bl (!c), H1, I1, rfl, q1⟩)
/-- a if t else b -/
def tIf (t : TT) (ta tb : TE) : TE := fun σ H Q => t σ H fun c H1 => if c = true then ta σ H1 Q else tb σ H1 Q
end
end L2

namespace L2
open PySem PySem.Spec PyProof.Rows

/-! ### a list, a tuple that is read: tracked, frozen, or an object of the module -/
def SqL (K : PySem.W.Frag) (H : Hp) (a : Addr) (xs : List V) : Prop :=
  Rd H a (.lst xs) ∨
    ∃ (o : Obj) (its : Array Value) (n : Nat), K.lookup a = some o ∧ o.cls = .type "list" ∧ o.dict = none ∧ o.data = .seq its n ∧ its.size ≤ sizeLine ∧ Vals xs its.toList
def SqT (K : PySem.W.Frag) (H : Hp) (a : Addr) (xs : List V) : Prop :=
  Rd H a (.tup xs) ∨
    ∃ (o : Obj) (its : Array Value) (n : Nat), K.lookup a = some o ∧ o.cls = .type "tuple" ∧ o.data = .seq its n ∧ its.size ≤ sizeLine ∧ Vals xs its.toList
def absV : Value → Option V
  | .none => some .non
  | .bool b => some (.bl b)
  | .int i _ => some (.int i)
  | .str x _ => some (.str x)
  | .bytes b _ => some (.byt b)
  | .float b _ => some (.flt b)
  | .ref a => some (.ref a)
  | .type n => some (.ty n)
  | _ => none
theorem RelV.abs {x : V} {u : Value} (r : RelV x u) : absV u = some x := by
  cases x with
  | non => cases r; rfl
  | bl _ => cases r; rfl
  | int _ => obtain ⟨t, rfl⟩ := r; rfl
  | str _ => obtain ⟨t, rfl⟩ := r; rfl
  | byt _ => obtain ⟨t, rfl⟩ := r; rfl
  | flt _ => obtain ⟨t, rfl⟩ := r; rfl
  | ref _ => cases r; rfl
  | ty _ => cases r; rfl
theorem RelV.inj {x y : V} {u : Value} (r : RelV x u) (q : RelV y u) : x = y := Option.some.inj (r.abs.symm.trans q.abs)
theorem Vals.inj : ∀ {xs ys : List V} {us : List Value}, Vals xs us → Vals ys us → xs = ys
  | _, _, _, .nil, .nil => rfl
  | _, _, _, .cons r t, .cons r' t' => by rw [r.inj r', Vals.inj t t']
section
variable {X : Cx} {pins : List (Addr × Obj)} {σ : St} {H : Hp} {s : Shared} {a : Addr} {xs ys : List V}
theorem SqL.of {K : PySem.W.Frag} (h : H a = some (.lst xs)) : SqL K H a xs := .inl (.inl h)
theorem SqT.of {K : PySem.W.Frag} (h : H a = some (.tup xs)) : SqT K H a xs := .inl (.inl h)
theorem Inv.list (I : Inv X pins σ H s) (h : SqL X.K H a xs) : ∃ its : List Value, Vals xs its ∧ PlainL s.heap a its.toArray ∧ xs.length ≤ sizeLine := by
  rcases h with h | ⟨o, its, n, hk, hc, hd, hs, hz, r⟩
  · obtain ⟨z, its, n, r, e⟩ := h.ok I.hok
    exact ⟨its, r, ⟨_, n, e, rfl, rfl, rfl⟩, z⟩
  · refine ⟨its.toList, r, ⟨o, n, I.kIn a o hk, hc, hd, by simpa using hs⟩, ?_⟩
    have e := r.length
    simp only [Array.length_toList] at e
    omega
theorem Inv.tuple (I : Inv X pins σ H s) (h : SqT X.K H a xs) : ∃ its : List Value, Vals xs its ∧ IsTup s.heap a its.toArray ∧ xs.length ≤ sizeLine := by
  rcases h with h | ⟨o, its, n, hk, hc, hs, hz, r⟩
  · obtain ⟨z, its, r, p⟩ := h.ok I.hok
    exact ⟨its, r, p, z⟩
  · refine ⟨its.toList, r, ⟨o, I.kIn a o hk, hc, n, by simpa using hs⟩, ?_⟩
    have e := r.length
    simp only [Array.length_toList] at e
    omega
theorem Inv.list_inj (I : Inv X pins σ H s) (h : SqL X.K H a xs) (h' : SqL X.K H a ys) : xs = ys := by
  obtain ⟨its, r, ⟨o, n, e, _, _, d⟩, _⟩ := I.list h
  obtain ⟨its', r', ⟨o', n', e', _, _, d'⟩, _⟩ := I.list h'
  rw [e] at e'; cases e'
  rw [d] at d'
  injection d' with d1 _
  have : its = its' := by simpa using congrArg Array.toList d1
  subst this
  exact r.inj r'
theorem Inv.tuple_inj (I : Inv X pins σ H s) (h : SqT X.K H a xs) (h' : SqT X.K H a ys) : xs = ys := by
  obtain ⟨its, r, ⟨o, e, _, n, d⟩, _⟩ := I.tuple h
  obtain ⟨its', r', ⟨o', e', _, n', d'⟩, _⟩ := I.tuple h'
  rw [e] at e'; cases e'
  rw [d] at d'
  injection d' with d1 _
  have : its = its' := by simpa using congrArg Array.toList d1
  subst this
  exact r.inj r'
end

/-! ### another wish about exceptions -/
abbrev Cx.wish (X : Cx) (E : Value → Shared → Prop) : Cx := { X with xe := E }
/-- no exception leaves -/
abbrev Cx.nox (X : Cx) : Cx := X.wish fun _ _ => False
theorem Cx.Ok.wish {X : Cx} (ok : X.Ok) (E : Value → Shared → Prop) : (X.wish E).Ok :=
  ⟨ok.mod, ok.kind, ok.glob, ok.blt, ok.above, ok.inj, ok.has, ok.cab, ok.hd, ok.frames, ok.stk, ok.exf, ok.bs, ok.bsz, ok.noex, ok.exfs, ok.funs, ok.frf⟩
theorem Cx.Ok.unwish {X : Cx} {E : Value → Shared → Prop} (ok : (X.wish E).Ok) : X.Ok :=
  ⟨ok.mod, ok.kind, ok.glob, ok.blt, ok.above, ok.inj, ok.has, ok.cab, ok.hd, ok.frames, ok.stk, ok.exf, ok.bs, ok.bsz, ok.noex, ok.exfs, ok.funs, ok.frf⟩
section
variable {X : Cx} {pins : List (Addr × Obj)} {σ : St} {H : Hp} {s : Shared} {E : Value → Shared → Prop}
theorem Inv.wish (I : Inv X pins σ H s) (E : Value → Shared → Prop) : Inv (X.wish E) pins σ H s := ⟨I.ok.wish E, I.os, I.bare, I.base, I.loc, I.cell, I.free, I.freeC, I.pin, I.hok, I.len⟩
theorem Inv.unwish (I : Inv (X.wish E) pins σ H s) : Inv X pins σ H s := ⟨I.ok.unwish, I.os, I.bare, I.base, I.loc, I.cell, I.free, I.freeC, I.pin, I.hok, I.len⟩
theorem SP.unwish {D : Ends} {f : Flow} {s' : Shared} (h : SP (X.wish E) pins D f s') : SP X pins D f s' := by
  cases f with
  | next => obtain ⟨σ', H', I, q⟩ := h; exact ⟨σ', H', I.unwish, q⟩
  | brk => obtain ⟨σ', H', I, q⟩ := h; exact ⟨σ', H', I.unwish, q⟩
  | cont => obtain ⟨σ', H', I, q⟩ := h; exact ⟨σ', H', I.unwish, q⟩
  | ret u => obtain ⟨v, σ', H', I, r, q⟩ := h; exact ⟨v, σ', H', I.unwish, r, q⟩
theorem PSs.nox {st : List Stmt} {t : TS} (h : PSs X.nox st t) : PSs X st t := fun pins s σ H D I hw =>
  wpAny_mono (h pins s σ H D (I.wish _) hw) (fun _ _ q => q.unwish) fun _ _ z => False.elim z
end

/-! ### blocks and small statements -/
section
variable {X : Cx} {st : Stmt} {rest : List Stmt} {t u : TS} {e : Expr} {te : TE} {pos : Pos}
def tNext : TS := fun D σ H => D.nx σ H
def tSeq (t u : TS) : TS := fun D σ H => t { D with nx := u D } σ H
theorem pss_nil : PSs X [] tNext := fun _ _ σ H _ I h => wpAny_execs_nil ⟨σ, H, I, h⟩
theorem pss_cons (h1 : PS X st t) (h2 : PSs X rest u) : PSs X (st :: rest) (tSeq t u) := by
  intro pins s σ H D I h
  refine wpAny_execs_cons (thn (h1 pins s σ H { D with nx := u D } I h) fun f s1 q => ?_)
  cases f with
  | next =>
    obtain ⟨σ', H', I', q⟩ := q
    exact h2 pins s1 σ' H' D I' q
  | ret v => exact q
  | brk => exact q
  | cont => exact q
theorem pss_one (h1 : PS X st t) : PSs X [st] t := by
  intro pins s σ H D I h
  refine wpAny_execs_cons (thn (h1 pins s σ H D I h) fun f s1 q => ?_)
  cases f with
  | next => exact wpAny_execs_nil q
  | ret v => exact q
  | brk => exact q
  | cont => exact q
def tBreak : TS := fun D σ H => D.bk σ H
def tCont : TS := fun D σ H => D.ct σ H
/-- in a def's body nothing is shown -/
theorem Inv.quiet {pins : List (Addr × Obj)} {σ : St} {H : Hp} {s : Shared} (I : Inv X pins σ H s) : interactive X.env = false := by simp [interactive, I.ok.kind]
/-- an expression whose value is dropped -/
def tDrop (te : TE) : TS := fun D σ H => te σ H fun _ H1 => D.nx σ H1
theorem ps_expr (he : PE X e te) (hs : swapsWith e none pos.line X.env = pure false := by rfl) : PS X (.Expr e pos) (tDrop te) := by
  intro pins s σ H D I h
  exact wpAny_Expr_any (thn (he pins s σ H _ I h) fun v s1 ⟨x, H1, I1, r1, q1⟩ => ⟨σ, H1, I1, q1⟩) I.quiet hs
def tRet (te : TE) : TS := fun D σ H => te σ H D.rt
theorem ps_ret (he : PE X e te) : PS X (.Return (some e) pos) (tRet te) := by
  intro pins s σ H D I h
  exact wpAny_Return_some (thn (he pins s σ H _ I h) fun v s1 ⟨x, H1, I1, r1, q1⟩ => ⟨x, σ, H1, I1, r1, q1⟩)
def tRetN : TS := fun D _ H => D.rt .non H
def tIfS (c : TT) (t u : TS) : TS := fun D σ H => c σ H fun b H1 => if b = true then t D σ H1 else u D σ H1
theorem ps_if {c : Expr} {a b : List Stmt} {tc : TT} (hc : PT X c tc) (ha : PSs X a t) (hb : PSs X b u) : PS X (.If c a b pos) (tIfS tc t u) := by
  intro pins s σ H D I h
  refine wpAny_If (thn (hc pins s σ H _ I h) fun d s1 ⟨H1, I1, q1⟩ => ?_)
  cases d with
  | true => exact ha pins s1 σ H1 D I1 q1
  | false => exact hb pins s1 σ H1 D I1 q1
/-- code that the proof never comes to -/
def tNever : TS := fun _ _ _ => False
end

/-! ### targets -/
abbrev TG := V → St → Hp → (St → Hp → Prop) → Prop
abbrev TGs := List V → St → Hp → (St → Hp → Prop) → Prop
def PG (X : Cx) (target : Expr) (t : TG) : Prop :=
  ∀ (pins : List (Addr × Obj)) (s : Shared) (σ : St) (H : Hp) (v : V) (u : Value) (Q : St → Hp → Prop), Inv X pins σ H s → RelV v u → t v σ H Q →
    wpAny (model X.prog X.w) X.A (assign target X.env u) (fun _ s' => ∃ σ' H', Inv X pins σ' H' s' ∧ Q σ' H') X.xe s
/-- several targets, one after another -/
def PGs (X : Cx) (ts : List Expr) (t : TGs) : Prop :=
  ∀ (pins : List (Addr × Obj)) (s : Shared) (σ : St) (H : Hp) (vs : List V) (us : List Value) (Q : St → Hp → Prop), Inv X pins σ H s → Vals vs us → t vs σ H Q →
    wpAny (model X.prog X.w) X.A (assignInOrder ((assignEach ts X.env).map (·.2)) us) (fun _ s' => ∃ σ' H', Inv X pins σ' H' s' ∧ Q σ' H') X.xe s
/-- o[i] = v, by values -/
abbrev TSet := V → V → V → Hp → (Hp → Prop) → Prop
def PSet (X : Cx) (t : TSet) : Prop :=
  ∀ (pins : List (Addr × Obj)) (s : Shared) (σ : St) (H : Hp) (o i v : V) (ov iv u : Value) (Q : Hp → Prop), Inv X pins σ H s → RelV o ov → RelV i iv → RelV v u → t o i v H Q →
    wpAny (model X.prog X.w) X.A (setItem ov iv u) (fun _ s' => ∃ H', Inv X pins σ H' s' ∧ Q H') X.xe s
/-- a op= b, by values -/
abbrev TIp := V → V → Hp → VK → Prop
def PIp (X : Cx) (op : Operator) (t : TIp) : Prop :=
  ∀ (pins : List (Addr × Obj)) (s : Shared) (σ : St) (H : Hp) (x y : V) (v u : Value) (Q : VK), Inv X pins σ H s → RelV x v → RelV y u → t x y H Q →
    wpAny (model X.prog X.w) X.A (inplaceOp op v u) (EP X pins σ Q) X.xe s
section
variable {X : Cx} {pos : Pos}
def gName (i : Nat) : TG := fun v σ H Q => Q (σ.set i (some v)) H
theorem pg_name {i : Nat} {x : Str} (hN : X.N.Nodup) (hi : X.N[i]? = some x) (hx : Loc X.env.scope x) (hf : X.fn x = true ∨ X.env.scope.names.lookup x = some .local := by first | exact .inl rfl | exact .inr rfl | assumption) : PG X (.Name x pos) (gName i) := by
  intro pins s σ H v u Q I r h
  exact wpAny_assign_Name (store_ok I hN hi hx r (fun s' I' => ⟨_, H, I', h⟩) hf)
def gNil : TGs := fun vs σ H Q => vs = [] ∧ Q σ H
def gCons (t : TG) (u : TGs) : TGs := fun vs σ H Q => ∃ v r, vs = v :: r ∧ t v σ H fun σ' H' => u r σ' H' Q
theorem pgs_nil : PGs X [] gNil := by
  intro pins s σ H vs us Q I r h
  obtain ⟨e, h⟩ := h
  subst e
  cases r
  exact assignInOrder_nil ⟨σ, H, I, h⟩
theorem pgs_cons {e : Expr} {es : List Expr} {t : TG} {u : TGs} (h1 : PG X e t) (h2 : PGs X es u)
    (hs : (assignEach (e :: es) X.env).map (·.2) = assign e X.env :: (assignEach es X.env).map (·.2) := by rfl) : PGs X (e :: es) (gCons t u) := by
  intro pins s σ H vs us Q I r h
  obtain ⟨v, vr, e1, h⟩ := h
  subst e1
  cases r with
  | cons r rr =>
    rw [hs]
    refine assignInOrder_cons (thn (h1 pins s σ H _ _ _ I r h) fun _ s1 ⟨σ1, H1, I1, q1⟩ => ?_)
    exact h2 pins s1 σ1 H1 _ _ Q I1 rr q1
/-- (a, b, ..) = a tuple of that length -/
def gTup (K : PySem.W.Frag) (n : Nat) (t : TGs) : TG := fun v σ H Q => ∃ a xs, v = .ref a ∧ SqT K H a xs ∧ xs.length = n ∧ t xs σ H Q
theorem pg_tup {es : List Expr} {k : Nat} {t : TGs} {n : Nat} (hc : X.calm = true) (h : PGs X es t)
    (hn : (assignEach es X.env).length = n := by rfl) (hst : (assignEach es X.env).findIdx? (·.1) = none := by rfl) : PG X (.Tuple es k pos) (gTup X.K n t) := by
  intro pins s σ H v u Q I r hw
  obtain ⟨a, xs, e1, hq, hl, hw⟩ := hw
  subst e1
  cases r
  obtain ⟨its, rv, ht, hz⟩ := I.tuple hq
  refine assign_Tuple_tuple (I.ok.hd hc) ht (by simp [hn, ← hl, rv.length]) hst fun h' hx => ?_
  have I1 : Inv X pins σ H { s with heap := h' } := I.kept (t' := s.toks) fun b o e => hx b o (Nat.ne_of_lt (Heap.lt_size e)) e
  exact h pins _ σ H xs _ Q I1 (by simpa using rv) hw
/-- o[i] = .. -/
def gSub (to ti : TE) (t : TSet) : TG := fun v σ H Q => to σ H fun o H1 => ti σ H1 fun i H2 => t o i v H2 fun H3 => Q σ H3
theorem pg_sub {o i : Expr} {to ti : TE} {t : TSet} (ho : PE X o to) (hi : PE X i ti) (hs : PSet X t)
    (ha : ∀ v, assign (.Subscript o i pos) X.env v = (do
      let ov ← holding [v] (eval o X.env)
      let iv ← holding [v, ov] (eval i X.env)
      standAt pos
      holding [v, ov, iv] (setItem ov iv v)
      release [v, ov, iv] []) := by intro _; rfl) : PG X (.Subscript o i pos) (gSub to ti t) := by
  intro pins s σ H v u Q I r h
  rw [ha]
  refine wpAny_bind (wpAny_holding (thn (ho pins s σ H _ I h) fun ov s1 ⟨x, H1, I1, r1, q1⟩ => ?_))
  refine wpAny_bind (wpAny_holding (thn (hi pins s1 σ H1 _ I1 q1) fun iv s2 ⟨y, H2, I2, r2, q2⟩ => ?_))
  refine wpAny_bind (wpAny_standAt (wpAny_bind (wpAny_holding (thn (hs pins s2 σ H2 x y v ov iv u _ I2 r1 r2 r q2) fun _ s3 ⟨H3, I3, q3⟩ => ?_))))
  exact wpAny_release ⟨σ, H3, I3, q3⟩
/-- target = value -/
def tAsg (te : TE) (g : TG) : TS := fun D σ H => te σ H fun x H1 => g x σ H1 D.nx
theorem ps_asg {tg e : Expr} {te : TE} {g : TG} (he : PE X e te) (hg : PG X tg g) (hs : swapsWithSole [tg] e pos.line X.env = pure false := by rfl) (hw : swappedStores [tg] e X.env = pure none := by rfl)
    (h1 : (assignEach [tg] X.env).map (·.2) = [assign tg X.env] := by rfl) : PS X (.Assign [tg] e pos) (tAsg te g) := by
  intro pins s σ H D I h
  refine wpAny_Assign_stores (thn (he pins s σ H _ I h) fun v s1 ⟨x, H1, I1, r1, q1⟩ => ?_) hs hw
  rw [h1]
  exact thn (hg pins s1 σ H1 x v _ I1 r1 q1) fun _ s2 q => q
/-- name = value -/
theorem ps_set {i : Nat} {x : Str} {e : Expr} {te : TE} {pos' : Pos} (hN : X.N.Nodup) (hi : X.N[i]? = some x) (hx : Loc X.env.scope x) (he : PE X e te) (hs : swapsWith e (some (.Name x pos')) pos.line X.env = pure false := by rfl) (hf : X.fn x = true ∨ X.env.scope.names.lookup x = some .local := by first | exact .inl rfl | exact .inr rfl | assumption) :
    PS X (.Assign [.Name x pos'] e pos) (tAsg te (gName i)) := by
  intro pins s σ H D I h
  refine wpAny_Assign_Name (thn (he pins s σ H _ I h) fun v s1 ⟨y, H1, I1, r1, q1⟩ => ?_) hs
  exact store_ok I1 hN hi hx r1 (fun s2 I2 => ⟨_, H1, I2, q1⟩) hf
/-- a, b = x, y with plain local names: stored from the right; the pair itself is not tracked (the opening rows as in PyProof/Rows/TupAssign.lean:23) -/
def tPar (i j : Nat) (ta : TA) : TS := fun D σ H => ta σ H fun vs H1 => ∃ v w, vs = [v, w] ∧ D.nx ((σ.set i (some v)).set j (some w)) H1
/-- name op= e -/
def tAug (i : Nat) (te : TE) (ti : TIp) : TS := fun D σ H => ∃ x, σ[i]? = some (some x) ∧ te σ H fun y H1 => ti x y H1 fun z H2 => D.nx (σ.set i (some z)) H2
/-- o[i] op= e -/
def tAugS (to ti te : TE) (tget : V → V → Hp → VK → Prop) (tip : TIp) (tset : TSet) : TS := fun D σ H => to σ H fun o H1 => ti σ H1 fun i H2 => tget o i H2 fun x H3 => te σ H3 fun y H4 => tip x y H4 fun z H5 => tset o i z H5 fun H6 => D.nx σ H6
/-- o[i], by values -/
def PGet (X : Cx) (t : V → V → Hp → VK → Prop) : Prop :=
  ∀ (pins : List (Addr × Obj)) (s : Shared) (σ : St) (H : Hp) (o i : V) (ov iv : Value) (Q : VK), Inv X pins σ H s → RelV o ov → RelV i iv → t o i H Q →
    wpAny (model X.prog X.w) X.A (getItem ov iv) (EP X pins σ Q) X.xe s
/-- ints -/
def ipI (f : Int → Int → Int) : TIp := fun x y H Q => ∃ i j, x = .int i ∧ y = .int j ∧ Q (.int (f i j)) H
end

/-! ### while -/
section
variable {X : Cx} {pos : Pos}
/-- the invariant W with its measure -/
def tWhile (c : TT) (tb : TS) : TS := fun D σ H => ∃ W : Nat → St → Hp → Prop, (∃ m, W m σ H) ∧ ∀ m σ H, W m σ H →
  c σ H fun b H1 => if b = true then ∃ N : St → Hp → Prop, (∀ σ' H', N σ' H' → ∃ m', m' < m ∧ W m' σ' H') ∧ tb { D with nx := N, ct := N, bk := D.nx } σ H1 else D.nx σ H1
end

/-! ### what a loop or a comprehension walks -/
/-- at turn i: it yields x (the heap may grow), or it stops -/
structure It where
  go : Nat → Hp → Prop
  yld : Nat → Hp → V → Hp → Prop
  stop : Nat → Hp → Prop
/-- the iterator's own objects may turn: they are not the frame's, not pinned, younger than the entry (or a comprehension's own) -/
def FpOk (X : Cx) (pins : List (Addr × Obj)) (H : Hp) (b : Addr) : Prop :=
  H b = none ∧ b ≠ X.env.locals ∧ b ∉ X.fs ∧ (b ∈ X.ex ∨ X.s_0.heap.objs.size ≤ b) ∧ (∀ x c, X.env.cells.lookup x = some c → c ≠ b) ∧ ∀ p ∈ X.pn ++ pins, p.1 ≠ b
theorem Inv.fpOk {X : Cx} {pins : List (Addr × Obj)} {σ : St} {H H' : Hp} {s : Shared} {b : Addr} (I : Inv X pins σ H s) (hb : s.heap.objs.size ≤ b) (hn : H' b = none) : FpOk X pins H' b := by
  refine ⟨hn, Nat.ne_of_gt (Nat.lt_of_lt_of_le I.lt hb), I.nofs hb, .inr (Nat.le_trans I.sz hb), fun x c e z => ?_, fun p hp z => ?_⟩
  · obtain ⟨v, q⟩ := I.cell x c e
    exact absurd (Nat.lt_of_lt_of_le q.lt (by rw [z]; exact hb)) (Nat.lt_irrefl _)
  · exact absurd (Nat.lt_of_lt_of_le (Heap.lt_size (I.pin p hp).1) (by rw [z]; exact hb)) (Nat.lt_irrefl _)
structure Turn (P : Program) (w : World) (K : PySem.W.Frag) (tg : Expr) (J : It) (fp : List Addr) (it : Addr) (tn : Nat → Heap → Prop) : Prop where
  mem : it ∈ fp
  obj : ∀ i h, tn i h → ∀ b ∈ fp, ∃ o, h.get? b = some o ∧ ∀ v, o.data ≠ .cell v
  keep : ∀ i h h', tn i h → (∀ b ∈ fp, ∀ o, h.get? b = some o → h'.get? b = some o) → tn i h'
  item : ∀ (X : Cx), X.prog = P → X.w = w → X.K = K → X.calm = true → ∀ (i : Nat) (pins : List (Addr × Obj)) (s : Shared) (σ : St) (H : Hp) (E : Value → Shared → Prop), Inv X pins σ H s → (∀ b ∈ fp, FpOk X pins H b) → tn i s.heap → J.go i H →
    wpAny (model P w) X.A (pyNext (.ref it)) (fun r s1 => ∃ u, r = some u ∧
      wpAny (model P w) X.A (letOwnedTupleGo tg (.ref it) u) (fun _ s2 => ∃ x H', Inv X pins σ H' s2 ∧ RelV x u ∧ J.yld i H x H' ∧ tn (i + 1) s2.heap ∧ ∀ b ∈ fp, H' b = none) E s1) E s
  done : ∀ (X : Cx), X.prog = P → X.w = w → X.K = K → X.calm = true → ∀ (i : Nat) (pins : List (Addr × Obj)) (s : Shared) (σ : St) (H : Hp) (E : Value → Shared → Prop), Inv X pins σ H s → (∀ b ∈ fp, FpOk X pins H b) → tn i s.heap → J.stop i H →
    wpAny (model P w) X.A (pyNext (.ref it)) (fun r s1 => r = none ∧ Inv X pins σ H s1) E s
  self : ∀ (A : Around) (i : Nat) (s : Shared) (Q : Value → Shared → Prop) (E : Value → Shared → Prop), tn i s.heap → Q (.ref it) s → wpAny (model P w) A (pyIter (.ref it)) Q E s
abbrev TI := St → Hp → (It → Hp → Prop) → Prop
/-- an iterator has come -/
def PIE (X : Cx) (pins : List (Addr × Obj)) (σ : St) (tg : Expr) (R : It → Hp → Prop) (itv : Value) (s2 : Shared) : Prop :=
  ∃ (it : Addr) (fp : List Addr) (tn : Nat → Heap → Prop) (J : It) (H' : Hp), itv = .ref it ∧ Inv X pins σ H' s2 ∧ Turn X.prog X.w X.K tg J fp it tn ∧ tn 0 s2.heap ∧ (∀ b ∈ fp, FpOk X pins H' b) ∧ R J H'
def PI (X : Cx) (tg iter : Expr) (wi : TI) : Prop :=
  ∀ (pins : List (Addr × Obj)) (s : Shared) (σ : St) (H : Hp) (R : It → Hp → Prop), Inv X pins σ H s → wi σ H R →
    wpAny (model X.prog X.w) X.A (eval iter X.env) (fun v s1 => wpAny (model X.prog X.w) X.A (pyIter v) (PIE X pins σ tg R) X.xe s1) X.xe s

/-- the step ahead of the store is nothing for an iterator that keeps no tuple -/
theorem go_of {M : Model} {A : Around} {E : Value → Shared → Prop} {s : Shared} {tg : Expr} {it : Addr} {u : Value} {o : Obj} {n : String} {vs : Array Value} {Q : Unit → Shared → Prop} (ho : s.heap.get? it = some o) (hc : o.cls = .type n) (hd : o.data = .fields vs)
    (hn : ["enumerate", "zip", "dict_itemiterator", "dict_reverseitemiterator", "odict_iterator", "itertools.zip_longest", "itertools.pairwise"].contains n = false) (hQ : Q () s) : wpAny M A (letOwnedTupleGo tg (.ref it) u) Q E s := by
  unfold letOwnedTupleGo
  cases tg <;> first
    | exact wpAny_pure hQ
    | (cases u <;> first
        | exact wpAny_pure hQ
        | (refine wpAny_bind (wpAny_load ho ?_)
           rw [hc, hd]
           show wpAny M A (if (["enumerate", "zip", "dict_itemiterator", "dict_reverseitemiterator", "odict_iterator", "itertools.zip_longest", "itertools.pairwise"].contains n && vs[0]? == some (rawInt _)) = true then _ else _) Q E s
           rw [if_neg (by intro h; rw [hn, Bool.false_and] at h; cases h)]
           exact wpAny_pure hQ))

/-- the list at a, as it stands at each turn (a loop may append to it) -/
def Itl (K : PySem.W.Frag) (a : Addr) : It :=
  ⟨fun i H => ∃ xs x, SqL K H a xs ∧ xs[i]? = some x, fun i H x H' => H' = H ∧ ∀ xs, SqL K H a xs → xs[i]? = some x, fun i H => ∃ xs, SqL K H a xs ∧ xs.length ≤ i⟩
def Itt (K : PySem.W.Frag) (a : Addr) : It :=
  ⟨fun i H => ∃ xs x, SqT K H a xs ∧ xs[i]? = some x, fun i H x H' => H' = H ∧ ∀ xs, SqT K H a xs → xs[i]? = some x, fun i H => ∃ xs, SqT K H a xs ∧ xs.length ≤ i⟩
/-- lo, lo + 1, .. (n of them) -/
def Itr (lo : Int) (n : Nat) : It := ⟨fun i _ => i < n, fun i H x H' => H' = H ∧ x = .int (lo + i), fun i _ => n ≤ i⟩
theorem turn_list {P : Program} {w : World} {K : PySem.W.Frag} {tg : Expr} (a it : Addr) : Turn P w K tg (Itl K a) [it] it (fun i h => h.IsListIter it a i) where
  mem := by simp
  obj := fun i h st b hb => by
    have e : b = it := by simpa using hb
    subst e
    obtain ⟨o, e, c, d⟩ := st
    exact ⟨o, e, fun v z => by rw [d] at z; cases z⟩
  keep := fun i h h' st k => st.at fun o e => k it (by simp) o e
  item := by
    intro X hP hw hK hc i pins s σ H E I hf st hg
    subst hP hw hK
    obtain ⟨xs, x, hq, hx⟩ := hg
    obtain ⟨its, rv, p, hz⟩ := I.list hq
    obtain ⟨u, hu, ru⟩ := rv.get hx
    obtain ⟨f0, f1, f2, f3, f4, f5⟩ := hf it (by simp)
    refine wpAny_pyNext_list_item st p.isList (x := u) (by simpa using hu) fun h' st' sb => ?_
    have I1 : Inv X pins σ H { s with heap := h' } := I.turned (t' := s.toks) (fun b o hb e => (sb.2 b hb).trans e) f0 f1 f3 f4 f5
    obtain ⟨o, e, c, d⟩ := id st'
    exact ⟨u, rfl, go_of (s := { s with heap := h' }) e c d (by decide) ⟨x, H, I1, ru, ⟨rfl, fun ys hy => by rw [I.list_inj hy hq]; exact hx⟩, st', fun b hb => (hf b hb).1⟩⟩
  done := by
    intro X hP hw hK hc i pins s σ H E I hf st hg
    subst hP hw hK
    obtain ⟨xs, hq, hx⟩ := hg
    obtain ⟨its, rv, p, hz⟩ := I.list hq
    obtain ⟨f0, f1, f2, f3, f4, f5⟩ := hf it (by simp)
    have hl := rv.length
    exact wpAny_pyNext_list_end (I.ok.hd hc) st p.isList (by simp; omega) fun h' eb => ⟨rfl, I.turned (t' := s.toks) (fun b o hb e => eb b o hb e) f0 f1 f3 f4 f5⟩
  self := fun _ _ _ _ _ st h => wpAny_pyIter_listiter st h
theorem turn_tuple {P : Program} {w : World} {K : PySem.W.Frag} {tg : Expr} (a it : Addr) : Turn P w K tg (Itt K a) [it] it (fun i h => h.IsTupleIter it a i) where
  mem := by simp
  obj := fun i h st b hb => by
    have e : b = it := by simpa using hb
    subst e
    obtain ⟨o, e, c, d⟩ := st
    exact ⟨o, e, fun v z => by rw [d] at z; cases z⟩
  keep := fun i h h' st k => st.at fun o e => k it (by simp) o e
  item := by
    intro X hP hw hK hc i pins s σ H E I hf st hg
    subst hP hw hK
    obtain ⟨xs, x, hq, hx⟩ := hg
    obtain ⟨its, rv, p, hz⟩ := I.tuple hq
    obtain ⟨u, hu, ru⟩ := rv.get hx
    obtain ⟨f0, f1, f2, f3, f4, f5⟩ := hf it (by simp)
    refine wpAny_pyNext_tuple_item st (show s.heap.IsTuple a its.toArray from p) (x := u) (by simpa using hu) fun h' st' sb => ?_
    have I1 : Inv X pins σ H { s with heap := h' } := I.turned (t' := s.toks) (fun b o hb e => (sb.2 b hb).trans e) f0 f1 f3 f4 f5
    obtain ⟨o, e, c, d⟩ := id st'
    exact ⟨u, rfl, go_of (s := { s with heap := h' }) e c d (by decide) ⟨x, H, I1, ru, ⟨rfl, fun ys hy => by rw [I.tuple_inj hy hq]; exact hx⟩, st', fun b hb => (hf b hb).1⟩⟩
  done := by
    intro X hP hw hK hc i pins s σ H E I hf st hg
    subst hP hw hK
    obtain ⟨xs, hq, hx⟩ := hg
    obtain ⟨its, rv, p, hz⟩ := I.tuple hq
    obtain ⟨f0, f1, f2, f3, f4, f5⟩ := hf it (by simp)
    have hl := rv.length
    exact wpAny_pyNext_tuple_end (I.ok.hd hc) st (show s.heap.IsTuple a its.toArray from p) (by simp; omega) fun h' eb => ⟨rfl, I.turned (t' := s.toks) (fun b o hb e => eb b o hb e) f0 f1 f3 f4 f5⟩
  self := fun _ _ _ _ _ st h => wpAny_pyIter_tupleiter st h
theorem turn_range {P : Program} {w : World} {K : PySem.W.Frag} {tg : Expr} (it : Addr) (lo : Int) (n : Nat) : Turn P w K tg (Itr lo n) [it] it (fun i h => IsRangeIter h it (lo + (i : Nat) * 1) ((n : Int) - (i : Nat)) 1) where
  mem := by simp
  obj := fun i h st b hb => by
    have e : b = it := by simpa using hb
    subst e
    exact ⟨_, st, fun v z => by
      have z' : Data.fields _ = Data.cell v := z
      cases z'⟩
  keep := fun i h h' st k => k it (by simp) _ st
  item := by
    intro X hP hw hK hc i pins s σ H E I hf st hg
    subst hP hw hK
    obtain ⟨f0, f1, f2, f3, f4, f5⟩ := hf it (by simp)
    have W := Walks.range (prog := X.prog) (w := X.w) (I.ok.hd hc) it lo 1 n
    refine W.item i s _ _ hg st fun v h' tk hv st' kk => ?_
    obtain ⟨t, rfl⟩ := hv
    have I1 : Inv X pins σ H { s with heap := h', toks := tk } := I.turned (fun b o hb e => kk b o (by simpa using hb) e) f0 f1 f3 f4 f5
    refine ⟨_, rfl, go_of (s := { s with heap := h', toks := tk }) (n := "range_iterator") st' rfl rfl (by decide) ⟨.int (lo + i), H, I1, ⟨t, ?_⟩, ⟨rfl, rfl⟩, st', fun b hb => (hf b hb).1⟩⟩
    rw [Int.mul_one]
  done := by
    intro X hP hw hK hc i pins s σ H E I hf st hg
    subst hP hw hK
    obtain ⟨f0, f1, f2, f3, f4, f5⟩ := hf it (by simp)
    exact wpAny_pyNext_range_end (I.ok.hd hc) st (by have : n ≤ i := hg; omega) fun h' eb => ⟨rfl, I.turned (t' := s.toks) (fun b o hb e => eb b o hb e) f0 f1 f3 f4 f5⟩
  self := fun _ _ _ _ _ st h => wpAny_pyIter_rangeiter st h
end L2

namespace L2
open PySem PySem.Spec PyProof.Rows
section
variable {X : Cx} {tg : Expr}
def iList (K : PySem.W.Frag) (tl : TE) : TI := fun σ H R => tl σ H fun x H1 => ∃ a, x = .ref a ∧ (∃ xs, SqL K H1 a xs) ∧ R (Itl K a) H1
def iTup (K : PySem.W.Frag) (tl : TE) : TI := fun σ H R => tl σ H fun x H1 => ∃ a, x = .ref a ∧ (∃ xs, SqT K H1 a xs) ∧ R (Itt K a) H1
theorem pi_list {l : Expr} {tl : TE} (hl : PE X l tl) : PI X tg l (iList X.K tl) := by
  intro pins s σ H R I h
  refine thn (hl pins s σ H _ I h) fun v s1 ⟨x, H1, I1, r1, q1⟩ => ?_
  obtain ⟨a, e, ⟨xs, hq⟩, q⟩ := q1
  subst e
  cases r1
  obtain ⟨its, rv, p, hz⟩ := I1.list hq
  refine wpAny_pyIter_list p.isList ?_
  refine ⟨s1.heap.objs.size, [s1.heap.objs.size], _, _, H1, rfl, I1.kept (t' := s1.toks) fun b o e => Heap.get?_push_of_some _ e, turn_list a _, ⟨_, Heap.get?_push_size _ rfl, rfl, rfl⟩, fun b hb => ?_, q⟩
  have e : b = s1.heap.objs.size := by simpa using hb
  subst e
  exact I1.fpOk (Nat.le_refl _) (I1.hok.fresh (Nat.le_refl _))
theorem pi_tup {l : Expr} {tl : TE} (hl : PE X l tl) : PI X tg l (iTup X.K tl) := by
  intro pins s σ H R I h
  refine thn (hl pins s σ H _ I h) fun v s1 ⟨x, H1, I1, r1, q1⟩ => ?_
  obtain ⟨a, e, ⟨xs, hq⟩, q⟩ := q1
  subst e
  cases r1
  obtain ⟨its, rv, p, hz⟩ := I1.tuple hq
  refine wpAny_pyIter_tuple (show s1.heap.IsTuple a its.toArray from p) ?_
  refine ⟨s1.heap.objs.size, [s1.heap.objs.size], _, _, H1, rfl, I1.kept (t' := s1.toks) fun b o e => Heap.get?_push_of_some _ e, turn_tuple a _, ⟨_, Heap.get?_push_size _ rfl, rfl, rfl⟩, fun b hb => ?_, q⟩
  have e : b = s1.heap.objs.size := by simpa using hb
  subst e
  exact I1.fpOk (Nat.le_refl _) (I1.hok.fresh (Nat.le_refl _))
/-- a range object just made, walked -/
theorem range_it {pins : List (Addr × Obj)} {σ : St} {H : Hp} {s : Shared} {R : It → Hp → Prop} {E : Value → Shared → Prop} {lo hi : Int} {t u v : Tok} {tk : Nat} (I : Inv X pins σ H s) (h1 : -(2 ^ 62) ≤ lo) (h2 : lo < 2 ^ 62) (h3 : -(2 ^ 62) ≤ hi) (h4 : hi < 2 ^ 62)
    (q : R (Itr lo (hi - lo).toNat) H) : wpAny (model X.prog X.w) X.A (pyIter (.ref s.heap.objs.size)) (PIE X pins σ tg R) E { s with heap := s.heap.push { cls := .type "range", data := .fields #[.int lo t, .int hi u, .int 1 v] }, toks := tk } := by
  refine wpAny_pyIter_range (IsRange.new ..) (small_one h1 h2 h3 h4) ?_
  have I1 : Inv X pins σ H { s with heap := s.heap.push { cls := .type "range", data := .fields #[.int lo t, .int hi u, .int 1 v] }, toks := tk } := I.kept fun b o e => Heap.get?_push_of_some _ e
  refine ⟨(s.heap.push { cls := .type "range", data := .fields #[.int lo t, .int hi u, .int 1 v] }).objs.size, [(s.heap.push { cls := .type "range", data := .fields #[.int lo t, .int hi u, .int 1 v] }).objs.size], _, _, H, rfl,
    I1.kept (t' := tk) fun b o e => Heap.get?_push_of_some _ e, turn_range _ lo (hi - lo).toNat, ?_, fun b hb => ?_, q⟩
  · have e1 : lo + ((0 : Nat) : Int) * 1 = lo := by simp
    have e2 : (((hi - lo).toNat : Nat) : Int) - ((0 : Nat) : Int) = Builtin.Range.rangeSize lo hi 1 := by rw [rangeSize_one]; split <;> omega
    show IsRangeIter _ _ (lo + ((0 : Nat) : Int) * 1) ((((hi - lo).toNat : Nat) : Int) - ((0 : Nat) : Int)) 1
    rw [e1, e2]
    exact Heap.get?_push_size _ rfl
  · have e : b = (s.heap.push { cls := .type "range", data := .fields #[.int lo t, .int hi u, .int 1 v] }).objs.size := by simpa using hb
    subst e
    exact I1.fpOk (Nat.le_refl _) (I1.hok.fresh (Nat.le_refl _))
def iRng1 (ta : TA) : TI := fun σ H R => ta σ H fun vs H1 => ∃ j : Int, vs = [.int j] ∧ -(2 ^ 62) ≤ j ∧ j < 2 ^ 62 ∧ R (Itr 0 j.toNat) H1
def iRng2 (ta : TA) : TI := fun σ H R => ta σ H fun vs H1 => ∃ i j : Int, vs = [.int i, .int j] ∧ (-(2 ^ 62) ≤ i ∧ i < 2 ^ 62 ∧ -(2 ^ 62) ≤ j ∧ j < 2 ^ 62) ∧ R (Itr i (j - i).toNat) H1
theorem pi_range1 {a : Expr} {ta : TA} {p pos : Pos} (hg : Gl X "range") (hm : X.mg "range" = none) (ha : PA X [a] ta) (hs : starEach [a] X.env = [(false, eval a X.env)] := by rfl) : PI X tg (.Call (.Name "range" p) [a] [] pos) (iRng1 ta) := by
  intro pins s σ H R I h
  refine Call_ (ld_blt I hg hm boot_range (PyProof.Rows.callWith_type1 (thn (ha pos pins s σ H _ I h) fun us s1 ⟨vs, H1, I1, r1, q1⟩ => ?_) hs rfl))
  obtain ⟨j, e, q1, q2, q⟩ := q1
  subst e
  cases r1 with
  | cons r rr =>
    cases rr
    obtain ⟨t, rfl⟩ := r
    exact call_range_1 (range_it I1 (by omega) (by omega) q1 q2 (by simpa using q))
theorem pi_range2 {a b : Expr} {ta : TA} {p pos : Pos} (hg : Gl X "range") (hm : X.mg "range" = none) (ha : PA X [a, b] ta) (hs : starEach [a, b] X.env = [(false, eval a X.env), (false, eval b X.env)] := by rfl) (hs2 : starEach [b] X.env = [(false, eval b X.env)] := by rfl) :
    PI X tg (.Call (.Name "range" p) [a, b] [] pos) (iRng2 ta) := by
  intro pins s σ H R I h
  refine Call_ (ld_blt I hg hm boot_range (PyProof.Rows.callWith_type1 (thn (ha pos pins s σ H _ I h) fun us s1 ⟨vs, H1, I1, r1, q1⟩ => ?_) (by rw [hs, hs2]) (by rw [hs2]; rfl)))
  obtain ⟨i, j, e, ⟨q1, q2, q3, q4⟩, q⟩ := q1
  subst e
  cases r1 with
  | cons r rr =>
    cases rr with
    | cons r' rr =>
      cases rr
      obtain ⟨t, rfl⟩ := r
      obtain ⟨t', rfl⟩ := r'
      exact call_range_2 (range_it I1 q1 q2 q3 q4 q)

/-! ### for -/
/-- W: the invariant by the turn and a measure; N: what the body is to reach -/
def tFor (wi : TI) (g : TG) (tb : TS) : TS := fun D σ H => wi σ H fun J H1 => ∃ W : Nat → Nat → St → Hp → Prop, (∃ m, W 0 m σ H1) ∧ ∀ i m σ H, W i m σ H →
  (J.stop i H ∧ D.nx σ H) ∨ (J.go i H ∧ ∃ N : St → Hp → Prop, (∀ σ' H', N σ' H' → ∃ m', m' < m ∧ W (i + 1) m' σ' H') ∧ ∀ x H', J.yld i H x H' → g x σ H' fun σ2 H2 => tb { D with nx := N, ct := N, bk := D.nx } σ2 H2)
/-- the records at fp as they stand -/
def pinsAt (fp : List Addr) (h : Heap) : List (Addr × Obj) := fp.filterMap fun b => (h.get? b).map fun o => (b, o)
theorem mem_pinsAt {fp : List Addr} {h : Heap} {b : Addr} {o : Obj} (hb : b ∈ fp) (e : h.get? b = some o) : (b, o) ∈ pinsAt fp h := List.mem_filterMap.mpr ⟨b, hb, by rw [e]; rfl⟩
theorem of_pinsAt {fp : List Addr} {h : Heap} {p : Addr × Obj} (hp : p ∈ pinsAt fp h) : p.1 ∈ fp ∧ h.get? p.1 = some p.2 := by
  obtain ⟨b, hb, e⟩ := List.mem_filterMap.mp hp
  cases q : h.get? b with
  | none => rw [q] at e; cases e
  | some o =>
    rw [q] at e
    have e' : (b, o) = p := Option.some.inj e
    subst e'
    exact ⟨hb, q⟩
theorem Inv.pinned {pins : List (Addr × Obj)} {σ : St} {H : Hp} {s : Shared} {fp : List Addr} (I : Inv X pins σ H s) (hf : ∀ b ∈ fp, FpOk X pins H b) (ho : ∀ b ∈ fp, ∃ o, s.heap.get? b = some o ∧ ∀ v, o.data ≠ .cell v) : Inv X (pins ++ pinsAt fp s.heap) σ H s :=
  I.pins_of fun p hp => (List.mem_append.mp hp).elim (fun z => I.pin p (List.mem_append_right _ z)) fun z => by
    obtain ⟨hb, e⟩ := of_pinsAt z
    obtain ⟨f0, f1, f2, _⟩ := hf p.1 hb
    obtain ⟨o, e', d⟩ := ho p.1 hb
    rw [e] at e'; cases e'
    exact ⟨e, f0, f1, f2, d⟩
theorem Inv.unpinned {pins pl : List (Addr × Obj)} {σ : St} {H : Hp} {s : Shared} (I : Inv X (pins ++ pl) σ H s) : Inv X pins σ H s := I.pins_of fun p hp => I.pin p (List.mem_append_right _ (List.mem_append_left _ hp))
theorem ps_for {iter : Expr} {body : List Stmt} {wi : TI} {g : TG} {tb : TS} {pos : Pos} (hp : PassesOwn (model X.prog X.w) X.A X.env X.xe) (hc : X.calm = true) (hi : PI X tg iter wi) (hg : PG X tg g) (hb : PSs X body tb)
    (hs : ∀ x, foldedSetIterable iter X.env x = pure x := by intro _; rfl) : PS X (.For tg iter body [] pos) (tFor wi g tb) := by
  intro pins s σ H D I h
  refine wpAny_For (thn (hi pins s σ H _ I h) fun v s1 h1 => thn h1 fun itv s2 h2 => ?_) hs
  obtain ⟨it, fp, tn, J, H2, e, I2, T, st2, f2, W, ⟨m0, w0⟩, turn⟩ := h2
  subst e
  -- what stays true of the iterator's objects through the loop
  have stat : ∀ {H' : Hp}, (∀ b ∈ fp, H' b = none) → ∀ b ∈ fp, FpOk X pins H' b := fun hn b hb => ⟨hn b hb, (f2 b hb).2⟩
  refine codeAny_forLoop_any (fun n s' => ∃ i σ' H', Inv X pins σ' H' s' ∧ tn i s'.heap ∧ (∀ b ∈ fp, H' b = none) ∧ W i n σ' H') ?_ m0 ⟨0, σ, H2, I2, st2, fun b hb => (f2 b hb).1, w0⟩
  rintro n s3 ⟨i, σ3, H3, I3, st3, fr3, w3⟩
  rcases turn i n σ3 H3 w3 with ⟨stop, qn⟩ | ⟨go, N, hN, step⟩
  · refine wpAny_passesOwn hp (thn (T.done X rfl rfl rfl hc i pins s3 σ3 H3 X.xe I3 (stat fr3) st3 stop) fun r s4 ⟨hr, I4⟩ => ?_)
    subst hr
    exact wpAny_execs_nil ⟨σ3, H3, I4, qn⟩
  · refine wpAny_passesOwn hp (thn (T.item X rfl rfl rfl hc i pins s3 σ3 H3 X.xe I3 (stat fr3) st3 go) fun r s4 ⟨u, hr, h4⟩ => ?_)
    subst hr
    refine wpAny_passesOwn hp (thn h4 fun _ s5 ⟨x, H5, I5, r5, y5, st5, fr5⟩ => ?_)
    have I5' := I5.pinned (stat fr5) (T.obj _ _ st5)
    refine wpAny_passesOwn hp (thn (hg _ s5 σ3 H5 x u _ I5' r5 (step x H5 y5)) fun _ s6 ⟨σ6, H6, I6, q6⟩ => ?_)
    refine wpAny_passesOwn hp (thn (hb _ s6 σ6 H6 _ I6 q6) fun f s7 q7 => ?_)
    have again : ∀ {σ7 : St} {H7 : Hp}, Inv X (pins ++ pinsAt fp s5.heap) σ7 H7 s7 → N σ7 H7 → ∃ m, m < n ∧ ∃ i σ' H', Inv X pins σ' H' s7 ∧ tn i s7.heap ∧ (∀ b ∈ fp, H' b = none) ∧ W i m σ' H' := fun {σ7 H7} I7 n7 => by
      obtain ⟨m', hm, w7⟩ := hN σ7 H7 n7
      refine ⟨m', hm, i + 1, σ7, H7, I7.unpinned, T.keep _ _ _ st5 fun b hb o e => (I7.pin (b, o) (List.mem_append_right _ (List.mem_append_right _ (mem_pinsAt hb e)))).1, fun b hb => ?_, w7⟩
      obtain ⟨o, e, d⟩ := T.obj _ _ st5 b hb
      exact (I7.pin (b, o) (List.mem_append_right _ (List.mem_append_right _ (mem_pinsAt hb e)))).2.1
    cases f with
    | next => obtain ⟨σ7, H7, I7, n7⟩ := q7; exact again I7 n7
    | cont => obtain ⟨σ7, H7, I7, n7⟩ := q7; exact again I7 n7
    | brk => obtain ⟨σ7, H7, I7, q7⟩ := q7; exact ⟨σ7, H7, I7.unpinned, q7⟩
    | ret v => obtain ⟨x7, σ7, H7, I7, r7, q7⟩ := q7; exact ⟨x7, σ7, H7, I7.unpinned, r7, q7⟩
end

/-! ### the forms one uses -/
/-- over a list that the body leaves as it is -/
theorem for_list {K : PySem.W.Frag} {a : Addr} {xs : List V} {g : TG} {tb : TS} {D : Ends} {σ : St} {H : Hp} (Pv : Nat → St → Hp → Prop) (h0 : Pv 0 σ H) (hl : ∀ i σ H, i ≤ xs.length → Pv i σ H → SqL K H a xs)
    (hs : ∀ i x σ H, xs[i]? = some x → Pv i σ H → g x σ H fun σ2 H2 => tb { D with nx := Pv (i + 1), ct := Pv (i + 1), bk := D.nx } σ2 H2) (hd : ∀ σ H, Pv xs.length σ H → D.nx σ H) :
    ∃ W : Nat → Nat → St → Hp → Prop, (∃ m, W 0 m σ H) ∧ ∀ i m σ H, W i m σ H →
      ((Itl K a).stop i H ∧ D.nx σ H) ∨ ((Itl K a).go i H ∧ ∃ N : St → Hp → Prop, (∀ σ' H', N σ' H' → ∃ m', m' < m ∧ W (i + 1) m' σ' H') ∧ ∀ x H', (Itl K a).yld i H x H' → g x σ H' fun σ2 H2 => tb { D with nx := N, ct := N, bk := D.nx } σ2 H2) := by
  refine ⟨fun i m σ H => m = xs.length - i ∧ i ≤ xs.length ∧ Pv i σ H, ⟨xs.length, by simp, Nat.zero_le _, h0⟩, ?_⟩
  rintro i m σ H ⟨rfl, hi, p⟩
  have q := hl i σ H hi p
  by_cases hlt : i < xs.length
  · refine .inr ⟨⟨xs, xs[i], q, by simp [hlt]⟩, Pv (i + 1), fun σ' H' p' => ⟨xs.length - (i + 1), by omega, rfl, hlt, p'⟩, fun x H' y => ?_⟩
    obtain ⟨e, y⟩ := y
    subst e
    exact hs i x σ _ (y xs q) p
  · have e : i = xs.length := by omega
    subst e
    exact .inl ⟨⟨xs, q, Nat.le_refl _⟩, hd σ H p⟩
theorem for_tup {K : PySem.W.Frag} {a : Addr} {xs : List V} {g : TG} {tb : TS} {D : Ends} {σ : St} {H : Hp} (Pv : Nat → St → Hp → Prop) (h0 : Pv 0 σ H) (hl : ∀ i σ H, i ≤ xs.length → Pv i σ H → SqT K H a xs)
    (hs : ∀ i x σ H, xs[i]? = some x → Pv i σ H → g x σ H fun σ2 H2 => tb { D with nx := Pv (i + 1), ct := Pv (i + 1), bk := D.nx } σ2 H2) (hd : ∀ σ H, Pv xs.length σ H → D.nx σ H) :
    ∃ W : Nat → Nat → St → Hp → Prop, (∃ m, W 0 m σ H) ∧ ∀ i m σ H, W i m σ H →
      ((Itt K a).stop i H ∧ D.nx σ H) ∨ ((Itt K a).go i H ∧ ∃ N : St → Hp → Prop, (∀ σ' H', N σ' H' → ∃ m', m' < m ∧ W (i + 1) m' σ' H') ∧ ∀ x H', (Itt K a).yld i H x H' → g x σ H' fun σ2 H2 => tb { D with nx := N, ct := N, bk := D.nx } σ2 H2) := by
  refine ⟨fun i m σ H => m = xs.length - i ∧ i ≤ xs.length ∧ Pv i σ H, ⟨xs.length, by simp, Nat.zero_le _, h0⟩, ?_⟩
  rintro i m σ H ⟨rfl, hi, p⟩
  have q := hl i σ H hi p
  by_cases hlt : i < xs.length
  · refine .inr ⟨⟨xs, xs[i], q, by simp [hlt]⟩, Pv (i + 1), fun σ' H' p' => ⟨xs.length - (i + 1), by omega, rfl, hlt, p'⟩, fun x H' y => ?_⟩
    obtain ⟨e, y⟩ := y
    subst e
    exact hs i x σ _ (y xs q) p
  · have e : i = xs.length := by omega
    subst e
    exact .inl ⟨⟨xs, q, Nat.le_refl _⟩, hd σ H p⟩
theorem for_range {lo : Int} {n : Nat} {g : TG} {tb : TS} {D : Ends} {σ : St} {H : Hp} (Pv : Nat → St → Hp → Prop) (h0 : Pv 0 σ H)
    (hs : ∀ i σ H, i < n → Pv i σ H → g (.int (lo + i)) σ H fun σ2 H2 => tb { D with nx := Pv (i + 1), ct := Pv (i + 1), bk := D.nx } σ2 H2) (hd : ∀ σ H, Pv n σ H → D.nx σ H) :
    ∃ W : Nat → Nat → St → Hp → Prop, (∃ m, W 0 m σ H) ∧ ∀ i m σ H, W i m σ H →
      ((Itr lo n).stop i H ∧ D.nx σ H) ∨ ((Itr lo n).go i H ∧ ∃ N : St → Hp → Prop, (∀ σ' H', N σ' H' → ∃ m', m' < m ∧ W (i + 1) m' σ' H') ∧ ∀ x H', (Itr lo n).yld i H x H' → g x σ H' fun σ2 H2 => tb { D with nx := N, ct := N, bk := D.nx } σ2 H2) := by
  refine ⟨fun i m σ H => m = n - i ∧ i ≤ n ∧ Pv i σ H, ⟨n, by simp, Nat.zero_le _, h0⟩, ?_⟩
  rintro i m σ H ⟨rfl, hi, p⟩
  by_cases hlt : i < n
  · refine .inr ⟨hlt, Pv (i + 1), fun σ' H' p' => ⟨n - (i + 1), by omega, rfl, hlt, p'⟩, fun x H' y => ?_⟩
    obtain ⟨e, y⟩ := y
    subst e y
    exact hs i σ _ hlt p
  · have e : i = n := by omega
    subst e
    exact .inl ⟨Nat.le_refl _, hd σ H p⟩
end L2

namespace L2
open PySem PySem.Spec PyProof.Rows

abbrev R2 := V → V → Hp → VK → Prop
/-- a two-place operation on values: f is binaryOp op, inplaceOp op or compareOp op -/
def OpR (X : Cx) (f : Value → Value → Sem Value) (r : R2) : Prop :=
  ∀ (pins : List (Addr × Obj)) (s : Shared) (σ : St) (H : Hp) (x y : V) (v u : Value) (Q : VK), Inv X pins σ H s → RelV x v → RelV y u → r x y H Q →
    wpAny (model X.prog X.w) X.A (f v u) (EP X pins σ Q) X.xe s
/-- a one-place operation -/
def UnR (X : Cx) (f : Value → Sem Value) (r : V → Hp → VK → Prop) : Prop :=
  ∀ (pins : List (Addr × Obj)) (s : Shared) (σ : St) (H : Hp) (x : V) (v : Value) (Q : VK), Inv X pins σ H s → RelV x v → r x H Q →
    wpAny (model X.prog X.w) X.A (f v) (EP X pins σ Q) X.xe s
/-- a call of a value that is known (a builtin, a type) with values -/
def CallR (X : Cx) (f : Value) (r : List V → Hp → VK → Prop) : Prop :=
  ∀ (pins : List (Addr × Obj)) (s : Shared) (σ : St) (H : Hp) (xs : List V) (us : List Value) (Q : VK), Inv X pins σ H s → Vals xs us → r xs H Q →
    wpAny (model X.prog X.w) X.A (call f us) (EP X pins σ Q) X.xe s
/-- a value's truth -/
def TruR (X : Cx) (r : V → Hp → (Bool → Hp → Prop) → Prop) : Prop :=
  ∀ (pins : List (Addr × Obj)) (s : Shared) (σ : St) (H : Hp) (x : V) (v : Value) (Q : Bool → Hp → Prop), Inv X pins σ H s → RelV x v → r x H Q →
    wpAny (model X.prog X.w) X.A (truthy v) (TP X pins σ Q) X.xe s

def tOp (r : R2) (ta tb : TE) : TE := fun σ H Q => ta σ H fun x H1 => tb σ H1 fun y H2 => r x y H2 Q
def tUn (r : V → Hp → VK → Prop) (ta : TE) : TE := fun σ H Q => ta σ H fun x H1 => r x H1 Q
/-- ints in, under C, and a value out -/
def rI (C : Int → Int → Prop) (g : Int → Int → V) : R2 := fun x y H Q => ∃ i j, x = .int i ∧ y = .int j ∧ C i j ∧ Q (g i j) H
def rI0 (g : Int → Int → V) : R2 := fun x y H Q => ∃ i j, x = .int i ∧ y = .int j ∧ Q (g i j) H
def rU (g : Int → V) : V → Hp → VK → Prop := fun x H Q => ∃ i, x = .int i ∧ Q (g i) H

section
variable {X : Cx} {a b c : Expr} {ta tb tc : TE} {pos : Pos}

theorem binT (ha : PE X a ta) (hb : PE X b tb) {pins : List (Addr × Obj)} {s : Shared} {σ : St} {H : Hp} {R : V → V → Hp → Prop} (I : Inv X pins σ H s)
    (h : ta σ H fun x H1 => tb σ H1 fun y H2 => R x y H2) {Q : Value → Shared → Prop} {f : Value → Value → Sem Value}
    (hf : ∀ v u s2 x y H2, Inv X pins σ H2 s2 → RelV x v → RelV y u → R x y H2 → wpAny (model X.prog X.w) X.A (f v u) Q X.xe s2) :
    wpAny (model X.prog X.w) X.A (eval a X.env) (fun v s₁ => wpAny (model X.prog X.w) X.A (eval b X.env) (fun u s₂ => wpAny (model X.prog X.w) X.A (f v u) Q X.xe s₂) X.xe s₁) X.xe s := by
  refine thn (ha pins s σ H _ I h) fun v s1 ⟨x, H1, I1, r1, q1⟩ => ?_
  refine thn (hb pins s1 σ H1 _ I1 q1) fun u s2 ⟨y, H2, I2, r2, q2⟩ => ?_
  exact hf v u s2 x y H2 I2 r1 r2 q2

theorem pe_op {op : Operator} {r : R2} (ho : OpR X (binaryOp op) r) (ha : PE X a ta) (hb : PE X b tb) : PE X (.BinOp a op b pos) (tOp r ta tb) := by
  intro pins s σ H Q I h
  exact wpAny_BinOp (binT ha hb I h fun v u s2 x y H2 I2 rx ry q => ho pins s2 σ H2 x y v u Q I2 rx ry q)
theorem pe_un {op : UnaryOp} {r : V → Hp → VK → Prop} (ho : UnR X (unaryOp op) r) (ha : PE X a ta) : PE X (.UnaryOp op a pos) (tUn r ta) := by
  intro pins s σ H Q I h
  exact UnaryOp_ (thn (ha pins s σ H _ I h) fun v s1 ⟨x, H1, I1, r1, q1⟩ => ho pins s1 σ H1 x v Q I1 r1 q1)
/-! ### ints -/
theorem opI {f : Value → Value → Sem Value} {C : Int → Int → Prop} {g : Int → Int → Int}
    (rule : ∀ (i j : Int) (t u : Tok) (s : Shared) (Q : Value → Shared → Prop) (E : Value → Shared → Prop), C i j → Q (.int (g i j) s.toks) { s with toks := s.toks + 1 } → wpAny (model X.prog X.w) X.A (f (.int i t) (.int j u)) Q E s) :
    OpR X f (rI C fun i j => .int (g i j)) := by
  intro pins s σ H x y v u Q I rx ry h
  obtain ⟨i, j, rfl, rfl, hc, q⟩ := h
  obtain ⟨t, rfl⟩ := rx
  obtain ⟨t', rfl⟩ := ry
  exact rule i j t t' s _ _ hc ⟨.int (g i j), H, I.tok _, ⟨_, rfl⟩, q⟩
theorem opI0 {f : Value → Value → Sem Value} {g : Int → Int → Int}
    (rule : ∀ (i j : Int) (t u : Tok) (s : Shared) (Q : Value → Shared → Prop) (E : Value → Shared → Prop), Q (.int (g i j) s.toks) { s with toks := s.toks + 1 } → wpAny (model X.prog X.w) X.A (f (.int i t) (.int j u)) Q E s) :
    OpR X f (rI0 fun i j => .int (g i j)) := by
  intro pins s σ H x y v u Q I rx ry h
  obtain ⟨i, j, rfl, rfl, q⟩ := h
  obtain ⟨t, rfl⟩ := rx
  obtain ⟨t', rfl⟩ := ry
  exact rule i j t t' s _ _ ⟨.int (g i j), H, I.tok _, ⟨_, rfl⟩, q⟩
theorem opB0 {f : Value → Value → Sem Value} {g : Int → Int → Bool}
    (rule : ∀ (i j : Int) (t u : Tok) (s : Shared) (Q : Value → Shared → Prop) (E : Value → Shared → Prop), Q (.bool (g i j)) s → wpAny (model X.prog X.w) X.A (f (.int i t) (.int j u)) Q E s) :
    OpR X f (rI0 fun i j => .bl (g i j)) := by
  intro pins s σ H x y v u Q I rx ry h
  obtain ⟨i, j, rfl, rfl, q⟩ := h
  obtain ⟨t, rfl⟩ := rx
  obtain ⟨t', rfl⟩ := ry
  exact rule i j t t' s _ _ ⟨.bl (g i j), H, I, rfl, q⟩

def CDiv (i j : Int) : Prop := 0 < j ∧ j < 1073741824
def CDivN (i j : Int) : Prop := j ≠ 0 ∧ j.natAbs < 1073741824
def CPow (i j : Int) : Prop := 0 ≤ j ∧ j ≤ 1000000 ∧ i.natAbs < 2 ^ 64
def CMul (i j : Int) : Prop := (-(2 ^ 64) < i ∧ i < 2 ^ 64) ∨ (-(2 ^ 64) < j ∧ j < 2 ^ 64)
theorem CMul.ok {i j : Int} (h : CMul i j) : IntMulOk i j := by
  rcases h with ⟨h1, h2⟩ | ⟨h1, h2⟩
  · exact .of_left (intBits_le_64 h1 h2)
  · exact .of_right (intBits_le_64 h1 h2)
theorem op_add : OpR X (binaryOp .Add) (rI0 fun i j => .int (i + j)) := opI0 fun _ _ _ _ _ _ _ q => add_int q
theorem op_sub : OpR X (binaryOp .Sub) (rI0 fun i j => .int (i - j)) := opI0 fun _ _ _ _ _ _ _ q => sub_int q
theorem op_mul : OpR X (binaryOp .Mult) (rI CMul fun i j => .int (i * j)) := opI fun _ _ _ _ _ _ _ hc q => mul_int q hc.ok
/-- // by a positive divisor -/
theorem op_fdiv : OpR X (binaryOp .FloorDiv) (rI CDiv fun i j => .int (i / j)) := opI fun i j _ _ _ _ _ hc q => by
  have h1 : (0 : Int) < j := hc.1
  have h2 : j < 1073741824 := hc.2
  exact floordiv_int (by omega) (by rw [Int.fdiv_eq_ediv_of_nonneg i (by omega)]; exact q) (.inl (PyProof.noPylong_small (by omega)))
/-- % by a positive divisor of any size -/
theorem op_mod : OpR X (binaryOp .Mod) (rI (fun _ j => 0 < j) fun i j => .int (i % j)) := opI fun i j _ _ _ _ _ hc q => by
  have h1 : (0 : Int) < j := hc
  exact mod_int' (by omega) (by rw [Int.fmod_eq_emod_of_nonneg i (by omega)]; exact q)
theorem op_pow : OpR X (binaryOp .Pow) (rI CPow fun i j => .int (i ^ j.toNat)) := opI fun _ _ _ _ _ _ _ hc q => pow_int_small hc.1 hc.2.1 hc.2.2 q
theorem unI {f : Value → Sem Value} {g : Int → Int}
    (rule : ∀ (i : Int) (t : Tok) (s : Shared) (Q : Value → Shared → Prop) (E : Value → Shared → Prop), Q (.int (g i) s.toks) { s with toks := s.toks + 1 } → wpAny (model X.prog X.w) X.A (f (.int i t)) Q E s) :
    UnR X f (rU fun i => .int (g i)) := by
  intro pins s σ H x v Q I rx h
  obtain ⟨i, rfl, q⟩ := h
  obtain ⟨t, rfl⟩ := rx
  exact rule i t s _ _ ⟨.int (g i), H, I.tok _, ⟨_, rfl⟩, q⟩
theorem un_neg : UnR X (unaryOp .USub) (rU fun i => .int (-i)) := unI fun _ _ _ _ _ q => neg_int q
/-! ### bools among ints: n += (a < b) -/
end

/-! ### comparisons -/
/-- the scalars that == tells apart as data does -/
def scal : V → V → Bool
  | .non, .non => true | .non, .int _ => true | .int _, .non => true | .non, .bl _ => true | .bl _, .non => true | .non, .str _ => true | .str _, .non => true
  | .int _, .int _ => true | .bl _, .bl _ => true | .str _, .str _ => true | .byt _, .byt _ => true
  | .int _, .str _ => true | .str _, .int _ => true | .bl _, .str _ => true | .str _, .bl _ => true
  | _, _ => false
def rEq : R2 := fun x y H Q => scal x y = true ∧ Q (.bl (decide (x = y))) H
def rNe : R2 := fun x y H Q => scal x y = true ∧ Q (.bl (!decide (x = y))) H

theorem dec_int {i j : Int} : decide (V.int i = V.int j) = (i == j) := by
  rw [Bool.eq_iff_iff]
  simp
theorem dec_bl {i j : Bool} : decide (V.bl i = V.bl j) = (i == j) := by
  rw [Bool.eq_iff_iff]
  simp
theorem dec_str {i j : Str} : decide (V.str i = V.str j) = (i == j) := by
  rw [Bool.eq_iff_iff]
  simp
theorem dec_byt {i j : Array UInt8} : decide (V.byt i = V.byt j) = (i.toList == j.toList) := by
  rw [Bool.eq_iff_iff]
  cases i
  cases j
  simp

section
variable {X : Cx} {a b c : Expr} {ta tb tc : TE} {pos : Pos}
theorem fin_bl {pins : List (Addr × Obj)} {σ : St} {H : Hp} {s : Shared} {Q : VK} {k k' : Bool} (I : Inv X pins σ H s) (q : Q (.bl k) H) (e : k = k') : EP X pins σ Q (.bool k') s := by
  subst e
  exact ⟨.bl k, H, I, rfl, q⟩
theorem op_eq : OpR X (compareOp .Eq) rEq := by
  intro pins s σ H x y v u Q I rx ry h
  obtain ⟨hs, q⟩ := h
  cases x with
  | non =>
    cases rx
    cases y with
    | non => cases ry; exact PySem.EqNone.eq_none_none (fin_bl I q (by simp))
    | bl j => cases ry; exact PySem.EqNone.eq_none_bool (fin_bl I q (by simp))
    | int j => obtain ⟨t', rfl⟩ := ry; exact PySem.EqNone.eq_none_int (fin_bl I q (by simp))
    | str j => obtain ⟨t', rfl⟩ := ry; exact PySem.EqNone.eq_none_str (fin_bl I q (by simp))
    | _ => exact absurd (show false = true from hs) Bool.false_ne_true
  | bl i =>
    cases rx
    cases y with
    | non => cases ry; exact PySem.EqNone.eq_bool_none (fin_bl I q (by simp))
    | bl j => cases ry; exact eq_bool (fin_bl I q dec_bl)
    | str j => obtain ⟨t', rfl⟩ := ry; exact PySem.EqMixed.eq_bool_str (fin_bl I q (by simp))
    | _ => exact absurd (show false = true from hs) Bool.false_ne_true
  | int i =>
    obtain ⟨t, rfl⟩ := rx
    cases y with
    | non => cases ry; exact PySem.EqNone.eq_int_none (fin_bl I q (by simp))
    | int j => obtain ⟨t', rfl⟩ := ry; exact eq_int (fin_bl I q dec_int)
    | str j => obtain ⟨t', rfl⟩ := ry; exact PySem.EqMixed.eq_int_str (fin_bl I q (by simp))
    | _ => exact absurd (show false = true from hs) Bool.false_ne_true
  | str i =>
    obtain ⟨t, rfl⟩ := rx
    cases y with
    | non => cases ry; exact PySem.EqNone.eq_str_none (fin_bl I q (by simp))
    | bl j => cases ry; exact PySem.EqMixed.eq_str_bool (fin_bl I q (by simp))
    | int j => obtain ⟨t', rfl⟩ := ry; exact PySem.EqMixed.eq_str_int (fin_bl I q (by simp))
    | str j => obtain ⟨t', rfl⟩ := ry; exact eq_str (fin_bl I q dec_str)
    | _ => exact absurd (show false = true from hs) Bool.false_ne_true
  | byt i =>
    obtain ⟨t, rfl⟩ := rx
    cases y with
    | byt j => obtain ⟨t', rfl⟩ := ry; exact PySem.W.eq_bytes (fin_bl I q dec_byt)
    | _ => exact absurd (show false = true from hs) Bool.false_ne_true
  | _ => cases y <;> exact absurd (show false = true from hs) Bool.false_ne_true
theorem op_ne : OpR X (compareOp .NotEq) rNe := by
  intro pins s σ H x y v u Q I rx ry h
  obtain ⟨hs, q⟩ := h
  cases x with
  | non =>
    cases rx
    cases y with
    | non => cases ry; exact PySem.EqNone.ne_none_none (fin_bl I q (by simp))
    | bl j => cases ry; exact PySem.EqNone.ne_none_bool (fin_bl I q (by simp))
    | int j => obtain ⟨t', rfl⟩ := ry; exact PySem.EqNone.ne_none_int (fin_bl I q (by simp))
    | str j => obtain ⟨t', rfl⟩ := ry; exact PySem.EqNone.ne_none_str (fin_bl I q (by simp))
    | _ => exact absurd (show false = true from hs) Bool.false_ne_true
  | bl i =>
    cases rx
    cases y with
    | non => cases ry; exact PySem.EqNone.ne_bool_none (fin_bl I q (by simp))
    | bl j => cases ry; exact ne_bool (fin_bl I q (congrArg not dec_bl))
    | str j => obtain ⟨t', rfl⟩ := ry; exact PySem.EqMixed.ne_bool_str (fin_bl I q (by simp))
    | _ => exact absurd (show false = true from hs) Bool.false_ne_true
  | int i =>
    obtain ⟨t, rfl⟩ := rx
    cases y with
    | non => cases ry; exact PySem.EqNone.ne_int_none (fin_bl I q (by simp))
    | int j => obtain ⟨t', rfl⟩ := ry; exact ne_int (fin_bl I q (congrArg not dec_int))
    | str j => obtain ⟨t', rfl⟩ := ry; exact PySem.EqMixed.ne_int_str (fin_bl I q (by simp))
    | _ => exact absurd (show false = true from hs) Bool.false_ne_true
  | str i =>
    obtain ⟨t, rfl⟩ := rx
    cases y with
    | non => cases ry; exact PySem.EqNone.ne_str_none (fin_bl I q (by simp))
    | bl j => cases ry; exact PySem.EqMixed.ne_str_bool (fin_bl I q (by simp))
    | int j => obtain ⟨t', rfl⟩ := ry; exact PySem.EqMixed.ne_str_int (fin_bl I q (by simp))
    | str j => obtain ⟨t', rfl⟩ := ry; exact ne_str (fin_bl I q (congrArg not dec_str))
    | _ => exact absurd (show false = true from hs) Bool.false_ne_true
  | byt i =>
    obtain ⟨t, rfl⟩ := rx
    cases y with
    | byt j => obtain ⟨t', rfl⟩ := ry; exact PySem.W.ne_bytes (fin_bl I q (congrArg not dec_byt))
    | _ => exact absurd (show false = true from hs) Bool.false_ne_true
  | _ => cases y <;> exact absurd (show false = true from hs) Bool.false_ne_true

theorem op_lt : OpR X (compareOp .Lt) (rI0 fun i j => .bl (decide (i < j))) := opB0 fun _ _ _ _ _ _ _ q => lt_int q
theorem op_le : OpR X (compareOp .LtE) (rI0 fun i j => .bl (decide (i ≤ j))) := opB0 fun _ _ _ _ _ _ _ q => le_int q
theorem op_gt : OpR X (compareOp .Gt) (rI0 fun i j => .bl (decide (j < i))) := opB0 fun _ _ _ _ _ _ _ q => gt_int q
theorem op_ge : OpR X (compareOp .GtE) (rI0 fun i j => .bl (decide (j ≤ i))) := opB0 fun _ _ _ _ _ _ _ q => ge_int q
/-- is, is not of two objects that are tracked lists or instances -/
def isObj : HO → Bool
  | .lst _ => true
  | .ins _ _ _ => true
  | _ => false
theorem nomark (b : Expr) {op : CmpOp} (h : op ≠ .In := by decide) (h2 : op ≠ .NotIn := by decide) : behindInMarks op b = false := by
  have e1 : (op == CmpOp.In) = false := by cases op <;> first | rfl | exact absurd rfl h
  have e2 : (op == CmpOp.NotIn) = false := by cases op <;> first | rfl | exact absurd rfl h2
  cases b <;> simp [behindInMarks, e1, e2]
/-- a comparison as a value; hm: nomark b, or (for in, not in) by with_unfolding_all rfl -/
theorem pe_cmpR {op : CmpOp} {r : R2} (ho : OpR X (compareOp op) r) (ha : PE X a ta) (hb : PE X b tb) (hm : behindInMarks op b = false) : PE X (.Compare a [op] [b] pos) (tOp r ta tb) := by
  intro pins s σ H Q I h
  exact wpAny_Compare1 (binT ha hb I h fun v u s2 x y H2 I2 rx ry q => ho pins s2 σ H2 x y v u Q I2 rx ry q) hm
/-- a reading of a value as a test -/
def tTest (t : TE) : TT := fun σ H Q => t σ H fun x H' => ∃ k, x = .bl k ∧ Q k H'
theorem pt_cmpR {op : CmpOp} {r : R2} (ho : OpR X (compareOp op) r) (ha : PE X a ta) (hb : PE X b tb) (hm : behindInMarks op b = false) : PT X (.Compare a [op] [b] pos) (tTest (tOp r ta tb)) := by
  intro pins s σ H Q I h
  refine wpAny_isTrue_Compare1 (thn (ha pins s σ H _ I h) fun v s1 ⟨x, H1, I1, r1, q1⟩ => thn (hb pins s1 σ H1 _ I1 q1) fun u s2 ⟨y, H2, I2, r2, q2⟩ =>
    thn (ho pins s2 σ H2 x y v u _ I2 r1 r2 q2) fun c s3 ⟨z, H3, I3, r3, k, e, q3⟩ => ?_) hm
  subst e
  cases r3
  exact wpAny_truthy_bool ⟨H3, I3, q3⟩
/-- a op1 b op2 c -/
def tChain (r r' : R2) (ta tb tc : TE) : TE := fun σ H Q => ta σ H fun x H1 => tb σ H1 fun y H2 => r x y H2 fun z H3 => ∃ k, z = .bl k ∧
  (if k = true then tc σ H3 fun w' H4 => r' y w' H4 Q else Q (.bl false) H3)
theorem pe_chain {op op' : CmpOp} {r r' : R2} (ho : OpR X (compareOp op) r) (ho' : OpR X (compareOp op') r') (ha : PE X a ta) (hb : PE X b tb) (hc : PE X c tc)
    (hm : lastMarks [op, op'] [b, c] = false := by with_unfolding_all rfl) : PE X (.Compare a [op, op'] [b, c] pos) (tChain r r' ta tb tc) := by
  intro pins s σ H Q I h
  refine Compare_chain (thn (ha pins s σ H _ I h) fun v s1 ⟨x, H1, I1, r1, q1⟩ => chain_link (thn (hb pins s1 σ H1 _ I1 q1) fun u s2 ⟨y, H2, I2, r2, q2⟩ =>
    thn (ho pins s2 σ H2 x y v u _ I2 r1 r2 q2) fun d s3 ⟨z, H3, I3, r3, k, e, q3⟩ => ?_)) hm
  subst e
  cases r3
  refine wpAny_truthy_bool ?_
  cases k with
  | false => exact ite_ff ⟨.bl false, H3, I3, rfl, q3⟩
  | true => exact ite_tt (chain_last (thn (hc pins s3 σ H3 _ I3 q3) fun w' s4 ⟨z', H4, I4, r4, q4⟩ => ho' pins s4 σ H4 y z' u w' Q I4 r2 r4 q4))
theorem pt_chain {op op' : CmpOp} {r r' : R2} (ho : OpR X (compareOp op) r) (ho' : OpR X (compareOp op') r') (ha : PE X a ta) (hb : PE X b tb) (hc : PE X c tc)
    (hm : lastMarks [op, op'] [b, c] = false := by with_unfolding_all rfl) : PT X (.Compare a [op, op'] [b, c] pos) (tTest (tChain r r' ta tb tc)) := by
  intro pins s σ H Q I h
  refine isTrue_chain (thn (ha pins s σ H _ I h) fun v s1 ⟨x, H1, I1, r1, q1⟩ => test_link (thn (hb pins s1 σ H1 _ I1 q1) fun u s2 ⟨y, H2, I2, r2, q2⟩ =>
    thn (ho pins s2 σ H2 x y v u _ I2 r1 r2 q2) fun d s3 ⟨z, H3, I3, r3, k, e, q3⟩ => ?_)) hm
  subst e
  cases r3
  refine wpAny_truthy_bool ?_
  cases k with
  | false =>
    obtain ⟨k', e', q'⟩ := q3
    cases e'
    exact ite_ff ⟨H3, I3, q'⟩
  | true =>
    refine ite_tt (test_last (thn (hc pins s3 σ H3 _ I3 q3) fun w' s4 ⟨z', H4, I4, r4, q4⟩ => thn (ho' pins s4 σ H4 y z' u w' _ I4 r2 r4 q4) fun d' s5 ⟨z2, H5, I5, r5, k2, e2, q5⟩ => ?_))
    subst e2
    cases r5
    exact wpAny_truthy_bool ⟨H5, I5, q5⟩

/-! ### truth -/
/-- a value's truth by the abstract heap -/
def TruV (K : PySem.W.Frag) (x : V) (H : Hp) (k : Bool) : Prop :=
  match x with
  | .non => k = false
  | .bl b => k = b
  | .int i => k = (i != 0)
  | .str y => y.length ≤ sizeLine ∧ k = ((y.length : Int) != 0)
  | .byt y => y.size ≤ sizeLine ∧ k = ((y.size : Int) != 0)
  | .ref p => (∃ xs, SqL K H p xs ∧ k = !xs.isEmpty) ∨ (∃ xs, SqT K H p xs ∧ k = !xs.isEmpty) ∨ ∃ kvs, H p = some (.dK kvs) ∧ k = !kvs.isEmpty
  | _ => False
theorem line63 : (sizeLine : Nat) < 2 ^ 63 := by rw [sizeLine_eq]; decide
/-! ### strs and bytes -/
def PlainIxT (b : Expr) : Prop := ∀ o i, subscripted b false o i = operate [o, i] (getItem o i)
/-! ### scalar builtins, by CallR -/
theorem vals1 {x : V} {us : List Value} (r : Vals [x] us) : ∃ u, us = [u] ∧ RelV x u := by
  cases r with
  | cons r1 r2 => cases r2; exact ⟨_, rfl, r1⟩
theorem vals2 {x y : V} {us : List Value} (r : Vals [x, y] us) : ∃ u w', us = [u, w'] ∧ RelV x u ∧ RelV y w' := by
  cases r with
  | cons r1 r2 =>
    cases r2 with
    | cons r3 r4 => cases r4; exact ⟨_, _, rfl, r1, r3⟩
theorem call_abs : CallR X (.builtin "abs") (fun xs H Q => ∃ i, xs = [.int i] ∧ Q (.int (if i < 0 then -i else i)) H) := by
  intro pins s σ H xs us Q I r h
  obtain ⟨i, rfl, q⟩ := h
  obtain ⟨u, rfl, t, rfl⟩ := vals1 r
  exact call_abs_int fun u tk => ⟨.int (if i < 0 then -i else i), H, I.tok _, ⟨_, rfl⟩, q⟩
theorem call_max2 (hc : X.calm = true) : CallR X (.builtin "max") (fun xs H Q => ∃ i j, xs = [.int i, .int j] ∧ Q (.int (if j > i then j else i)) H) := by
  intro pins s σ H xs us Q I r h
  obtain ⟨i, j, rfl, q⟩ := h
  obtain ⟨u, w', rfl, ⟨t, rfl⟩, ⟨t', rfl⟩⟩ := vals2 r
  refine max_two_ints (I.ok.hd hc) fun h' tk k => ⟨_, H, I.kept k, ?_, q⟩
  by_cases hj : j > i
  · rw [if_pos hj, if_pos hj]; exact ⟨_, rfl⟩
  · rw [if_neg hj, if_neg hj]; exact ⟨_, rfl⟩
theorem call_min2 (hc : X.calm = true) : CallR X (.builtin "min") (fun xs H Q => ∃ i j, xs = [.int i, .int j] ∧ Q (.int (if j < i then j else i)) H) := by
  intro pins s σ H xs us Q I r h
  obtain ⟨i, j, rfl, q⟩ := h
  obtain ⟨u, w', rfl, ⟨t, rfl⟩, ⟨t', rfl⟩⟩ := vals2 r
  refine min_two_ints (I.ok.hd hc) fun h' tk k => ⟨_, H, I.kept k, ?_, q⟩
  by_cases hj : j < i
  · rw [if_pos hj, if_pos hj]; exact ⟨_, rfl⟩
  · rw [if_neg hj, if_neg hj]; exact ⟨_, rfl⟩
theorem call_int1 : CallR X (.type "int") (fun xs H Q => (∃ i, xs = [.int i] ∧ Q (.int i) H) ∨ ∃ k, xs = [.bl k] ∧ Q (.int (if k then 1 else 0)) H) := by
  intro pins s σ H xs us Q I r h
  rcases h with ⟨i, rfl, q⟩ | ⟨k, rfl, q⟩
  · obtain ⟨u, rfl, t, rfl⟩ := vals1 r
    exact call_int_int ⟨.int i, H, I, ⟨_, rfl⟩, q⟩
  · obtain ⟨u, rfl, r1⟩ := vals1 r
    cases r1
    exact call_int_bool ⟨.int (if k then 1 else 0), H, I.tok _, ⟨_, rfl⟩, q⟩
/-- len of a str, a bytes, a list, a tuple -/
def LenV (K : PySem.W.Frag) (x : V) (H : Hp) (n : Nat) : Prop :=
  match x with
  | .str y => y.length ≤ sizeLine ∧ n = y.length
  | .byt y => y.size ≤ sizeLine ∧ n = y.size
  | .ref p => (∃ xs, SqL K H p xs ∧ n = xs.length) ∨ ∃ xs, SqT K H p xs ∧ n = xs.length
  | _ => False
end
end L2

namespace L2
open PySem PySem.Spec PyProof.Rows

/-! ### an instance, its attributes a map -/
structure ObjM (h : Heap) (x dx C : Addr) (mA : Str → Option Value) : Prop where
  obj : h.get? x = some (PySem.W.instObj C dx)
  ns : h.Ns1 dx mA
  ne : dx ≠ x

theorem lookIn_ns {h : Heap} {dx : Addr} {mA : Str → Option Value} (n : h.Ns1 dx mA) : ∃ od, h.get? dx = some od ∧ ∀ name, PySem.W.lookIn name od = some (mA name) := by
  obtain ⟨o, es, ep, ho, hd, hk, _, hm⟩ := n
  refine ⟨o, ho, fun name => ?_⟩
  have e := hm name
  unfold nsFind findBy at e
  rw [← Array.find?_toList] at e
  unfold PySem.W.lookIn
  rw [hd]
  dsimp only
  split
  · rename_i y q
    rw [q] at e
    exact congrArg some e
  · rename_i q
    rw [q] at e
    have a : es.toList.any (·.refKey) = false := by
      rw [List.any_eq_false]
      intro y hy
      obtain ⟨z, t, hkey⟩ := hk y (Array.mem_toList_iff.mp hy)
      simp [DictEntry.refKey, hkey]
    have a' : ¬ es.toList.any (·.refKey) = true := by rw [a]; exact Bool.false_ne_true
    rw [if_neg a']
    exact congrArg some e

theorem ObjM.look {h : Heap} {x dx C : Addr} {mA : Str → Option Value} (I : ObjM h x dx C mA) : ∃ od, PySem.W.InstAt h x (PySem.W.instObj C dx) C (some od) ∧ ∀ name, PySem.W.lookIn name od = some (mA name) :=
  let ⟨od, ho, hl⟩ := lookIn_ns I.ns
  ⟨od, ⟨I.obj, rfl, rfl, ho⟩, hl⟩

section
variable {prog : Program} {w : World} {A : Around} {E : Value → Shared → Prop} {s : Shared} {K : PySem.W.Frag} {x dx C f : Addr} {mA : Str → Option Value} {name : Str} {v : Value}

end

/-! ### the attributes as a list of pairs -/
def putF (f : Str) (v : V) : List (Str × V) → List (Str × V)
  | [] => [(f, v)]
  | (g, x) :: r => if g = f then (g, v) :: r else (g, x) :: putF f v r
theorem RelO.some_of {v : V} {o : Option Value} (r : RelO (some v) o) : ∃ u, o = some u ∧ RelV v u := by
  cases o with
  | none => exact (show False from r).elim
  | some u => exact ⟨u, rfl, r⟩
section
variable {P : Program} {w : World} {H H' : Hp} {h h' : Heap} {a C dx : Addr} {fs fs' : List (Str × V)}
theorem ins_get (hok : HOk P w H h) (e : H a = some (.ins C dx fs)) : ∃ mA, ObjM h a dx C mA ∧ (∀ f, RelO (fs.lookup f) (mA f)) ∧ PySem.Within mA (fs.map (·.1)) ∧ fs.length ≤ 1000 ∧ H dx = some (.own a) := by
  obtain ⟨d, z, ne, ob, mA, n, r, q⟩ := (show ObjOk P w H h a (.ins C dx fs) from hok a _ e)
  exact ⟨mA, ⟨ob, n, ne⟩, r, q, z, d⟩
end

/-! ### what of the text a class must have -/
structure Cls (K : PySem.W.Frag) (C : Addr) : Prop where
  pg : PySem.W.plainGet K C Str.empty = true
  hd : PySem.W.hasDictIn K C = true
  po : PySem.W.plainOver K C = true
  sa : PySem.W.findIn K (.ref C) "__setattr__" = some (some (.builtin "object.__setattr__"))
theorem Cls.get {K : PySem.W.Frag} {C : Addr} (c : Cls K C) (f : Str) : PySem.W.plainGet K C f = true := c.pg
/-- no class of it has the name -/
def NoAttr (K : PySem.W.Frag) (C : Addr) (f : Str) : Prop := PySem.W.findIn K (.ref C) f = some none
/-- a constant of the class -/
structure Con (K : PySem.W.Frag) (C : Addr) (f : Str) (v : V) (u : Value) : Prop where
  at_ : PySem.W.findIn K (.ref C) f = some (some u)
  rel : RelV v u
  get : PySem.W.specialIn K u "__get__" = some none
  cp : PySem.W.copiedNames.contains f = false
/-- a method: a plain def of the class or of one above it -/
structure Meth (K : PySem.W.Frag) (C : Addr) (m : Str) (f : Addr) : Prop where
  at_ : PySem.W.findIn K (.ref C) m = some (some (.ref f))
  fn : PySem.W.isFn K (.ref f) = true
  kp : PySem.W.keepIn K (.ref f) = true

section
variable {X : Cx} {pins : List (Addr × Obj)} {σ : St} {H : Hp} {s : Shared} {a C dx : Addr} {fs : List (Str × V)} {f : Str} {v : V} {A : Around} {E : Value → Shared → Prop}

end

/-! ### readings and rules -/
/-- e.f, an attribute of the instance -/
def tFld (K : PySem.W.Frag) (ta : TE) (f : Str) : TE := fun σ H Q => ta σ H fun x H1 => ∃ a C dx fs v, x = .ref a ∧ H1 a = some (.ins C dx fs) ∧ Cls K C ∧ NoAttr K C f ∧ fs.lookup f = some v ∧ Q v H1
/-- e.f, a constant of the class -/
def tCon (K : PySem.W.Frag) (ta : TE) (f : Str) : TE := fun σ H Q => ta σ H fun x H1 => ∃ a C dx fs v u, x = .ref a ∧ H1 a = some (.ins C dx fs) ∧ Cls K C ∧ Con K C f v u ∧ fs.lookup f = none ∧ Q v H1
/-- e.f = value -/
def sFld (K : PySem.W.Frag) (ta tv : TE) (f : Str) : TS := fun D σ H => tv σ H fun y H1 => ta σ H1 fun x H2 => ∃ a C dx fs, x = .ref a ∧ H2 a = some (.ins C dx fs) ∧ Cls K C ∧ NoAttr K C f ∧ fs.length < 1000 ∧
  D.nx σ (upd H2 a (.ins C dx (putF f y fs)))
/-- an augmented operator on two values -/
def InOp (X : Cx) (op : Operator) (rd : V → V → Hp → VK → Prop) : Prop :=
  ∀ (pins : List (Addr × Obj)) (s : Shared) (σ : St) (H : Hp) (x y : V) (u v : Value) (Q : VK), Inv X pins σ H s → RelV x u → RelV y v → rd x y H Q → wpAny (model X.prog X.w) X.A (inplaceOp op u v) (EP X pins σ Q) X.xe s
/-- e.f op= value -/
def sFldAug (K : PySem.W.Frag) (ta tv : TE) (rd : V → V → Hp → VK → Prop) (f : Str) : TS := fun D σ H => ta σ H fun x H1 => ∃ a C dx fs v, x = .ref a ∧ H1 a = some (.ins C dx fs) ∧ Cls K C ∧ NoAttr K C f ∧ fs.lookup f = some v ∧
  tv σ H1 fun y H2 => rd v y H2 fun z H3 => ∃ dx' fs', H3 a = some (.ins C dx' fs') ∧ fs'.length < 1000 ∧ D.nx σ (upd H3 a (.ins C dx' (putF f z fs')))

section
variable {X : Cx} {o e value : Expr} {f : Str} {pos pos' tpos : Pos} {ta tv : TE}
def rAdd : V → V → Hp → VK → Prop := fun x y H Q => ∃ i j, x = .int i ∧ y = .int j ∧ Q (.int (i + j)) H
def rSub : V → V → Hp → VK → Prop := fun x y H Q => ∃ i j, x = .int i ∧ y = .int j ∧ Q (.int (i - j)) H
end

/-! ### isinstance -/
section
variable {X : Cx} {pins : List (Addr × Obj)} {σ : St} {H : Hp} {s : Shared} {A : Around} {E : Value → Shared → Prop} {Q : Value → Shared → Prop} {c : Value} {b : Bool}
/-- the type of a value, as the fragment's deciders take it; for an instance its class -/
inductive TyOf (K : PySem.W.Frag) (H : Hp) : V → Value → Prop where
  | non : TyOf K H .non (.type "NoneType")
  | bl (x : Bool) : TyOf K H (.bl x) (.type "bool")
  | int (i : Int) : TyOf K H (.int i) (.type "int")
  | str (x : Str) : TyOf K H (.str x) (.type "str")
  | flt (x : UInt64) : TyOf K H (.flt x) (.type "float")
  | lst {a : Addr} {xs : List V} (e : H a = some (.lst xs)) : TyOf K H (.ref a) (.type "list")
  | frz {a : Addr} {o : Obj} {xs : List V} (e : H a = some (.frz o (.lst xs))) : TyOf K H (.ref a) (.type "list")
  | tup {a : Addr} {xs : List V} (e : H a = some (.tup xs)) : TyOf K H (.ref a) (.type "tuple")
  | dK {a : Addr} {kvs : List (Key × V)} (e : H a = some (.dK kvs)) : TyOf K H (.ref a) (.type "dict")
  | dT {a : Addr} {kvs : List (List Key × V)} (e : H a = some (.dT kvs)) : TyOf K H (.ref a) (.type "dict")
  | ins {a C dx : Addr} {fs : List (Str × V)} (e : H a = some (.ins C dx fs)) (cl : Cls K C) (ha : PySem.W.findIn K (.ref C) "__class__" = some (some (.builtin "object.__class__")))
      (hn : PySem.W.specialIn K (.builtin "object.__class__") "__get__" = some (some (.builtin "getset_descriptor.__get__"))) (htk : PySem.W.takesIn K (.builtin "object.__class__") = some true)
      (hm : PySem.W.mroIn K C (.type "object") = some true) : TyOf K H (.ref a) (.ref C)
/-- isinstance(x, c) for one class c, a built-in or an own one: kitOne's answer -/
theorem isinst_ok {x : V} {u t : Value} (I : Inv X pins σ H s) (rx : RelV x u) (ty : TyOf X.K H x t) (e : PySem.W.kitOne X.K t c = some b) (h : ∀ tk, Q (.bool b) { s with toks := tk }) :
    wpAny (model X.prog X.w) A (call (.builtin "isinstance") [u, c]) Q E s := by
  cases ty with
  | non => cases (show u = Value.none from rx); exact PySem.W.kia_one PySem.W.kitx_none I.kIn True.intro e (fun z => nomatch z) h
  | bl y => cases (show u = Value.bool y from rx); exact PySem.W.kia_one PySem.W.kitx_bool I.kIn True.intro e (fun z => nomatch z) h
  | int i => obtain ⟨t, q⟩ := (show ∃ t, u = Value.int i t from rx); cases q; exact PySem.W.kia_one PySem.W.kitx_int I.kIn True.intro e (fun z => nomatch z) h
  | str y => obtain ⟨t, q⟩ := (show ∃ t, u = Value.str y t from rx); cases q; exact PySem.W.kia_one PySem.W.kitx_str I.kIn True.intro e (fun z => nomatch z) h
  | flt y => obtain ⟨t, q⟩ := (show ∃ t, u = Value.float y t from rx); cases q; exact PySem.W.kia_one PySem.W.kitx_float I.kIn True.intro e (fun z => nomatch z) h
  | @lst a xs ea =>
    cases (show u = Value.ref a from rx)
    obtain ⟨_, _, n, _, h1⟩ := (show ObjOk X.prog X.w H s.heap a (.lst xs) from I.hok a _ ea)
    exact PySem.W.kia_one PySem.W.kitx_list I.kIn ⟨_, h1, rfl⟩ e (fun z => nomatch z) h
  | @frz a ob xs ea =>
    cases (show u = Value.ref a from rx)
    obtain ⟨_, _, _, n, _, h1⟩ := (show ObjOk X.prog X.w H s.heap a (.frz ob (.lst xs)) from I.hok a _ ea)
    exact PySem.W.kia_one PySem.W.kitx_list I.kIn ⟨_, h1, rfl⟩ e (fun z => nomatch z) h
  | @tup a xs ea =>
    cases (show u = Value.ref a from rx)
    obtain ⟨_, _, _, p⟩ := (show ObjOk X.prog X.w H s.heap a (.tup xs) from I.hok a _ ea)
    obtain ⟨o, h1, h2, _⟩ := p
    exact PySem.W.kia_one PySem.W.kitx_tuple I.kIn ⟨o, h1, h2⟩ e (fun z => nomatch z) h
  | @dK a kvs ea =>
    cases (show u = Value.ref a from rx)
    obtain ⟨_, _, vs, _, p⟩ := (show ObjOk X.prog X.w H s.heap a (.dK kvs) from I.hok a _ ea)
    obtain ⟨o, es, ep, h1, h2, _⟩ := p
    exact PySem.W.kia_one PySem.W.kitx_dict I.kIn ⟨o, h1, h2.1⟩ e (fun z => nomatch z) h
  | @dT a kvs ea =>
    cases (show u = Value.ref a from rx)
    obtain ⟨_, _, xs, _, o, es, ep, h1, h2, _⟩ := (show ObjOk X.prog X.w H s.heap a (.dT kvs) from I.hok a _ ea)
    exact PySem.W.kia_one PySem.W.kitx_dict I.kIn ⟨o, h1, h2.1⟩ e (fun z => nomatch z) h
  | @ins a C dx fs ea cl ha hn htk hm =>
    cases (show u = Value.ref a from rx)
    obtain ⟨mA, O, _⟩ := ins_get I.hok ea
    obtain ⟨od, J, _⟩ := O.look
    exact PySem.W.kia_one (PySem.W.kitx_own (cl.get _) cl.hd ha hn htk hm) I.kIn J e (fun z => nomatch z) h
end
end L2

namespace L2
open PySem PySem.Spec PyProof.Rows

/-! ### room -/
structure Room (k : Nat) (A : Around) : Prop where
  hd : A.handled = none
  dp : A.depth + 3 * k + 5 < recursionLimit
  un : A.units + 16 * k + 200 < cLine
theorem Room.mono {j k : Nat} {A : Around} (r : Room k A) (h : j ≤ k) : Room j A := ⟨r.hd, by have := r.dp; omega, by have := r.un; omega⟩
theorem Room.deeper {k : Nat} {A : Around} (r : Room (k + 1) A) (env : Env) : Room k (A.deeper env) :=
  ⟨r.hd, by have := r.dp; show A.depth + 1 + 3 * k + 5 < _; omega, by have := r.un; show A.units + 3 + 16 * k + 200 < _; omega⟩
theorem Room.depth {k : Nat} {A : Around} (r : Room k A) : A.depth < recursionLimit := by have := r.dp; omega
theorem Room.units {k : Nat} {A : Around} (r : Room k A) : A.units + 64 < cLine := by have := r.un; omega
/-! ### argument lists and displays -/
def tNil : TA := fun _ H Q => Q [] H
def tCons (ta : TE) (tr : TA) : TA := fun σ H Q => ta σ H fun x H1 => tr σ H1 fun xs H2 => Q (x :: xs) H2
section
variable {X : Cx} {e : Expr} {es : List Expr} {te : TE} {t : TA} {pos : Pos}
theorem pa_nil : PA X [] tNil := fun _ _ _ _ H Q I h => Calls.spliced_nil ⟨[], H, I, .nil, h⟩
theorem pa_cons (ha : PE X e te) (hr : PA X es t) (hs : starEach (e :: es) X.env = (false, eval e X.env) :: starEach es X.env := by rfl) : PA X (e :: es) (tCons te t) := by
  intro pos pins s σ H Q I h
  rw [hs]
  show wpAny _ _ (spliced ((false, eval e X.env) :: backTo pos (starEach es X.env))) _ _ s
  refine Calls.spliced_cons (thn (ha pins s σ H _ I h) fun u s1 ⟨x, H1, I1, r1, q1⟩ => ?_)
  exact thn (hr pos pins s1 σ H1 _ I1 q1) fun us s2 ⟨xs, H2, I2, r2, q2⟩ => ⟨x :: xs, H2, I2, .cons r1 r2, q2⟩

/-- a tuple, a list of written items -/
def tTup (t : TA) : TE := fun σ H Q => t σ H fun xs H1 => xs.length ≤ sizeLine ∧ ∀ p, H1 p = none → Q (.ref p) (upd H1 p (.tup xs))
def tLst (t : TA) : TE := fun σ H Q => t σ H fun xs H1 => xs.length ≤ sizeLine ∧ ∀ p, H1 p = none → Q (.ref p) (upd H1 p (.lst xs))
theorem pe_tup {x1} (h : PA X es t) : PE X (.Tuple es x1 pos) (tTup t) := by
  intro pins s σ H Q I hq
  refine wpAny_Tuple_spliced (thn (h pos pins s σ H _ I hq) fun us s1 ⟨xs, H1, I1, r, z, q⟩ => ⟨by rw [← r.length]; exact z, ?_⟩)
  have hf : H1 s1.heap.objs.size = none := I1.hok.fresh (Nat.le_refl _)
  refine ⟨.ref s1.heap.objs.size, upd H1 s1.heap.objs.size (.tup xs), I1.laid (t' := s1.toks) (fun b u e => Heap.get?_push_of_some _ e) (Nat.le_refl _) ?_, rfl, q _ hf⟩
  exact ⟨z, us, r, ⟨_, Heap.get?_push_size _ rfl, rfl, _, rfl⟩⟩
theorem pe_lst (h : PA X es t) : PE X (.List es pos) (tLst t) := by
  intro pins s σ H Q I hq
  refine wpAny_List_spliced (thn (h pos pins s σ H _ I hq) fun us s1 ⟨xs, H1, I1, r, z, q⟩ => ⟨by rw [← r.length]; exact z, ?_⟩)
  have hf : H1 s1.heap.objs.size = none := I1.hok.fresh (Nat.le_refl _)
  refine ⟨.ref s1.heap.objs.size, upd H1 s1.heap.objs.size (.lst xs), I1.laid (t' := s1.toks) (fun b u e => Heap.get?_push_of_some _ e) (Nat.le_refl _) ?_, rfl, q _ hf⟩
  exact ⟨z, us, 0, r, Heap.get?_push_size _ rfl⟩
end

/-! ### what a def promises -/
/-- a def's promise: the bound arguments in the parameters' order, the heap, the wanted end, the wanted exception -/
abbrev Sp := List V → Hp → VK → XK → Prop
/-- how an exception lies behind a call (file 08 gives it): the callers' frames, abstract heap and state ahead of the call, the wish, the exception, the state -/
abbrev CXT := List Env → Hp → Shared → XK → Value → Shared → Prop

/-- the state at a call -/
structure Env0 (P : Program) (w : World) (K : PySem.W.Frag) (mg : Str → Option Value) (base : Heap) (A : Around) (outer : List Env) (s : Shared) (H : Hp) : Prop where
  frames : A.frames = some outer
  mod : Mod K mg base
  bs : ∀ b o, base.get? b = some o → s.heap.get? b = some o ∧ H b = none
  bsz : base.objs.size ≤ s.heap.objs.size
  funs : s.heap.FunFrames base outer
  frf : ∀ b ∈ frs outer, H b = none
  hok : HOk P w H s.heap
  bare : AllBare s.gens
/-- a call's end -/
def CE (outer : List Env) (P : Program) (w : World) (H : Hp) (s : Shared) (Q : VK) (u : Value) (s' : Shared) : Prop :=
  ∃ v H', s'.os = s.os ∧ AllBare s'.gens ∧ Un (frs outer) [] H H' s.heap s'.heap ∧ HOk P w H' s'.heap ∧ RelV v u ∧ Q v H'
def CR (CX : CXT) (outer : List Env) (P : Program) (w : World) (H : Hp) (s : Shared) (Q : VK) (E : XK) (r : Result) (s' : Shared) : Prop :=
  match r with
  | .ok (.ret u) => CE outer P w H s Q u s'
  | .ok _ => False
  | .error e => CX outer H s E e s'
structure FnOk (P : Program) (w : World) (K : PySem.W.Frag) (mg : Str → Option Value) (base : Heap) (CX : CXT) (k : Nat) (f : Addr) (fd : FuncData) (ps : List Str) (sp : Sp) : Prop where
  len : ∀ vs H Q E, sp vs H Q E → vs.length = ps.length
  run : ∀ (A : Around) (outer : List Env) (s : Shared) (H : Hp) (args : Args) (us : List Value) (vs : List V) (Q : VK) (E : XK), Room k A → Env0 P w K mg base A outer s H → BindsTo s fd args (ps.zip us) → Vals vs us → sp vs H Q E →
    codeAny (model P w) A (.call (.ref f) args) (CR CX outer P w H s Q E) s
section
variable {X : Cx} {pins : List (Addr × Obj)} {σ : St} {H : Hp} {s s' : Shared}
/-- from a body: what a callee wants -/
theorem Inv.env0 (I : Inv X pins σ H s) : Env0 X.prog X.w X.K X.mg X.base X.A X.stack s H :=
  ⟨I.ok.frames, I.ok.mod, I.bs, Nat.le_trans I.ok.bsz I.sz, I.stack, I.stkFree, I.hok, I.bare⟩
/-- behind a call -/
theorem Inv.after {Q : VK} {u : Value} (I : Inv X pins σ H s) (h : CE X.stack X.prog X.w H s Q u s') : EP X pins σ Q u s' := by
  obtain ⟨v, H', os, bare, un, hok, r, q⟩ := h
  obtain ⟨hh, g, d, t, os'⟩ := s'
  obtain rfl : os' = s.os := os
  exact ⟨v, H', I.call (h' := hh) (g' := g) (d' := d) (t' := t) (ch := []) un hok bare (fun b z => absurd z (by simp)), r, q⟩
end

/-! ### calls -/
/-- f(..): the written arguments, then the defaults dvs; E: what is wanted of an exception -/
def tCall (sp : Sp) (dvs : List V) (E : XK) (t : TA) : TE := fun σ H Q => t σ H fun vs H1 => sp (vs ++ dvs) H1 Q E
/-- o.m(..) of an instance of the class at C -/
def tMeth (C : Addr) (m : Str) (sp : Sp) (dvs : List V) (E : XK) (ta : TE) (t : TA) : TE := fun σ H Q => ta σ H fun x H1 => ∃ a dx fs, x = .ref a ∧ H1 a = some (.ins C dx fs) ∧ fs.lookup m = none ∧
  t σ H1 fun vs H2 => sp (x :: (vs ++ dvs)) H2 Q E
/-- C(..): a new instance and its dict, then __init__ -/
def tMake (C : Addr) (sp : Sp) (dvs : List V) (E : XK) (t : TA) : TE := fun σ H Q => t σ H fun vs H1 => ∀ x dx, H1 x = none → H1 dx = none → dx ≠ x →
  sp (.ref x :: (vs ++ dvs)) (upd (upd H1 dx (.own x)) x (.ins C dx [])) (fun v H2 => v = .non ∧ Q (.ref x) H2) E

/-- how the parameters are bound: us the positional arguments, kw the keywords' values by name, ds the defaults that fill up -/
def Binds (K : PySem.W.Frag) (fd : FuncData) (ps : List Str) (ds : List Value) : Prop :=
  ∀ (s : Shared) (us : List Value), K.In s.heap → (us ++ ds).length = ps.length → BindsTo s fd ⟨us, []⟩ (ps.zip (us ++ ds))
/-- every parameter is given -/
theorem Binds.all {K : PySem.W.Frag} {fd : FuncData} {ps : List Str} (h : ∀ us : List Value, us.length = ps.length → bindArgs fd ⟨us, []⟩ = pure (ps.zip us)) : Binds K fd ps [] := fun s us _ hl => by
  rw [List.append_nil] at hl ⊢
  exact .of_eq (h us hl)

/-- an exception of a callee reaches what this body wants of exceptions -/
def Passes (CX : CXT) (X : Cx) (E : XK) : Prop := ∀ (pins : List (Addr × Obj)) (σ : St) (H : Hp) (s : Shared) (e : Value) (s' : Shared), Inv X pins σ H s → CX X.stack H s E e s' → X.xe e s'

section
variable {X : Cx} {CX : CXT} {k : Nat} {f C : Addr} {fd : FuncData} {ps : List Str} {sp : Sp} {dvs : List V} {ds : List Value} {E : XK} {x m : Str} {p pos apos : Pos} {e o : Expr} {es : List Expr} {ta : TE} {t : TA}

/-- the callee runs -/
theorem run_fn {pins : List (Addr × Obj)} {σ : St} {H : Hp} {s : Shared} {Q : VK} {us : List Value} {vs : List V} (F : FnOk X.prog X.w X.K X.mg X.base CX k f fd ps sp) (hr : Room k X.A) (hb : Binds X.K fd ps ds) (hd : Vals dvs ds) (hx : Passes CX X E)
    (I : Inv X pins σ H s) (r : Vals vs us) (h : sp (vs ++ dvs) H Q E) : wpAny (model X.prog X.w) X.A (call (.ref f) us) (EP X pins σ Q) X.xe s := by
  have r2 : Vals (vs ++ dvs) (us ++ ds) := r.append hd
  have hl : (us ++ ds).length = ps.length := by rw [← r2.length]; exact F.len _ _ _ _ h
  refine wpAny_call (codeAny_mono (F.run X.A X.stack s H ⟨us, []⟩ (us ++ ds) (vs ++ dvs) Q E hr I.env0 (hb s us I.kIn hl) r2 h) fun r s' hq => ?_)
  cases r with
  | error e => exact hx pins σ H s e s' I hq
  | ok fl =>
    cases fl with
    | ret u => exact I.after hq
    | next => exact False.elim hq
    | brk => exact False.elim hq
    | cont => exact False.elim hq

theorem pe_call (F : FnOk X.prog X.w X.K X.mg X.base CX k f fd ps sp) (hr : Room k X.A) (hg : Gl X x) (hm : X.mg x = some (.ref f)) (hk : PySem.W.keepIn X.K (.ref f) = true) (hb : Binds X.K fd ps ds) (hd : Vals dvs ds) (hx : Passes CX X E)
    (ha : PA X (e :: es) t) (hdb : (x == ("__debug__" : Str)) = false := by decide) (he : starEach (e :: es) X.env = (false, eval e X.env) :: starEach es X.env := by rfl) (hpl : (backTo pos (starEach es X.env)).any (·.1) = false := by rfl) :
    PE X (.Call (.Name x p) (e :: es) [] pos) (tCall sp dvs E t) := by
  intro pins s σ H Q I h
  refine wpAny_Call_Name_kw (ld_glob I hg hm ?_ hdb)
  refine PySem.W.callWith_K (h₀ := X.base) I.ok.mod.kin hk (thn (ha pos pins s σ H _ I h) fun us s1 ⟨vs, H1, I1, r, q⟩ => ⟨I1.kIn, ?_⟩) he hpl
  exact run_fn F hr hb hd hx I1 r q
/-- what a class must have to be made -/
structure Mk (K : PySem.W.Frag) (C f : Addr) : Prop where
  makes : PySem.W.makesIn K C = true
  init : PySem.W.findIn K (.ref C) "__init__" = some (some (.ref f))
  fn : PySem.W.isFn K (.ref f) = true
  kp : PySem.W.keepIn K (.ref C) = true

end

/-! ### keywords -/
/-- the values of the keywords, from the left -/
def PK (X : Cx) (kws : List Keyword) (t : TA) : Prop :=
  ∀ (pos : Pos) (pins : List (Addr × Obj)) (s : Shared) (σ : St) (H : Hp) (Q : List V → Hp → Prop), Inv X pins σ H s → t σ H Q → wpAny (model X.prog X.w) X.A (evalAll ((backToKw pos (keywordEach kws X.env)).map (·.2))) (AP X pins σ Q) X.xe s
section
variable {X : Cx} {CX : CXT} {k : Nat} {f C : Addr} {fd : FuncData} {ps ks : List Str} {sp : Sp} {E : XK} {x m : Str} {p pos apos kpos : Pos} {e o : Expr} {es : List Expr} {kws : List Keyword} {te ta : TE} {t tk : TA} {nm : Option Str}
/-- how a call with keywords binds: g puts the positional values us and the keywords' values ws (names ks) in the parameters' order, defaults among them -/
structure KBinds (K : PySem.W.Frag) (fd : FuncData) (ps ks : List Str) (g : List Value → List Value → List Value) (gV : List V → List V → List V) : Prop where
  to : ∀ (s : Shared) (us ws : List Value), K.In s.heap → (g us ws).length = ps.length → BindsTo s fd ⟨us, ks.zip ws⟩ (ps.zip (g us ws))
  rel : ∀ {vs : List V} {us : List Value} {zs : List V} {ws : List Value}, Vals vs us → Vals zs ws → Vals (gV vs zs) (g us ws)
def tCallK (sp : Sp) (gV : List V → List V → List V) (E : XK) (t tk : TA) : TE := fun σ H Q => t σ H fun vs H1 => tk σ H1 fun zs H2 => sp (gV vs zs) H2 Q E
variable {g : List Value → List Value → List Value} {gV : List V → List V → List V}
end

/-! ### a def's body keeps its promise -/
/-- names: the parameters first -/
structure FnScope (N P : List Str) (sc : Scope) : Prop where
  kind : sc.kind = .function
  co : sc.isCoroutine = false
  gen : sc.isGenerator = false
  nd : N.Nodup
  pre : N.take P.length = P
  par : ∀ x ∈ P, sc.names.lookup x = some .local ∨ sc.names.lookup x = some .cell
  nofree : ∀ y ∈ sc.names, y.2 ≠ .free

theorem bindL_out {kindOf : Str → Option NameKind} {x : Str} : ∀ {binds : List (Str × Value)} {m : Str → Option Value}, (∀ v, (x, v) ∉ binds) → bindL kindOf binds m x = m x
  | [], _, _ => rfl
  | (n, v) :: r, m, h => by
    unfold bindL
    rw [bindL_out fun w hw => h w (List.mem_cons_of_mem _ hw)]
    split
    · have : x ≠ n := by rintro rfl; exact h v List.mem_cons_self
      simp [this]
    · rfl
theorem bindC_out {kindOf : Str → Option NameKind} {x : Str} : ∀ {binds : List (Str × Value)} {m : Str → Option Value}, (∀ v, (x, v) ∉ binds) → bindC kindOf binds m x = m x
  | [], _, _ => rfl
  | (n, v) :: r, m, h => by
    unfold bindC
    rw [bindC_out fun w hw => h w (List.mem_cons_of_mem _ hw)]
    split
    · rfl
    · have : x ≠ n := by rintro rfl; exact h v List.mem_cons_self
      simp [this]
theorem bindL_get {kindOf : Str → Option NameKind} {x : Str} {v : Value} : ∀ {P : List Str} {vs : List Value} {i : Nat} {m : Str → Option Value}, P.Nodup → P[i]? = some x → vs[i]? = some v → kindOf x = some .local →
    bindL kindOf (P.zip vs) m x = some v
  | [], _, _, _, _, h, _, _ => by simp at h
  | _ :: _, [], _, _, _, _, h, _ => by simp at h
  | p :: P, w :: vs, 0, m, nd, h1, h2, hk => by
    simp at h1 h2; subst h1; subst h2
    show bindL kindOf ((p, w) :: P.zip vs) m p = _
    unfold bindL
    rw [bindL_out fun v hv => (List.nodup_cons.mp nd).1 (List.of_mem_zip hv).1, if_pos hk]
    simp
  | p :: P, w :: vs, i + 1, m, nd, h1, h2, hk => by
    show bindL kindOf ((p, w) :: P.zip vs) m x = _
    unfold bindL
    exact bindL_get (i := i) (List.nodup_cons.mp nd).2 (by simpa using h1) (by simpa using h2) hk
theorem bindC_get {kindOf : Str → Option NameKind} {x : Str} {v : Value} : ∀ {P : List Str} {vs : List Value} {i : Nat} {m : Str → Option Value}, P.Nodup → P[i]? = some x → vs[i]? = some v → kindOf x ≠ some .local →
    bindC kindOf (P.zip vs) m x = some v
  | [], _, _, _, _, h, _, _ => by simp at h
  | _ :: _, [], _, _, _, _, h, _ => by simp at h
  | p :: P, w :: vs, 0, m, nd, h1, h2, hk => by
    simp at h1 h2; subst h1; subst h2
    show bindC kindOf ((p, w) :: P.zip vs) m p = _
    unfold bindC
    rw [bindC_out fun v hv => (List.nodup_cons.mp nd).1 (List.of_mem_zip hv).1, if_neg hk]
    simp
  | p :: P, w :: vs, i + 1, m, nd, h1, h2, hk => by
    show bindC kindOf ((p, w) :: P.zip vs) m x = _
    unfold bindC
    exact bindC_get (i := i) (List.nodup_cons.mp nd).2 (by simpa using h1) (by simpa using h2) hk

/-- the names' values at the entry -/
def start (N : List Str) (vs : List V) : St := vs.map some ++ List.replicate (N.length - vs.length) none

/-- the context of a def's body, at its entry; an exception leaves the frame, then lies as CX says -/
def cxOf (CX : CXT) (P : Program) (w : World) (K : PySem.W.Frag) (mg : Str → Option Value) (base : Heap) (N : List Str) (qual : Str) (scope : Scope) (f : Addr) (cd : Value) (A : Around) (outer : List Env) (s : Shared) (H : Hp) (E : XK) : Cx where
  prog := P
  w := w
  K := K
  mg := mg
  base := base
  A := A.deeper (envOfC qual scope s.heap.objs.size f cd)
  N := N
  s_0 := s
  H_0 := H
  env := envOfC qual scope s.heap.objs.size f cd
  outer := outer
  stack := envOfC qual scope s.heap.objs.size f cd :: outer
  ex := []
  calm := true
  fn := fun _ => true
  pn := []
  xe := fun e s' => wpAny (model P w) (A.deeper (envOfC qual scope s.heap.objs.size f cd)) (leaving (envOfC qual scope s.heap.objs.size f cd) e) (fun _ s'' => CX outer H s E e s'') (fun e' s'' => CX outer H s E e' s'') s'

theorem cell_has {sc : Scope} {n : Nat} {x : Str} (h : sc.names.lookup x = some .cell) : ∃ c, (cellsFrom n sc.names []).lookup x = some c := by
  have q := PySem.W.cellsFrom_some sc.names n [] (.inl h)
  exact Option.isSome_iff_exists.mp q

theorem inv_start {CX : CXT} {P : Program} {w : World} {K : PySem.W.Frag} {mg : Str → Option Value} {base : Heap} {N ps : List Str} {qual : Str} {scope : Scope} {f : Addr} {cd : Value} {A : Around} {outer : List Env} {s s1 : Shared} {H : Hp} {E : XK} {us : List Value} {vs : List V}
    (S : FnScope N ps scope) (hd : A.handled = none) (e0 : Env0 P w K mg base A outer s H) (hl : vs.length = ps.length) (r : Vals vs us)
    (x : InCallC s s.heap.objs.size (bindL (envOfC qual scope s.heap.objs.size f cd).kindOf (ps.zip us) fun _ => none) (cellsFrom (s.heap.objs.size + 1) scope.names []) (bindC (envOfC qual scope s.heap.objs.size f cd).kindOf (ps.zip us) fun _ => none) s1) :
    Inv (cxOf CX P w K mg base N qual scope f cd A outer s H E) [] (start N vs) H s1 := by
  have hpl : ps.length ≤ N.length := by have := congrArg List.length S.pre; rw [List.length_take] at this; omega
  obtain ⟨h1, tk, rfl, hk⟩ := x.done
  have noA : ∀ b : Addr, b ∉ (cxOf CX P w K mg base N qual scope f cd A outer s H E).ex := fun b z => absurd (show b ∈ ([] : List Addr) from z) (by simp)
  refine ⟨⟨e0.mod, S.kind, rfl, rfl, Nat.le_refl _, fun y z c h1 h2 => ?_, fun y hy => ?_, fun y c _ h => ?_, fun _ => hd, Around.frames_deeper e0.frames, .inr ⟨rfl, rfl⟩, fun b z => absurd z (noA b), e0.bs, e0.bsz, fun b _ _ => noA b, fun b z => absurd z (noA b), e0.funs, e0.frf⟩,
    rfl, e0.bare, Un.kept hk, ⟨_, x.toInCall.ns, fun i y v h1 h2 h3 => ?_⟩, fun y c h => ⟨_, x.cell y c h⟩, e0.hok.fresh (Nat.le_refl _), fun y c h => ?_, fun p hp => absurd (show p ∈ ([] : List (Addr × Obj)) from hp) (by simp), e0.hok.kept hk, ?_⟩
  · exact name_of_addr x.apart (PySem.mem_of_lookup h1) (PySem.mem_of_lookup h2)
  · have hy : scope.names.lookup y = some .cell ∨ scope.names.lookup y = some .free := hy
    rcases hy with hy | hy
    · exact cell_has hy
    · exact absurd rfl (S.nofree _ (PySem.mem_of_lookup hy))
  · exact Nat.le_of_lt (x.above y c (PySem.mem_of_lookup h))
  · have hi : i < vs.length := by
      unfold start at h2
      by_cases hi : i < vs.length
      · exact hi
      · rw [List.getElem?_append_right (by simpa using hi)] at h2
        rw [List.getElem?_replicate] at h2
        split at h2 <;> cases h2
    have ha : vs[i]? = some v := by
      unfold start at h2
      rw [List.getElem?_append_left (by simpa using hi), List.getElem?_map] at h2
      cases e : vs[i]? with
      | none => rw [e] at h2; cases h2
      | some a => rw [e] at h2; cases h2; rfl
    obtain ⟨u, hu, rv⟩ := r.get ha
    have hp : ps[i]? = some y := by
      rw [← S.pre, List.getElem?_take_of_lt (by omega)]; exact h1
    have ndP : ps.Nodup := by rw [← S.pre]; exact S.nd.sublist (List.take_sublist _ _)
    refine ⟨u, rv, ?_⟩
    rcases S.par y (List.mem_of_getElem? hp) with k | k
    · exact .inl ⟨k, bindL_get ndP hp hu k⟩
    · obtain ⟨c, e⟩ := cell_has (n := s.heap.objs.size + 1) k
      refine .inr ⟨.inl k, c, e, ?_⟩
      have q := x.cell y c e
      rw [bindC_get ndP hp hu (by show scope.names.lookup y ≠ _; rw [k]; decide)] at q
      exact q
  · exact e0.hok.fresh (Nat.le_of_lt (x.above y c (PySem.mem_of_lookup h)))
  · unfold start
    show _ = N.length
    rw [List.length_append, List.length_map, List.length_replicate]
    omega

/-- THE RULE: a def (or a method) of the text, by its body. The body's reading t is chosen for each entry; it is run at the parameters' values -/
theorem fn_of {CX : CXT} {P : Program} {w : World} {K : PySem.W.Frag} {mg : Str → Option Value} {base : Heap} {k : Nat} {f : Addr} {name qual : Str} {params : Arguments} {body : List Stmt} {scope : Scope} {dV kV doc pm cdv ct oc : Value} {an od : Option Addr}
    {osl : Array (Option Value)} {N ps : List Str} {sp : Sp} (lk : K.lookup f = some ⟨oc, od, .func (PySem.W.fnOf name qual params body scope dV kV doc pm an cdv ct), osl⟩) (hcd : PySem.W.codeIn K cdv qual = true) (S : FnScope N ps scope)
    (len : ∀ vs H Q E, sp vs H Q E → vs.length = ps.length)
    (hbody : ∀ (A : Around) (outer : List Env) (s : Shared) (H : Hp) (vs : List V) (Q : VK) (E : XK), Room k (A.deeper (envOfC qual scope s.heap.objs.size f cdv)) → sp vs H Q E →
      ∃ t, PSs (cxOf CX P w K mg base N qual scope f cdv A outer s H E) body t ∧ t { nx := fun _ H' => Q .non H', rt := Q } (start N vs) H) :
    FnOk P w K mg base CX (k + 1) f (PySem.W.fnOf name qual params body scope dV kV doc pm an cdv ct) ps sp := by
  refine ⟨len, fun A outer s H args us vs Q E hr e0 hb r hsp => ?_⟩
  have hl := len _ _ _ _ hsp
  have KX : K.In s.heap := e0.mod.kin.keeps fun b o e => (e0.bs b o e).1
  have lim : s.heap.NoLimit := e0.mod.nolimit.keeps fun b o e => (e0.bs b o e).1
  have hkind : ∀ y ∈ ps.zip us, scope.names.lookup y.1 = some .local ∨ (scope.names.lookup y.1 = some .cell ∧ ((cellsFrom (s.heap.objs.size + 1) scope.names []).lookup y.1).isSome = true) := fun ⟨n, v⟩ hy => by
    rcases S.par n (List.of_mem_zip hy).1 with q | q
    · exact .inl q
    · exact .inr ⟨q, PySem.W.cellsFrom_some _ _ _ (.inl q)⟩
  refine codeAny_call_function hr.depth (KX _ _ lk) rfl S.co S.gen rfl (PySem.W.codeRec_of KX hcd) (hb _ _ _ _ ?_)
  refine wpAny_newFunctionEnv_cells S.kind hkind fun env he s1 x => ?_
  subst he
  refine ⟨lim.keeps x.toInCall.keep, codeAny_func ?_⟩
  obtain ⟨t, ht, hq⟩ := hbody A outer s H vs Q E (hr.deeper _) hsp
  have I : Inv (cxOf CX P w K mg base N qual scope f cdv A outer s H E) [] (start N vs) H s1 := inv_start S hr.hd e0 hl r x
  refine wpAny_mono (ht [] s1 (start N vs) H _ I hq) (fun fl s' hs => ?_) fun e s' hs => hs
  have fin : ∀ {σ' : St} {H' : Hp} {v : V} {u : Value}, Inv (cxOf CX P w K mg base N qual scope f cdv A outer s H E) [] σ' H' s' → RelV v u → Q v H' → CE outer P w H s Q u s' :=
    fun {σ' H' v u} J rv q => ⟨v, H', J.os, J.bare, J.base, J.hok, rv, q⟩
  cases fl with
  | ret u =>
    obtain ⟨v, σ', H', J, rv, q⟩ := hs
    exact fin J rv q
  | next =>
    obtain ⟨σ', H', J, q⟩ := hs
    exact fin (v := V.non) (u := Value.none) J rfl q
  | brk =>
    obtain ⟨_, _, _, q⟩ := hs
    exact False.elim q
  | cont =>
    obtain ⟨_, _, _, q⟩ := hs
    exact False.elim q
end L2

namespace L2
open PySem PySem.Spec PyProof.Rows
section
variable {X : Cx} {x : Str} {p pos : Pos} {e : Expr} {es : List Expr} {t : TA} {id T : String} {r : List V → Hp → VK → Prop}

def tCB (r : List V → Hp → VK → Prop) (t : TA) : TE := fun σ H Q => t σ H fun vs H1 => r vs H1 Q
/-- f(e, ..), f a built-in function -/
theorem pe_callB (hc : CallR X (.builtin id) r) (hg : Gl X x) (hm : X.mg x = none) (hv : bootBuiltins x = some (.builtin id)) (ha : PA X (e :: es) t) (hn : x ≠ "__name__" := by decide) (hdb : (x == ("__debug__" : Str)) = false := by decide)
    (he : starEach (e :: es) X.env = (false, eval e X.env) :: starEach es X.env := by rfl) (hpl : (backTo pos (starEach es X.env)).any (·.1) = false := by rfl) : PE X (.Call (.Name x p) (e :: es) [] pos) (tCB r t) := by
  intro pins s σ H Q I h
  refine wpAny_Call_Name_kw (ld_blt I hg hm hv ?_ hn hdb)
  exact PyProof.Rows.callWith_builtin1 (thn (ha pos pins s σ H _ I h) fun us s1 ⟨vs, H1, I1, r1, q1⟩ => hc pins s1 σ H1 vs us Q I1 r1 q1) he hpl
/-- T(e, ..), T a built-in type -/
theorem pe_callTy (hc : CallR X (.type T) r) (hg : Gl X x) (hm : X.mg x = none) (hv : bootBuiltins x = some (.type T)) (ha : PA X (e :: es) t) (hn : x ≠ "__name__" := by decide) (hdb : (x == ("__debug__" : Str)) = false := by decide)
    (he : starEach (e :: es) X.env = (false, eval e X.env) :: starEach es X.env := by rfl) (hpl : (backTo pos (starEach es X.env)).any (·.1) = false := by rfl) : PE X (.Call (.Name x p) (e :: es) [] pos) (tCB r t) := by
  intro pins s σ H Q I h
  refine wpAny_Call_Name_kw (ld_blt I hg hm hv ?_ hn hdb)
  exact PyProof.Rows.callWith_type1 (thn (ha pos pins s σ H _ I h) fun us s1 ⟨vs, H1, I1, r1, q1⟩ => hc pins s1 σ H1 vs us Q I1 r1 q1) he hpl
end
end L2

namespace HT
open PySem PyProof.Rows

/-- t < u of tuples of ints -/
def lexLt : List Int → List Int → Bool
  | [], [] => false
  | [], _ :: _ => true
  | _ :: _, [] => false
  | x :: xs, y :: ys => if x = y then lexLt xs ys else decide (x < y)
section
open PySem.SeqAt
open PySem.AutoSeq1 (wpAny_loadPart')
open PySem.MeetsSeq PySem.MeetsSeq2 PySem.MeetsSeq3

end

section
variable {prog : Program} {w : World} {A : Around} {E : Value → Shared → Prop} {s : Shared}

/-! ### t[a:b], not the whole -/
/-- a slice's bound as a place among n (d where it is left out) -/
def sIx (n d : Nat) : Option Int → Nat
  | none => d
  | some v => if v < 0 then (v + (n : Int)).toNat else min v.toNat n
end
end HT

namespace L2
open PySem PySem.Spec PyProof.Rows

/-! ### the parts of a slice -/
abbrev TO := St → Hp → (Option Int → Hp → Prop) → Prop
/-- a slice's part (left out, or an int) -/
def PO (X : Cx) (e : Option Expr) (t : TO) : Prop :=
  ∀ (pins : List (Addr × Obj)) (s : Shared) (σ : St) (H : Hp) (Q : Option Int → Hp → Prop), Inv X pins σ H s → t σ H Q →
    wpAny (model X.prog X.w) X.A (evalPart e X.env) (fun u s' => ∃ o H', Inv X pins σ H' s' ∧ IsPart u o ∧ Q o H') X.xe s
def tNoPart : TO := fun _ H Q => Q none H
def tPart (t : TE) : TO := fun σ H Q => t σ H fun x H1 => ∃ i, x = .int i ∧ Q (some i) H1

section
variable {X : Cx} {e : Expr} {te : TE} {lo hi : Option Expr} {tl th : TO} {pos p2 : Pos}

theorem po_none : PO X none tNoPart := by
  intro pins s σ H Q I h
  rw [evalPart_none]
  exact wpAny_pure ⟨none, H, I, .none, h⟩
theorem po_some (h : PE X e te) : PO X (some e) (tPart te) := by
  intro pins s σ H Q I hw
  rw [evalPart_some]
  refine thn (h pins s σ H _ I hw) fun u s1 ⟨x, H1, I1, r1, q1⟩ => ?_
  obtain ⟨i, rfl, q⟩ := q1
  obtain ⟨t, rfl⟩ := r1
  exact ⟨some i, H1, I1, .int i t, q⟩

/-- what a slice of a value is, by values: the slice object stands at sl -/
def SlR (X : Cx) (r : V → Option Int → Option Int → Hp → VK → Prop) : Prop :=
  ∀ (pins : List (Addr × Obj)) (s : Shared) (σ : St) (H : Hp) (x : V) (v vl vu : Value) (lo hi : Option Int) (sl : Addr) (Q : VK), Inv X pins σ H s → RelV x v → s.heap.IsSliceOf sl vl vu .none → IsPart vl lo → IsPart vu hi → r x lo hi H Q →
    ∃ T id, typeLookup (.type T) "__getitem__" = pure (some (.builtin id)) ∧ s.TypeIs v T ∧ wpAny (model X.prog X.w) X.A (getItem v (.ref sl)) (EP X pins σ Q) X.xe s
def tSl (r : V → Option Int → Option Int → Hp → VK → Prop) (te : TE) (tl th : TO) : TE := fun σ H Q => te σ H fun x H1 => tl σ H1 fun l H2 => th σ H2 fun u H3 => r x l u H3 Q
/-- the items of xs[lo:hi] -/
def cutV (xs : List V) (lo hi : Option Int) : List V := (xs.drop (HT.sIx xs.length 0 lo)).take (HT.sIx xs.length xs.length hi - HT.sIx xs.length 0 lo)
theorem cutV_length (xs : List V) (lo hi : Option Int) : (cutV xs lo hi).length ≤ xs.length := by
  unfold cutV
  rw [List.length_take, List.length_drop]
  omega
/-- t[lo:hi], not the whole of it (the whole would be t itself) -/
def rSlT (K : PySem.W.Frag) : V → Option Int → Option Int → Hp → VK → Prop := fun x lo hi H Q => ∃ a xs, x = .ref a ∧ SqT K H a xs ∧
  ¬ (HT.sIx xs.length 0 lo = 0 ∧ HT.sIx xs.length xs.length hi = xs.length) ∧ ∀ p, H p = none → Q (.ref p) (upd H p (.tup (cutV xs lo hi)))
/-! ### t < u, t + u -/
def rLtT (K : PySem.W.Frag) : R2 := fun x y H Q => ∃ a b ns ms, x = .ref a ∧ y = .ref b ∧ SqT K H a (ns.map V.int) ∧ SqT K H b (ms.map V.int) ∧ Q (.bl (HT.lexLt ns ms)) H
/-- t + u, t not empty: u empty gives t itself -/
def rCatT (K : PySem.W.Frag) : R2 := fun x y H Q => ∃ a b xs ys, x = .ref a ∧ y = .ref b ∧ SqT K H a xs ∧ SqT K H b ys ∧ xs ≠ [] ∧ xs.length + ys.length ≤ sizeLine ∧
  (ys = [] → Q (.ref a) H) ∧ (ys ≠ [] → ∀ p, H p = none → Q (.ref p) (upd H p (.tup (xs ++ ys))))
end
end L2

namespace L2
open PySem PySem.Spec PyProof.Rows

/-! ### places -/
/-- the place that an index of any sign means -/
def ixN (n : Nat) (i : Int) : Option Nat := if 0 ≤ i then (if i < n then some i.toNat else none) else if -(n : Int) ≤ i then some (i + n).toNat else none
def atI {α : Type} (xs : List α) (i : Int) : Option α := (ixN xs.length i).bind fun j => xs[j]?
theorem ixN_seq {n : Nat} {i : Int} {j : Nat} (h : ixN n i = some j) : seqIndex? i n = some j ∧ j < n ∧ -(n : Int) ≤ i ∧ i < n := by
  unfold ixN at h
  by_cases h0 : 0 ≤ i
  · rw [if_pos h0] at h
    by_cases h1 : i < n
    · rw [if_pos h1] at h
      have e : i.toNat = j := Option.some.inj h
      exact ⟨by rw [seqIndex_of h0 h1, e], by omega, by omega, h1⟩
    · rw [if_neg h1] at h; cases h
  · rw [if_neg h0] at h
    by_cases h1 : -(n : Int) ≤ i
    · rw [if_pos h1] at h
      have e : (i + n).toNat = j := Option.some.inj h
      exact ⟨by rw [seqIndex_neg (by omega) h1, e], by omega, h1, by omega⟩
    · rw [if_neg h1] at h; cases h
theorem atI_get {α : Type} {xs : List α} {i : Int} {v : α} (h : atI xs i = some v) : ∃ j, seqIndex? i xs.length = some j ∧ xs[j]? = some v ∧ j < xs.length ∧ -(xs.length : Int) ≤ i ∧ i < xs.length := by
  unfold atI at h
  cases e : ixN xs.length i with
  | none => rw [e] at h; cases h
  | some j =>
    rw [e] at h
    obtain ⟨h1, h2, h3, h4⟩ := ixN_seq e
    exact ⟨j, h1, h, h2, h3, h4⟩
theorem atI_nat {α : Type} {xs : List α} {j : Nat} {v : α} (h : xs[j]? = some v) : atI xs (j : Int) = some v := by
  have hj : j < xs.length := (List.getElem?_eq_some_iff.mp h).1
  have e : ixN xs.length (j : Int) = some j := by
    unfold ixN
    rw [if_pos (by omega), if_pos (by omega)]; simp
  unfold atI; rw [e]; exact h
theorem atI_last {α : Type} (xs : List α) (v : α) : atI (xs ++ [v]) (-1) = some v := by
  have hl : (xs ++ [v]).length = xs.length + 1 := by simp
  have e : ixN (xs ++ [v]).length (-1) = some xs.length := by
    unfold ixN
    rw [hl, if_neg (by decide), if_pos (by omega)]
    congr 1
    omega
  unfold atI
  rw [e]
  show (xs ++ [v])[xs.length]? = some v
  simp

/-! ### what may be subscripted -/
/-- what stands as an index of a plain subscript -/
def PlainIx (b : Expr) : Prop := ∀ o i, subscripted b false o i = operate [o, i] (getItem o i)
/-- a subscript by values -/
def IxR (X : Cx) (r : R2) : Prop :=
  ∀ (value slice : Expr) (pins : List (Addr × Obj)) (s : Shared) (σ : St) (H : Hp) (x y : V) (v u : Value) (Q : VK), Inv X pins σ H s → RelV x v → RelV y u → r x y H Q →
    subscripted slice false v u = operate [v, u] (getItem v u) → wpAny (model X.prog X.w) X.A (subscriptTail value slice v u) (EP X pins σ Q) X.xe s
/-- a call of a builtin's method by values: the receiver, the arguments -/
def MtR (X : Cx) (id : String) (r : V → List V → Hp → VK → Prop) : Prop :=
  ∀ (pins : List (Addr × Obj)) (s : Shared) (σ : St) (H : Hp) (x : V) (xs : List V) (v : Value) (us : List Value) (Q : VK), Inv X pins σ H s → RelV x v → Vals xs us → r x xs H Q →
    wpAny (model X.prog X.w) X.A (call (.builtin id) (v :: us)) (EP X pins σ Q) X.xe s
section
variable {X : Cx} {a b : Expr} {ta tb : TE} {pos : Pos}
/-- a[b] -/
theorem pe_ix {r : R2} (hr : IxR X r) (ha : PE X a ta) (hb : PE X b tb) (hs : PlainIx b) : PE X (.Subscript a b pos) (tOp r ta tb) := by
  intro pins s σ H Q I h
  exact Subscript_ (binT ha hb I h fun v u s2 x y H2 I2 rx ry q => hr a b pins s2 σ H2 x y v u Q I2 rx ry q (hs _ _))

def rIxL (K : PySem.W.Frag) : R2 := fun x y H Q => ∃ p xs i v, x = .ref p ∧ y = .int i ∧ SqL K H p xs ∧ atI xs i = some v ∧ Q v H
def rIxT (K : PySem.W.Frag) : R2 := fun x y H Q => ∃ p xs i v, x = .ref p ∧ y = .int i ∧ SqT K H p xs ∧ atI xs i = some v ∧ Q v H
def rIxS : R2 := fun x y H Q => ∃ z i c, x = .str z ∧ y = .int i ∧ z.length ≤ sizeLine ∧ atI z.cps.toList i = some c ∧ Q (.str ⟨#[c]⟩) H
theorem ix_list : IxR X (rIxL X.K) := by
  intro value slice pins s σ H x y v u Q I rx ry h hs
  obtain ⟨p, xs, i, z, rfl, rfl, hq, he, q⟩ := h
  cases rx
  obtain ⟨t, rfl⟩ := ry
  obtain ⟨its, r, pl, hz⟩ := I.list hq
  obtain ⟨j, h1, h2, h3, h4, h5⟩ := atI_get he
  obtain ⟨w, ew, rw'⟩ := r.get h2
  have hl := r.length
  have hn := line63
  have fin : EP X pins σ Q w s := ⟨z, H, I, rw', q⟩
  by_cases h0 : 0 ≤ i
  · have hj : i.toNat = j := by
      rw [seqIndex_of h0 h5] at h1
      exact Option.some.inj h1
    exact item_listR pl.isList h0 (by omega) (by rw [hj]; simpa using ew) fin hs
  · have hj : (i + (its.toArray.size : Int)).toNat = j := by
      rw [seqIndex_neg (by omega) h4] at h1
      rw [List.size_toArray, ← hl]
      exact Option.some.inj h1
    exact subscriptTail_builtinR (x := w) pl.isList.typeIs slot_list_getitem.lookup
      (wpAny_getItem_list_neg (Q := fun r s' => r = w ∧ EP X pins σ Q r s') pl.isList (by omega) (by rw [List.size_toArray] <;> omega) (by omega) (by rw [hj]; simpa using ew) ⟨rfl, fin⟩) hs
theorem ix_tup : IxR X (rIxT X.K) := by
  intro value slice pins s σ H x y v u Q I rx ry h hs
  obtain ⟨p, xs, i, z, rfl, rfl, hq, he, q⟩ := h
  cases rx
  obtain ⟨t, rfl⟩ := ry
  obtain ⟨its, r, pl, hz⟩ := I.tuple hq
  obtain ⟨j, h1, h2, h3, h4, h5⟩ := atI_get he
  obtain ⟨w, ew, rw'⟩ := r.get h2
  have hl := r.length
  have hn := line63
  have fin : EP X pins σ Q w s := ⟨z, H, I, rw', q⟩
  exact subscriptTail_builtinR (x := w) pl.typeIs slot_tuple_getitem.lookup
    (getItem_tuple (j := j) (Q := fun r s' => r = w ∧ EP X pins σ Q r s') pl (by omega) (by omega) (by rw [List.size_toArray, ← hl]; exact h1) (by simpa using ew) ⟨rfl, fin⟩) hs
theorem ix_str : IxR X rIxS := by
  intro value slice pins s σ H x y v u Q I rx ry h hs
  obtain ⟨z, i, c, rfl, rfl, hz, he, q⟩ := h
  obtain ⟨t, rfl⟩ := rx
  obtain ⟨t', rfl⟩ := ry
  obtain ⟨j, h1, h2, h3, h4, h5⟩ := atI_get he
  have hl : z.cps.toList.length = z.length := by simp [Str.length]
  rw [hl] at h1 h4 h5
  have hn := line63
  exact tail_any (typeIs_str s z t) slot_str_getitem.lookup (getItem_str (c := c) (by
    have e1 : decide (i < -(2 ^ 63 : Int)) = false := decide_eq_false (by omega)
    have e2 : decide (i ≥ 2 ^ 63) = false := decide_eq_false (by omega)
    rw [e1, e2, Bool.or_false]) (by rw [h1]; simpa using h2) ⟨.str ⟨#[c]⟩, H, I.tok _, ⟨_, rfl⟩, q⟩) hs
/-- list, tuple or str -/
def rIx (K : PySem.W.Frag) : R2 := fun x y H Q => rIxL K x y H Q ∨ rIxT K x y H Q ∨ rIxS x y H Q
/-! ### xs[i] = v, any sign -/
/-- the list's object behind a store -/
theorem mapSeq_set (its : List Value) (n j : Nat) (u : Value) : Obj.mapSeq (·.setIfInBounds j u) { cls := .type "list", data := .seq its.toArray n } = { cls := .type "list", data := .seq (its.set j u).toArray n } := by
  simp [Obj.mapSeq]
theorem Inv.lst {pins : List (Addr × Obj)} {σ : St} {H : Hp} {s : Shared} {p : Addr} {xs : List V} (I : Inv X pins σ H s) (h : H p = some (.lst xs)) :
    ∃ (its : List Value) (n : Nat), Vals xs its ∧ s.heap.get? p = some { cls := .type "list", data := .seq its.toArray n } ∧ xs.length ≤ sizeLine := by
  obtain ⟨z, its, n, r, e⟩ := I.hok p _ h
  exact ⟨its, n, r, e, z⟩
/-- the list at p is written by an update of its object -/
theorem Inv.lstUpd {pins : List (Addr × Obj)} {σ : St} {H : Hp} {s : Shared} {p : Addr} {xs ys : List V} {its its' : List Value} {n n' : Nat} {f : Obj → Obj} (I : Inv X pins σ H s) (h : H p = some (.lst xs))
    (ho : s.heap.get? p = some { cls := .type "list", data := .seq its.toArray n }) (hf : f { cls := .type "list", data := .seq its.toArray n } = { cls := .type "list", data := .seq its'.toArray n' }) (r : Vals ys its') (hz : ys.length ≤ sizeLine) (t : Nat) :
    Inv X pins σ (upd H p (.lst ys)) { s with heap := s.heap.update p f, toks := t } := by
  have e : (s.heap.update p f).get? p = some { cls := .type "list", data := .seq its'.toArray n' } := by
    rw [Heap.get?_update_self f ho (by rw [hf] <;> rfl), hf]
  refine I.write (x := p) (e := p) (by rw [h]; trivial) (.inl rfl) (fun b u hb q => (Heap.get?_update_other _ _ (Ne.symm hb)).trans q) ⟨_, e⟩ ?_
  exact ⟨hz, its', n', r, e⟩
def rSetL : V → V → V → Hp → (Hp → Prop) → Prop := fun o i v H Q => ∃ p xs k j, o = .ref p ∧ i = .int k ∧ H p = some (.lst xs) ∧ ixN xs.length k = some j ∧ Q (upd H p (.lst (xs.set j v)))
theorem set_list : PSet X rSetL := by
  intro pins s σ H o i v ov iv u Q I ro ri rv h
  obtain ⟨p, xs, k, j, rfl, rfl, hp, hj, q⟩ := h
  cases ro
  obtain ⟨t, rfl⟩ := ri
  obtain ⟨its, n, r, ho, hz⟩ := I.lst hp
  obtain ⟨h1, h2, h3, h4⟩ := ixN_seq hj
  have hl := r.length
  have hn := line63
  have I' : Inv X pins σ (upd H p (.lst (xs.set j v))) { s with heap := s.heap.update p (Obj.mapSeq (·.setIfInBounds j u)) } :=
    I.lstUpd hp ho (mapSeq_set its n j u) (r.set rv j) (by rw [List.length_set]; exact hz) s.toks
  by_cases h0 : 0 ≤ k
  · have hk : k.toNat = j := by
      rw [seqIndex_of h0 h4] at h1
      exact Option.some.inj h1
    exact PySem.W.ki_setAt ho h0 (by omega) (by rw [List.size_toArray, ← hl]; exact h4) (by rw [hk]; exact ⟨_, I', q⟩)
  · have hk : (k + (its.toArray.size : Int)).toNat = j := by
      rw [seqIndex_neg (by omega) h3] at h1
      rw [List.size_toArray, ← hl]
      exact Option.some.inj h1
    exact PySem.W.ki_setBack ho (by omega) (by rw [List.size_toArray, ← hl]; exact h3) (by omega) (by rw [hk]; exact ⟨_, I', q⟩)

/-! ### slices -/
theorem slice_bounds (lo hi : Option Int) (n : Nat) : (sliceBounds lo hi none n).1 = ((HT.sIx n 0 lo : Nat) : Int) ∧ (sliceBounds lo hi none n).2.1 = ((HT.sIx n n hi : Nat) : Int) ∧ (sliceBounds lo hi none n).2.2 = 1 := by
  refine ⟨?_, ?_, rfl⟩
  · cases lo with
    | none => simp [sliceBounds, HT.sIx]
    | some i =>
      simp only [sliceBounds, HT.sIx, Option.getD_none, show (1 : Int) > 0 by decide, if_true]
      by_cases h : i < 0
      · simp only [h, if_true] <;> omega
      · simp only [h, if_false] <;> omega
  · cases hi with
    | none => simp [sliceBounds, HT.sIx]
    | some i =>
      simp only [sliceBounds, HT.sIx, Option.getD_none, show (1 : Int) > 0 by decide, if_true]
      by_cases h : i < 0
      · simp only [h, if_true] <;> omega
      · simp only [h, if_false] <;> omega
theorem slicePick_cut (its : List Value) (lo hi : Option Int) : slicePick its.toArray lo hi none = ((its.drop (HT.sIx its.length 0 lo)).take (HT.sIx its.length its.length hi - HT.sIx its.length 0 lo)).toArray := by
  obtain ⟨h1, h2, h3⟩ := slice_bounds lo hi its.toArray.size
  unfold slicePick
  rw [h1, h2, h3]
  simp only [sliceRange_one, pick_run, List.size_toArray] <;> rfl
/-- xs[lo:hi] of a list: a new list -/
def rSlL (K : PySem.W.Frag) : V → Option Int → Option Int → Hp → VK → Prop := fun x lo hi H Q => ∃ a xs, x = .ref a ∧ SqL K H a xs ∧ ∀ p, H p = none → Q (.ref p) (upd H p (.lst (cutV xs lo hi)))
/-! ### in, not in: flat items -/
def flatV : V → Bool
  | .non => true
  | .bl _ => true
  | .int _ => true
  | .str _ => true
  | _ => false
/-- == of flat values -/
def eqV : V → V → Bool
  | .non, .non => true
  | .bl a, .bl b => a == b
  | .bl a, .int b => (if a then 1 else 0) == b
  | .int a, .bl b => a == (if b then 1 else 0)
  | .int a, .int b => a == b
  | .str a, .str b => a == b
  | _, _ => false
/-- the items' answers, read off the values (a value's own answer does not lean on its token) -/
def eqU (x : V) (u : Value) : Bool := match u with
  | .none => eqV .non x
  | .bool b => eqV (.bl b) x
  | .int i _ => eqV (.int i) x
  | .str z _ => eqV (.str z) x
  | _ => false
def inV (x : V) (xs : List V) : Bool := xs.any fun y => eqV y x
/-- x in a list or tuple of flat items -/
def rIn (K : PySem.W.Frag) (neg : Bool) : R2 := fun x y H Q => ∃ p xs, y = .ref p ∧ (SqL K H p xs ∨ SqT K H p xs) ∧ flatV x = true ∧ xs.all flatV = true ∧ Q (.bl (if neg then !inV x xs else inV x xs)) H
/-! ### len, list(x), tuple(x) of any list or tuple that is read -/
theorem call_len_seq : CallR X (.builtin "len") (fun xs H Q => ∃ p ys, xs = [.ref p] ∧ (SqL X.K H p ys ∨ SqT X.K H p ys) ∧ Q (.int ys.length) H) := by
  intro pins s σ H xs us Q I r h
  obtain ⟨p, ys, rfl, hq, q⟩ := h
  obtain ⟨u, rfl, rx⟩ := vals1 r
  cases rx
  have hn := line63
  rcases hq with hq | hq
  · obtain ⟨its, r', pl, hz⟩ := I.list hq
    have hlen := r'.length
    exact Calls.call_len_list pl.isList (by simp only [List.size_toArray] <;> omega) ⟨.int ys.length, H, I.tok _, ⟨s.toks + 1, by rw [List.size_toArray, hlen]⟩, q⟩
  · obtain ⟨its, r', pl, hz⟩ := I.tuple hq
    have hlen := r'.length
    exact len_tuple pl (by simp only [List.size_toArray] <;> omega) ⟨.int ys.length, H, I.tok _, ⟨s.toks + 1, by rw [List.size_toArray, hlen]⟩, q⟩
theorem call_len_str : CallR X (.builtin "len") (fun xs H Q => ∃ z, xs = [.str z] ∧ z.length ≤ sizeLine ∧ Q (.int z.length) H) := by
  intro pins s σ H xs us Q I r h
  obtain ⟨z, rfl, hz, q⟩ := h
  obtain ⟨u, rfl, t, rfl⟩ := vals1 r
  have hn := line63
  exact len_str (by omega) ⟨.int z.length, H, I.tok _, ⟨_, rfl⟩, q⟩
/-! ### the call of a builtin's method: o.m(..) -/
/-- the value is of that builtin type -/
def tyV (K : PySem.W.Frag) (T : String) (x : V) (H : Hp) : Prop := match x with
  | .str _ => T = "str"
  | .int _ => T = "int"
  | .ref p => (T = "list" ∧ ∃ xs, SqL K H p xs) ∨ (T = "tuple" ∧ ∃ o, K.lookup p = some o ∧ o.cls = .type "tuple" ∧ o.dict = none) ∨
      (T = "dict" ∧ ((∃ kvs, H p = some (.dK kvs)) ∨ ∃ kvs, H p = some (.dT kvs))) ∨ (T = "set" ∧ ∃ S n, H p = some (.set S n))
  | _ => False
theorem tyV_is {pins : List (Addr × Obj)} {σ : St} {H : Hp} {s : Shared} {T : String} {x : V} {v : Value} (I : Inv X pins σ H s) (r : RelV x v) (ty : tyV X.K T x H) :
    s.TypeIs v T ∧ ∀ a, v = .ref a → ∃ ob, s.heap.get? a = some ob ∧ ob.dict = none := by
  cases x with
  | str z =>
    obtain ⟨t, rfl⟩ := r
    cases (show T = "str" from ty)
    exact ⟨typeIs_str s z t, fun _ e => nomatch e⟩
  | int i =>
    obtain ⟨t, rfl⟩ := r
    cases (show T = "int" from ty)
    exact ⟨typeIs_int s i t, fun _ e => nomatch e⟩
  | ref p =>
    cases r
    rcases ty with ⟨rfl, xs, hq⟩ | ⟨rfl, o, hk, hc, hd⟩ | ⟨rfl, hk⟩ | ⟨rfl, S, n, hk⟩
    · obtain ⟨its, _, pl, _⟩ := I.list hq
      refine ⟨pl.isList.typeIs, fun a e => ?_⟩
      cases e
      obtain ⟨o, n, e, c, hd, _⟩ := pl
      exact ⟨o, e, hd⟩
    · refine ⟨⟨o, I.kIn p o hk, hc⟩, fun a e => ?_⟩
      cases e
      exact ⟨o, I.kIn _ o hk, hd⟩
    · have z : ∃ o, s.heap.get? p = some o ∧ o.ExactDict := by
        rcases hk with ⟨kvs, hk⟩ | ⟨kvs, hk⟩
        · obtain ⟨_, _, _, _, o, _, _, e, ex, _⟩ := I.hok p _ hk
          exact ⟨o, e, ex⟩
        · obtain ⟨_, _, _, _, o, _, _, e, ex, _⟩ := I.hok p _ hk
          exact ⟨o, e, ex⟩
      obtain ⟨o, e, ex⟩ := z
      refine ⟨⟨o, e, ex.1⟩, fun a e2 => ?_⟩
      cases e2
      exact ⟨o, e, ex.2.1⟩
    · obtain ⟨o, _, _, _, e, ex, _⟩ := I.hok p _ hk
      refine ⟨⟨o, e, ex.1⟩, fun a e2 => ?_⟩
      cases e2
      exact ⟨o, e, ex.2.1⟩
  | _ => exact False.elim ty
def tBM0 (K : PySem.W.Frag) (T : String) (r : V → List V → Hp → VK → Prop) (to : TE) : TE := fun σ H Q => to σ H fun x H1 => tyV K T x H1 ∧ r x [] H1 Q
def tBM (K : PySem.W.Frag) (T : String) (r : V → List V → Hp → VK → Prop) (to : TE) (t : TA) : TE := fun σ H Q => to σ H fun x H1 => tyV K T x H1 ∧ t σ H1 fun xs H2 => r x xs H2 Q
variable {o e : Expr} {es : List Expr} {to : TE} {t : TA} {name : Str} {apos cpos : Pos} {T id : String} {r : V → List V → Hp → VK → Prop}
theorem pe_bm (pa : PlainAttrs T) (slot : Slot T name id) (hty : typeOf (.builtin id) = pure (.type "method_descriptor")) (hm : MtR X id r) (ho : PE X o to) (ha : PA X (e :: es) t)
    (hbase : attributeBase o name X.env (eval o X.env) = eval o X.env := by rfl)
    (hfew : ((backTo cpos (starEach (e :: es) X.env)).all (fun x => !x.1) && (backToKw cpos (keywordEach [] X.env)).all (fun x => x.1.isSome)
      && decide ((e :: es).length + ([] : List Keyword).length + (if ([] : List Keyword).isEmpty then 0 else 1) < 30)) = true := by rfl)
    (hline : (apos.endLine == cpos.line) = true := by rfl) (hs : starEach (e :: es) X.env = (false, eval e X.env) :: starEach es X.env := by rfl) (hplain : (backTo cpos (starEach es X.env)).any (·.1) = false := by rfl) :
    PE X (.Call (.Attribute o name apos) (e :: es) [] cpos) (tBM X.K T r to t) := by
  intro pins s σ H Q I h
  refine wpAny_Call_method_late hbase hfew hline rfl (thn (ho pins s σ H _ I h) fun v s1 ⟨x, H1, I1, r1, ty, q1⟩ => ?_)
  obtain ⟨h1, h2⟩ := tyV_is I1 r1 ty
  refine ⟨T, id, pa, slot, hty, h1, h2, ?_⟩
  have hA := ha cpos pins s1 σ H1 _ I1 q1
  rw [hs] at hA ⊢
  refine Calls.callWith_builtin (by show (false || (backTo cpos (starEach es X.env)).any (·.1)) = false; rw [hplain] <;> rfl) (Calls.evalArgs_plain ?_)
  exact thn hA fun us s2 ⟨vs, H2, I2, r2, q2⟩ => hm pins s2 σ H2 x vs v us Q I2 r1 r2 q2
/- xs.append(e), list.index on a module's tuple .. are MtR facts of 06m -/
end
end L2

namespace L2
open PySem PySem.Spec PyProof.Rows

def MtM (X : Cx) (id : String) (r : V → List V → Hp → VK → Prop) : Prop :=
  ∀ (pins : List (Addr × Obj)) (s : Shared) (σ : St) (H : Hp) (x : V) (xs : List V) (v : Value) (us : List Value) (Q : VK), Inv X pins σ H s → RelV x v → Vals xs us → r x xs H Q →
    wpAny (model X.prog X.w) X.A (call (.builtin id) (v :: us)) (EP X pins σ Q) X.xe s

/-! ### lists of values -/
theorem Vals.one : ∀ {x : V} {us : List Value}, Vals [x] us → ∃ u, us = [u] ∧ RelV x u
  | _, _, .cons r .nil => ⟨_, rfl, r⟩
theorem Vals.dropLast {xs : List V} {us : List Value} (h : Vals xs us) : Vals xs.dropLast us.dropLast := by
  induction h with
  | nil => exact .nil
  | cons r t ih =>
    cases t with
    | nil => exact .nil
    | cons q t' => exact .cons r ih
theorem Vals.reverse {xs : List V} {us : List Value} (h : Vals xs us) : Vals xs.reverse us.reverse := by
  induction h with
  | nil => exact .nil
  | cons r t ih => rw [List.reverse_cons, List.reverse_cons]; exact Vals.append ih (.cons r .nil)
section
variable {X : Cx} {pins : List (Addr × Obj)} {σ : St} {H : Hp} {s : Shared} {l b : Addr} {xs ys zs : List V}

/-! ### the two steps: a tracked list is rewritten, a new list is laid -/
theorem Inv.lset {its its' : List Value} {n : Nat} {f : Array Value → Array Value} {t' : Nat} (I : Inv X pins σ H s) (hH : H l = some (.lst xs))
    (e : s.heap.get? l = some { cls := .type "list", data := .seq its.toArray n }) (hf : f its.toArray = its'.toArray) (hv : Vals ys its') (hz : ys.length ≤ sizeLine) :
    Inv X pins σ (upd H l (.lst ys)) { s with heap := s.heap.update l (Obj.mapSeq f), toks := t' } := by
  have q := PySem.IsL.update e f
  rw [hf] at q
  refine I.write (x := l) (e := l) (by rw [hH]; exact trivial) (.inl rfl) (fun b' u hb hu => (Heap.get?_update_other s.heap (Obj.mapSeq f) (Ne.symm hb)).trans hu) ⟨_, q⟩ ?_
  exact ⟨hz, its', _, hv, q⟩
theorem Inv.lnew {its : List Value} {t' : Nat} (I : Inv X pins σ H s) (hv : Vals ys its) (hz : ys.length ≤ sizeLine) :
    Inv X pins σ (upd H s.heap.objs.size (.lst ys)) { s with heap := s.heap.push { cls := .type "list", data := .seq its.toArray }, toks := t' } :=
  I.laid (fun _ _ q => Heap.get?_push_of_some _ q) (Nat.le_refl _) ⟨hz, its, 0, hv, Heap.get?_push_size _ rfl⟩
theorem Inv.fresh (I : Inv X pins σ H s) : H s.heap.objs.size = none := I.hok.fresh (Nat.le_refl _)
theorem Inv.lstM (I : Inv X pins σ H s) (hH : H l = some (.lst xs)) : xs.length ≤ sizeLine ∧ ∃ (its : List Value) (n : Nat), Vals xs its ∧ xs.length = its.length ∧ s.heap.get? l = some { cls := .type "list", data := .seq its.toArray n } := by
  obtain ⟨z, its, n, r, e⟩ := I.hok l _ hH
  exact ⟨z, its, n, r, r.length, e⟩

theorem notLongL {n : Nat} (h : n ≤ sizeLine) : Builtin.List.listTooLong n = false := by
  unfold Builtin.List.listTooLong
  exact decide_eq_false (by omega)
end

section
variable {X : Cx}

/-! ### methods -/
def rAppend : V → List V → Hp → VK → Prop := fun x vs H Q => ∃ l xs y, x = .ref l ∧ vs = [y] ∧ H l = some (.lst xs) ∧ xs.length < sizeLine ∧ Q .non (upd H l (.lst (xs ++ [y])))
theorem mt_append : MtM X "list.append" rAppend := by
  intro pins s σ H x vs v us Q I rx rv h
  obtain ⟨l, xs, y, rfl, rfl, hH, hz, q⟩ := h
  cases rx
  obtain ⟨u, rfl, ru⟩ := rv.one
  obtain ⟨z, its, n, r, hl, e⟩ := I.lstM hH
  refine call_meets F.slot_list_append ⟨_, e, rfl⟩ F.entry_list_append (F.args_list_append_2 _ _) (PySem.list_append l its.toArray n u (by rw [List.size_toArray]; omega)) ⟨e, ?_⟩
  refine ⟨.non, _, I.lset (its' := its ++ [u]) hH e (by simp) (r.append (.cons ru .nil)) ?_, rfl, q⟩
  rw [List.length_append, List.length_singleton]
  omega

def rExtend : V → List V → Hp → VK → Prop := fun x vs H Q => ∃ l b xs zs, x = .ref l ∧ vs = [.ref b] ∧ H l = some (.lst xs) ∧ H b = some (.lst zs) ∧ xs.length + zs.length ≤ sizeLine ∧ Q .non (upd H l (.lst (xs ++ zs)))
theorem mt_extend : MtM X "list.extend" rExtend := by
  intro pins s σ H x vs v us Q I rx rv h
  obtain ⟨l, b, xs, zs, rfl, rfl, hH, hB, hz, q⟩ := h
  cases rx
  obtain ⟨u, rfl, ru⟩ := rv.one
  cases ru
  obtain ⟨z, its, n, r, hl, e⟩ := I.lstM hH
  obtain ⟨z2, its2, n2, r2, hl2, e2⟩ := I.lstM hB
  have hsz : its.toArray.size + its2.toArray.size ≤ sizeLine := by rw [List.size_toArray, List.size_toArray]; omega
  have hlong : ¬ (!its.toArray.isEmpty && Builtin.List.listTooLong (its.toArray.size + its2.toArray.size)) = true := by
    rw [notLongL hsz, Bool.and_false]
    exact Bool.false_ne_true
  refine call_meets F.slot_list_extend ⟨_, e, rfl⟩ F.entry_list_extend (F.args_list_extend_2 _ _)
    (AutoSeq1.list_extend_list_list_0 l its.toArray n b its2.toArray n2 hlong (by rw [List.size_toArray]; omega) (by omega)) ⟨e, e2, ?_⟩
  refine ⟨.non, _, I.lset (its' := its ++ its2) hH e (by simp) (r.append r2) ?_, rfl, q⟩
  rw [List.length_append]
  omega

def rPop : V → List V → Hp → VK → Prop := fun x vs H Q => ∃ l xs y, x = .ref l ∧ vs = [] ∧ H l = some (.lst xs) ∧ xs[xs.length - 1]? = some y ∧ Q y (upd H l (.lst xs.dropLast))
def rPopAt : V → List V → Hp → VK → Prop := fun x vs H Q => ∃ l xs i k y, x = .ref l ∧ vs = [.int i] ∧ H l = some (.lst xs) ∧ -(2 ^ 63) ≤ i ∧ i < 2 ^ 63 ∧ seqIndex? i xs.length = some k ∧ xs[k]? = some y ∧ Q y (upd H l (.lst (xs.eraseIdx k)))
def rReverse : V → List V → Hp → VK → Prop := fun x vs H Q => ∃ l xs, x = .ref l ∧ vs = [] ∧ H l = some (.lst xs) ∧ Q .non (upd H l (.lst xs.reverse))
def rClear : V → List V → Hp → VK → Prop := fun x vs H Q => ∃ l xs, x = .ref l ∧ vs = [] ∧ H l = some (.lst xs) ∧ Q .non (upd H l (.lst []))
/-! ### list + list, list += list, list * int -/
def rCat : R2 := fun x y H Q => ∃ l b xs zs, x = .ref l ∧ y = .ref b ∧ H l = some (.lst xs) ∧ H b = some (.lst zs) ∧ xs.length + zs.length ≤ sizeLine ∧ ∀ p, H p = none → Q (.ref p) (upd H p (.lst (xs ++ zs)))
theorem op_cat : OpR X (binaryOp .Add) rCat := by
  intro pins s σ H x y v u Q I rx ry h
  obtain ⟨l, b, xs, zs, rfl, rfl, hH, hB, hz, q⟩ := h
  cases rx
  cases ry
  obtain ⟨z, its, n, r, hl, e⟩ := I.lstM hH
  obtain ⟨z2, its2, n2, r2, hl2, e2⟩ := I.lstM hB
  refine PySem.P.add_list e e2 ?_ (by rw [List.size_toArray, List.size_toArray]; omega)
  have ea : its.toArray ++ its2.toArray = (its ++ its2).toArray := by simp
  rw [ea]
  exact ⟨.ref _, _, I.lnew (t' := s.toks) (r.append r2) (by rw [List.length_append]; omega), rfl, q _ I.fresh⟩
/-- a list times an int (a negative one is nothing) -/
def rRep : R2 := fun x y H Q => ∃ l k xs, x = .ref l ∧ y = .int k ∧ H l = some (.lst xs) ∧ -(2 ^ 63) ≤ k ∧ k < 2 ^ 63 ∧ xs.length * k.toNat ≤ sizeLine ∧
  ∀ p, H p = none → Q (.ref p) (upd H p (.lst (List.replicate k.toNat xs).flatten))
/-! ### del xs[i] -/
end

/-! ### xs[a:b] = ys -/
section
variable {prog : Program} {w : World} {A : Around} {E : Value → Shared → Prop} {s : Shared}
end

section
variable {X : Cx}
end
end L2

namespace L2
open PySem PySem.Spec PyProof.Rows

theorem Vals.ints : ∀ {ns : List Int} {us : List Value}, Vals (ns.map V.int) us → IntsAre us ns
  | [], us, h => by
    rw [List.map_nil] at h
    cases h
    exact IntsAre.nil
  | n :: ns, us, h => by
    rw [List.map_cons] at h
    cases h with
    | cons r t =>
      obtain ⟨k, rfl⟩ := r
      exact IntsAre.cons n k (Vals.ints t)
theorem vals_of_ints : ∀ {us : List Value} {ns : List Int}, IntsAre us ns → Vals (ns.map V.int) us
  | _, _, .nil => by rw [List.map_nil]; exact Paired.nil
  | _, _, .cons n t h => by rw [List.map_cons]; exact Paired.cons (show RelV (V.int n) (Value.int n t) from ⟨t, rfl⟩) (vals_of_ints h)
theorem Vals.bls : ∀ {bs : List Bool} {us : List Value}, Vals (bs.map V.bl) us → us = bs.map Value.bool
  | [], us, h => by
    rw [List.map_nil] at h
    cases h
    rfl
  | b :: bs, us, h => by
    rw [List.map_cons] at h
    cases h with
    | cons r t =>
      cases r
      rw [Vals.bls t, List.map_cons]
theorem Vals.ref1 {a : Addr} {us : List Value} (r : Vals [V.ref a] us) : us = [Value.ref a] := by
  cases r with
  | cons r t =>
    cases t
    cases r
    rfl
/-! ### the library's walks over a list of ints, kept objects alone -/
section
variable {prog : Program} {w : World} {A : Around} {E : Value → Shared → Prop} {s : Shared} {l : Addr} {its : List Value} {ns : List Int} {Q : Value → Shared → Prop}
theorem sum_raw (hh : A.handled = none) (hl : s.heap.IsList l its.toArray) (hi : IntsAre its ns)
    (h : ∀ h' tk t', (∀ b o, s.heap.get? b = some o → h'.get? b = some o) → Q (.int ns.sum t') { s with heap := h', toks := tk }) : wpAny (model prog w) A (call (.builtin "sum") [.ref l]) Q E s := by
  obtain ⟨xs, e⟩ := hi.allInts.items
  have hn : numsOf (intItems xs).toList = ns := by rw [← e]; exact hi.numsOf
  rw [nums_intItems] at hn
  rw [e] at hl
  refine PySem.sum_intListG hh hl fun h' tk t' hk => ?_
  have := h h' tk t' hk
  rw [preSum_eq, List.take_of_length_le (by simp), hn]; exact this
theorem max_raw (hh : A.handled = none) (hl : s.heap.IsList l its.toArray) (hi : IntsAre its ns) (hne : 0 < ns.length)
    (h : ∀ h' tk M t', (∀ b o, s.heap.get? b = some o → h'.get? b = some o) → M ∈ ns → (∀ a, a ∈ ns → a ≤ M) → Q (.int M t') { s with heap := h', toks := tk }) : wpAny (model prog w) A (call (.builtin "max") [.ref l]) Q E s := by
  obtain ⟨xs, e⟩ := hi.allInts.items
  have hn : numsOf (intItems xs).toList = ns := by rw [← e]; exact hi.numsOf
  rw [nums_intItems] at hn
  subst hn
  rw [e] at hl
  have hsz : 0 < xs.size := by simpa using hne
  refine PySem.max_intList hh hl hsz fun v h' tk hv hk => ?_
  obtain ⟨t, rfl⟩ := intItems_at hv
  obtain ⟨h1, h2⟩ := argBest_gt (numAt xs) (xs.size - 1)
  refine h h' tk _ t hk ?_ fun a ha => ?_
  · rw [numAt_eq]; exact PySem.getD_mem (by rw [List.length_map, Array.length_toList]; omega)
  · obtain ⟨j, hj, rfl⟩ := mem_getD ha
    rw [List.length_map, Array.length_toList] at hj
    rw [← numAt_eq]; exact h2 j (by omega)
theorem min_raw (hh : A.handled = none) (hl : s.heap.IsList l its.toArray) (hi : IntsAre its ns) (hne : 0 < ns.length)
    (h : ∀ h' tk M t', (∀ b o, s.heap.get? b = some o → h'.get? b = some o) → M ∈ ns → (∀ a, a ∈ ns → M ≤ a) → Q (.int M t') { s with heap := h', toks := tk }) : wpAny (model prog w) A (call (.builtin "min") [.ref l]) Q E s := by
  obtain ⟨xs, e⟩ := hi.allInts.items
  have hn : numsOf (intItems xs).toList = ns := by rw [← e]; exact hi.numsOf
  rw [nums_intItems] at hn
  subst hn
  rw [e] at hl
  have hsz : 0 < xs.size := by simpa using hne
  refine PySem.min_intList hh hl hsz fun v h' tk hv hk => ?_
  obtain ⟨t, rfl⟩ := intItems_at hv
  obtain ⟨h1, h2⟩ := argBest_lt (numAt xs) (xs.size - 1)
  refine h h' tk _ t hk ?_ fun a ha => ?_
  · rw [numAt_eq]; exact PySem.getD_mem (by rw [List.length_map, Array.length_toList]; omega)
  · obtain ⟨j, hj, rfl⟩ := mem_getD ha
    rw [List.length_map, Array.length_toList] at hj
    rw [← numAt_eq]; exact h2 j (by omega)
end

/-! ### the calls, by values (CallR of 03t; MtR of 06l) -/
section
variable {X : Cx}
/-- sum(xs) of a list of ints -/
def rSum (K : PySem.W.Frag) : List V → Hp → VK → Prop := fun vs H Q => ∃ (a : Addr) (ns : List Int), vs = [V.ref a] ∧ SqL K H a (ns.map V.int) ∧ Q (.int ns.sum) H
/-- max(xs), min(xs) of a list of ints -/
def rMax (K : PySem.W.Frag) : List V → Hp → VK → Prop := fun vs H Q => ∃ (a : Addr) (ns : List Int), vs = [V.ref a] ∧ SqL K H a (ns.map V.int) ∧ 0 < ns.length ∧ ∀ m, m ∈ ns → (∀ y, y ∈ ns → y ≤ m) → Q (.int m) H
def rMin (K : PySem.W.Frag) : List V → Hp → VK → Prop := fun vs H Q => ∃ (a : Addr) (ns : List Int), vs = [V.ref a] ∧ SqL K H a (ns.map V.int) ∧ 0 < ns.length ∧ ∀ m, m ∈ ns → (∀ y, y ∈ ns → m ≤ y) → Q (.int m) H
theorem cr_sum (hc : X.calm = true) : CallR X (.builtin "sum") (rSum X.K) := by
  intro pins s σ H vs us Q I r h
  obtain ⟨a, ns, rfl, hs, q⟩ := h
  obtain ⟨its, rv, hl, _⟩ := I.list hs
  rw [Vals.ref1 r]
  exact sum_raw (I.ok.hd hc) hl.isList rv.ints fun h' tk t' hk => ⟨.int _, H, I.kept hk, ⟨_, rfl⟩, q⟩
theorem cr_min (hc : X.calm = true) : CallR X (.builtin "min") (rMin X.K) := by
  intro pins s σ H vs us Q I r h
  obtain ⟨a, ns, rfl, hs, hne, q⟩ := h
  obtain ⟨its, rv, hl, _⟩ := I.list hs
  rw [Vals.ref1 r]
  exact min_raw (I.ok.hd hc) hl.isList rv.ints hne fun h' tk m t' hk h1 h2 => ⟨.int _, H, I.kept hk, ⟨_, rfl⟩, q m h1 h2⟩

/-! sorted, sort (fewer than 64 items: the library's own bound) -/
def rSorted (K : PySem.W.Frag) : List V → Hp → VK → Prop := fun vs H Q => ∃ (a : Addr) (ns : List Int), vs = [V.ref a] ∧ SqL K H a (ns.map V.int) ∧ ns.length < 64 ∧
  ∀ (ns' : List Int) (p : Addr), ns'.Perm ns → ns'.Pairwise (· ≤ ·) → H p = none → Q (.ref p) (upd H p (.lst (ns'.map V.int)))
def rSortedS (K : PySem.W.Frag) : List V → Hp → VK → Prop := fun vs H Q => ∃ (a : Addr) (xs : List Str), vs = [V.ref a] ∧ SqL K H a (xs.map V.str) ∧ xs.length < 64 ∧
  ∀ (ys : List Str) (p : Addr), ys.Perm xs → sortedS ys = true → H p = none → Q (.ref p) (upd H p (.lst (ys.map V.str)))
/-- xs.sort(), ints -/
def rSort : V → List V → Hp → VK → Prop := fun x xs H Q => ∃ (a : Addr) (ns : List Int), x = V.ref a ∧ xs = [] ∧ H a = some (.lst (ns.map V.int)) ∧ ns.length < 64 ∧
  ∀ ns' : List Int, ns'.Perm ns → ns'.Pairwise (· ≤ ·) → Q .non (upd H a (.lst (ns'.map V.int)))
end

/-! ### list.index, flat items -/
section
variable {X : Cx}
def rIndex (K : PySem.W.Frag) : V → List V → Hp → VK → Prop := fun x xs H Q => ∃ (a : Addr) (ys : List V) (y : V) (j : Nat) (z : V), x = V.ref a ∧ xs = [y] ∧ SqL K H a ys ∧ flatV y = true ∧ ys.all flatV = true ∧ ys[j]? = some z ∧ eqV z y = true ∧
  (∀ (m : Nat) (z' : V), m < j → ys[m]? = some z' → eqV z' y = false) ∧ Q (.int (j : Nat)) H
end

/-! ### type(x) of an own instance; is, is not of a module's class -/
section
variable {X : Cx}
end

/-! ### any(xs), all(xs) of a list of bools -/
theorem iter_any {prog : Program} {w : World} {A : Around} {E : Value → Shared → Prop} {s : Shared} {l : Addr} {items : Array Value} {Q : Value → Shared → Prop} (hl : s.heap.IsList l items)
    (h : ∀ s₂ : Shared, s₂ = { s with heap := s.heap.push { cls := .type "list_iterator", data := .fields #[.ref l, .int 0 0] } } →
      (s₂.heap.IsListIter s.heap.objs.size l 0 ∧ s₂.heap.IsList l items) → l ≠ s.heap.objs.size → Q (.ref s.heap.objs.size) s₂) : wpAny (model prog w) A (pyIter (.ref l)) Q E s := by
  have hlt : l < s.heap.objs.size := by obtain ⟨_, e, _⟩ := hl; exact Heap.lt_size e
  exact wpAny_pyIter_list hl (h _ rfl ⟨⟨_, Heap.get?_push_size _ rfl, rfl, rfl⟩, hl.push _⟩ (Nat.ne_of_lt hlt))
theorem truth_bools {prog : Program} {w : World} {A : Around} {bs : List Bool} {its : List Value} (e : its = bs.map Value.bool) :
    TruthOf prog w A (fun i v => its.toArray[i]? = some v) (fun i => bs.getD i false) := fun i v s Q E hv hq => by
  have hv' : its[i]? = some v := by simpa using hv
  rw [e, List.getElem?_map] at hv'
  obtain ⟨b, hb, rfl⟩ := Option.map_eq_some_iff.mp hv'
  have hg : bs.getD i false = b := by rw [List.getD_eq_getElem?_getD, hb] <;> rfl
  have hq' : Q (bs.getD i false) s := hq
  rw [hg] at hq'
  exact wpAny_truthy_bool hq'
theorem any_range : ∀ bs : List Bool, (List.range bs.length).any (fun i => bs.getD i false) = bs.any id
  | [] => rfl
  | b :: bs => by
    rw [List.length_cons, List.range_succ_eq_map, List.any_cons, List.any_map, List.any_cons, ← any_range bs]
    all_goals rfl
theorem all_range : ∀ bs : List Bool, (List.range bs.length).all (fun i => bs.getD i false) = bs.all id
  | [] => rfl
  | b :: bs => by
    rw [List.length_cons, List.range_succ_eq_map, List.all_cons, List.all_map, List.all_cons, ← all_range bs]
    all_goals rfl
section
variable {X : Cx}
def rAny (K : PySem.W.Frag) : List V → Hp → VK → Prop := fun vs H Q => ∃ (a : Addr) (bs : List Bool), vs = [V.ref a] ∧ SqL K H a (bs.map V.bl) ∧ Q (.bl (bs.any id)) H
def rAll (K : PySem.W.Frag) : List V → Hp → VK → Prop := fun vs H Q => ∃ (a : Addr) (bs : List Bool), vs = [V.ref a] ∧ SqL K H a (bs.map V.bl) ∧ Q (.bl (bs.all id)) H
theorem cr_all (hc : X.calm = true) : CallR X (.builtin "all") (rAll X.K) := by
  intro pins s σ H vs us Q I r h
  obtain ⟨a, bs, rfl, hs, q⟩ := h
  obtain ⟨its, rv, hl, _⟩ := I.list hs
  rw [Vals.ref1 r]
  have hb := rv.bls
  refine call_all_walk (iter_any hl.isList fun s₂ e2 st hne => ?_)
  subst e2
  refine ⟨_, _, _, _, _, _, _, rfl, Walks.list (A := X.A.in1) (I.ok.hd hc) _ a hne its.toArray, st, truth_bools hb, fun h' tk hk => ?_⟩
  refine ⟨.bl _, H, I.kept fun b o eo => hk b o (fun hmem => ?_) (Heap.get?_push_of_some _ eo), ?_, q⟩
  · rcases List.mem_cons.mp hmem with e1 | hmem
    · exact absurd (e1 ▸ Heap.lt_size eo) (Nat.lt_irrefl _)
    · cases hmem
  · show Value.bool _ = Value.bool _
    rw [← all_range, hb, List.size_toArray, List.length_map]
end

/-! ### == and != of data at any depth: none, bools, ints, texts, lists, tuples -/
mutual
inductive Dp (K : PySem.W.Frag) (H : Hp) : V → PyData → Prop
  | non : Dp K H .non .none
  | bl (b : Bool) : Dp K H (.bl b) (.bool b)
  | int (i : Int) : Dp K H (.int i) (.int i)
  | str (x : Str) : Dp K H (.str x) (.str x)
  | lst {a : Addr} {xs : List V} {ds : List PyData} : SqL K H a xs → DpAll K H xs ds → Dp K H (.ref a) (.list ds)
  | tup {a : Addr} {xs : List V} {ds : List PyData} : SqT K H a xs → DpAll K H xs ds → Dp K H (.ref a) (.tuple ds)
inductive DpAll (K : PySem.W.Frag) (H : Hp) : List V → List PyData → Prop
  | nil : DpAll K H [] []
  | cons {v : V} {vs : List V} {d : PyData} {ds : List PyData} : Dp K H v d → DpAll K H vs ds → DpAll K H (v :: vs) (d :: ds)
end
section
variable {X : Cx} {pins : List (Addr × Obj)} {σ : St} {H : Hp} {s : Shared}
mutual
theorem Dp.reads (I : Inv X pins σ H s) : ∀ (d : PyData) (v : V) (u : Value), Dp X.K H v d → RelV v u → ∃ as, Reads s.heap u d as
  | .none, _, _, h, r => by
    cases h
    cases r
    exact ⟨_, Reads.none⟩
  | .bool b, _, _, h, r => by
    cases h
    cases r
    exact ⟨_, Reads.bool b⟩
  | .int i, _, _, h, r => by
    cases h
    obtain ⟨t, rfl⟩ := r
    exact ⟨_, Reads.int i t⟩
  | .str x, _, _, h, r => by
    cases h
    obtain ⟨t, rfl⟩ := r
    exact ⟨_, Reads.str x t⟩
  | .list ds, _, _, h, r => by
    cases h with
    | lst hs ha =>
      cases r
      obtain ⟨its, rv, ⟨o, n, ho, hc, _, hd⟩, _⟩ := I.list hs
      obtain ⟨as, hr⟩ := Dp.readsAll I ds _ its ha rv
      exact ⟨_, Reads.list ho hc hd hr⟩
  | .tuple ds, _, _, h, r => by
    cases h with
    | tup hs ha =>
      cases r
      obtain ⟨its, rv, ⟨o, ho, hc, n, hd⟩, _⟩ := I.tuple hs
      obtain ⟨as, hr⟩ := Dp.readsAll I ds _ its ha rv
      exact ⟨_, Reads.tuple ho hc hd hr⟩
  | .dict _, _, _, h, _ => by cases h
theorem Dp.readsAll (I : Inv X pins σ H s) : ∀ (ds : List PyData) (vs : List V) (us : List Value), DpAll X.K H vs ds → Vals vs us → ∃ as, ReadsAll s.heap us ds as
  | [], _, _, h, r => by
    cases h
    cases r
    exact ⟨_, ReadsAll.nil⟩
  | d :: ds, _, _, h, r => by
    cases h with
    | cons h1 h2 =>
      cases r with
      | cons r1 r2 =>
        obtain ⟨as, q1⟩ := Dp.reads I d _ _ h1 r1
        obtain ⟨bs, q2⟩ := Dp.readsAll I ds _ _ h2 r2
        exact ⟨_, ReadsAll.cons q1 q2⟩
end
end
section
variable {X : Cx}
def rEqD (K : PySem.W.Frag) : R2 := fun x y H Q => ∃ d e, Dp K H x d ∧ Dp K H y e ∧ SeqAt.shaped d = true ∧ SeqAt.shaped e = true ∧ Q (.bl (PyData.eqv d e)) H
def rNeD (K : PySem.W.Frag) : R2 := fun x y H Q => ∃ d e, Dp K H x d ∧ Dp K H y e ∧ SeqAt.shaped d = true ∧ SeqAt.shaped e = true ∧ Q (.bl (!PyData.eqv d e)) H
theorem op_neD (hu : X.A.units + 64 < cLine) : OpR X (compareOp .NotEq) (rNeD X.K) := by
  intro pins s σ H x y v u Q I rx ry h
  obtain ⟨d, e, hd, he, sd, se, q⟩ := h
  obtain ⟨as, r1⟩ := Dp.reads I d x v hd rx
  obtain ⟨bs, r2⟩ := Dp.reads I e y u he ry
  exact SeqAt.compareNe_shaped r1 r2 sd se hu ⟨.bl _, H, I, rfl, q⟩
end
end L2

namespace L2
open PySem PySem.Spec PyProof.Rows
abbrev CellAt (h : Heap) (c : Addr) (v : Option Value) : Prop := h.IsCell c v
def relS (scope sc : Scope) : Scope :=
  { scope with names := scope.names.map fun (n, k) => if (k == .free && sc.kind == .function && sc.names.lookup n == some .cell) then (n, .cell) else (n, k) }

def cloFrom (cells : List (Str × Addr)) : List (Str × NameKind) → List (Str × Addr) → List (Str × Addr)
  | [], acc => acc
  | (n, k) :: r, acc => if k == .free then cloFrom cells r ((n, (cells.lookup n).getD 0) :: acc) else cloFrom cells r acc

theorem closure_loop (env : Env) (f : Str × NameKind → List (Str × Addr) → Sem (ForInStep (List (Str × Addr))))
    (hf : ∀ n k c, f (n, k) c = if k == .free then (do let a ← cellOf env n; pure (.yield ((n, a) :: c))) else pure (.yield c)) :
    ∀ (names : List (Str × NameKind)) (acc : List (Str × Addr)), (∀ y ∈ names, y.2 = .free → ∃ c, env.cells.lookup y.1 = some c) → forIn names acc f = pure (cloFrom env.cells names acc)
  | [], acc, _ => by rw [List.forIn_nil]; rfl
  | (n, k) :: r, acc, h => by
    rw [List.forIn_cons, hf]
    have ih := fun acc => closure_loop env f hf r acc fun y hy => h y (List.mem_cons_of_mem _ hy)
    unfold cloFrom
    by_cases hk : (k == NameKind.free) = true
    · rw [if_pos hk, if_pos hk]
      obtain ⟨c, hc⟩ := h (n, k) List.mem_cons_self (by simpa using hk)
      have e : cellOf env n = pure c := by unfold cellOf; rw [hc]
      rw [e]
      have e2 : (env.cells.lookup n).getD 0 = c := by rw [hc]; rfl
      rw [e2]
      exact ih _
    · rw [if_neg hk, if_neg hk]
      exact ih _
theorem closure_ok {scope : Scope} {env : Env} (h : ∀ y ∈ scope.names, y.2 = .free → ∃ c, env.cells.lookup y.1 = some c) : closureFor scope env = pure (cloFrom env.cells scope.names []) := by
  simp only [closureFor]
  rw [closure_loop env _ (fun n k c => rfl) scope.names [] h]
  rfl

theorem mem_lookup {α : Type} : ∀ {l : List (Str × α)} {n : Str} {c : α}, (n, c) ∈ l → ∃ c', l.lookup n = some c'
  | (k, v) :: r, n, c, h => by
    rw [List.lookup_cons]
    cases hb : n == k with
    | true => exact ⟨_, rfl⟩
    | false =>
      rcases List.mem_cons.mp h with e | h
      · cases e; simp at hb
      · exact mem_lookup h

theorem cloFrom_mem {cells : List (Str × Addr)} : ∀ {names : List (Str × NameKind)} {acc : List (Str × Addr)} {n : Str} {c : Addr}, (n, c) ∈ cloFrom cells names acc → (n, c) ∈ acc ∨ ((n, .free) ∈ names ∧ c = (cells.lookup n).getD 0)
  | [], _, _, _, h => .inl h
  | (m, k) :: r, acc, n, c, h => by
    unfold cloFrom at h
    split at h
    · rename_i hk
      have hk : k = .free := by simpa using hk
      rcases cloFrom_mem h with h | ⟨h1, h2⟩
      · rcases List.mem_cons.mp h with e | h
        · cases e; exact .inr ⟨hk ▸ List.mem_cons_self, rfl⟩
        · exact .inl h
      · exact .inr ⟨List.mem_cons_of_mem _ h1, h2⟩
    · rcases cloFrom_mem h with h | ⟨h1, h2⟩
      · exact .inl h
      · exact .inr ⟨List.mem_cons_of_mem _ h1, h2⟩
theorem cloFrom_acc {cells : List (Str × Addr)} : ∀ {names : List (Str × NameKind)} {acc : List (Str × Addr)} {p : Str × Addr}, p ∈ acc → p ∈ cloFrom cells names acc
  | [], _, _, h => h
  | (m, k) :: r, acc, p, h => by
    unfold cloFrom
    split
    · exact cloFrom_acc (List.mem_cons_of_mem _ h)
    · exact cloFrom_acc h
theorem cloFrom_has {cells : List (Str × Addr)} : ∀ {names : List (Str × NameKind)} {acc : List (Str × Addr)} {n : Str}, (n, .free) ∈ names → (n, (cells.lookup n).getD 0) ∈ cloFrom cells names acc
  | (m, k) :: r, acc, n, h => by
    unfold cloFrom
    rcases List.mem_cons.mp h with e | h
    · cases e
      exact cloFrom_acc List.mem_cons_self
    · split
      · exact cloFrom_has h
      · exact cloFrom_has h

theorem cells_mem : ∀ {names : List (Str × NameKind)} {h : Heap} {acc : List (Str × Addr)} {x : Str} {c : Addr}, (x, c) ∈ cellsFrom h.objs.size names acc →
    (x, c) ∈ acc ∨ ((x, .cell) ∈ names ∧ h.objs.size ≤ c ∧ CellAt (pushCells h names) c none)
  | [], _, _, _, _, h => .inl h
  | (n, k) :: r, h, acc, x, c, hm => by
    unfold cellsFrom at hm
    unfold pushCells
    split at hm
    · rename_i hk
      rw [if_pos hk]
      have hk : k = .cell := by simpa using hk
      rw [← Heap.size_push h { cls := .type "cell", data := .cell none }] at hm
      rcases cells_mem hm with hm | ⟨h1, h2, h3⟩
      · rcases List.mem_cons.mp hm with e | hm
        · cases e
          exact .inr ⟨hk ▸ List.mem_cons_self, Nat.le_refl _, _, pushCells_keeps r _ _ _ (Heap.get?_push_size _ rfl), rfl⟩
        · exact .inl hm
      · rw [Heap.size_push] at h2
        exact .inr ⟨List.mem_cons_of_mem _ h1, Nat.le_of_succ_le h2, h3⟩
    · rename_i hk
      rw [if_neg hk]
      rcases cells_mem hm with hm | ⟨h1, h2, h3⟩
      · exact .inl hm
      · exact .inr ⟨List.mem_cons_of_mem _ h1, h2, h3⟩
theorem cells_acc : ∀ {names : List (Str × NameKind)} {n : Nat} {acc : List (Str × Addr)} {p : Str × Addr}, p ∈ acc → p ∈ cellsFrom n names acc
  | [], _, _, _, h => h
  | (m, k) :: r, n, acc, p, h => by
    unfold cellsFrom
    split
    · exact cells_acc (List.mem_cons_of_mem _ h)
    · exact cells_acc h
theorem cells_has : ∀ {names : List (Str × NameKind)} {n : Nat} {acc : List (Str × Addr)} {x : Str}, (x, .cell) ∈ names → ∃ c, (x, c) ∈ cellsFrom n names acc
  | (m, k) :: r, n, acc, x, h => by
    unfold cellsFrom
    rcases List.mem_cons.mp h with e | h
    · cases e
      exact ⟨n, cells_acc List.mem_cons_self⟩
    · split
      · exact cells_has h
      · exact cells_has h
theorem cells_inj : ∀ {names : List (Str × NameKind)} {h : Heap} {acc : List (Str × Addr)} {x y : Str} {c : Addr}, (∀ p ∈ acc, p.2 < h.objs.size) → (∀ x y c, (x, c) ∈ acc → (y, c) ∈ acc → x = y) →
    (x, c) ∈ cellsFrom h.objs.size names acc → (y, c) ∈ cellsFrom h.objs.size names acc → x = y
  | [], _, _, _, _, _, _, hi, h1, h2 => hi _ _ _ h1 h2
  | (n, k) :: r, h, acc, x, y, c, hl, hi, h1, h2 => by
    unfold cellsFrom at h1 h2
    split at h1
    · rename_i hk
      rw [if_pos hk] at h2
      rw [← Heap.size_push h { cls := .type "cell", data := .cell none }] at h1 h2
      refine cells_inj (h := h.push _) (fun p hp => ?_) (fun x y c a b => ?_) h1 h2
      · rw [Heap.size_push]
        rcases List.mem_cons.mp hp with rfl | hp
        · exact Nat.lt_succ_self _
        · exact Nat.lt_succ_of_lt (hl p hp)
      · rcases List.mem_cons.mp a with e | a <;> rcases List.mem_cons.mp b with e' | b
        · cases e; cases e'; rfl
        · cases e; exact absurd (hl _ b) (Nat.lt_irrefl _)
        · cases e'; exact absurd (hl _ a) (Nat.lt_irrefl _)
        · exact hi _ _ _ a b
    · rename_i hk
      rw [if_neg hk] at h2
      exact cells_inj hl hi h1 h2

theorem newEnv_comp {M : Model} {A : Around} {E : Value → Shared → Prop} {s : Shared} {scope : Scope} {globals : Addr} {closure : List (Str × Addr)} {qual : Str} {func : Option Addr} {code : Value} {around : Env} {builtins : Addr} {Q : Env → Shared → Prop}
    (h : Q (newEnv scope s.heap.objs.size globals (cellsFrom (s.heap.objs.size + 1) scope.names closure) qual func code (some around) builtins)
      { s with heap := pushCells (s.heap.push { cls := .type "dict", data := .dict #[] }) scope.names }) :
    wpAny M A (newFunctionEnv scope globals closure [] qual func code (some around) builtins) Q E s := by
  simp only [newFunctionEnv, Option.isSome_some, if_true]
  refine wpAny_bind (wpAny_alloc ?_)
  refine wpAny_bind (wpAny_layCells _ (fun n k c => rfl) scope.names closure _ _ ?_)
  rw [show ({ s with heap := s.heap.push { cls := .type "dict", data := .dict #[] } } : Shared).heap.objs.size = s.heap.objs.size + 1 from Heap.size_push ..]
  rw [List.forIn_nil]
  exact wpAny_bind (wpAny_pure (wpAny_pure h))

/-- every name of the written scope, in the scope that runs -/
theorem lookup_relS {sc : Scope} : ∀ {names : List (Str × NameKind)} {x : Str} {k : NameKind},
    (names.map fun (n, k) => if (k == NameKind.free && sc.kind == .function && sc.names.lookup n == some .cell) then (n, NameKind.cell) else (n, k)).lookup x = some k →
    ∃ k', names.lookup x = some k' ∧ (k = k' ∨ (k' = .free ∧ k = .cell))
  | [], _, _, h => by simp at h
  | (n, k₀) :: r, x, k, h => by
    have ih := @lookup_relS sc r x k
    have h' : List.lookup x ((if (k₀ == NameKind.free && sc.kind == .function && sc.names.lookup n == some .cell) = true then (n, NameKind.cell) else (n, k₀)) :: (r.map _)) = some k := h
    cases hx : x == n with
    | true =>
      simp only [List.lookup_cons, hx]
      by_cases hc : (k₀ == NameKind.free && sc.kind == .function && sc.names.lookup n == some .cell) = true
      · rw [if_pos hc] at h'
        simp only [List.lookup_cons, hx] at h'
        cases h'
        simp only [Bool.and_eq_true, beq_iff_eq] at hc
        exact ⟨k₀, rfl, .inr ⟨hc.1.1, rfl⟩⟩
      · rw [if_neg hc] at h'
        simp only [List.lookup_cons, hx] at h'
        cases h'
        exact ⟨_, rfl, .inl rfl⟩
    | false =>
      simp only [List.lookup_cons, hx]
      by_cases hc : (k₀ == NameKind.free && sc.kind == .function && sc.names.lookup n == some .cell) = true
      · rw [if_pos hc] at h'
        simp only [List.lookup_cons, hx] at h'
        exact ih h'
      · rw [if_neg hc] at h'
        simp only [List.lookup_cons, hx] at h'
        exact ih h'
/-- the names of a comprehension's block: its own (with their places in N), or captured -/
structure BlkOk (N : List Str) (sc scope : Scope) (own : List (Str × Nat)) : Prop where
  kind : scope.kind = .function
  uniq : ∀ y ∈ scope.names, scope.names.lookup y.1 = some y.2
  ix : ∀ p ∈ own, N[p.2]? = some p.1
  free : ∀ y ∈ scope.names, y.2 = .free → sc.names.lookup y.1 = some .cell ∨ sc.names.lookup y.1 = some .free
  own : ∀ y ∈ scope.names, y.2 = .local ∨ y.2 = .cell → y.1 ∈ own.map (·.1) ∨ y.1 ∉ N
/-- the slots of the block's own names forgotten -/
def wipe (σ : St) : List Nat → St
  | [] => σ
  | v :: vs => (wipe σ vs).set v none
theorem wipe_length (σ : St) : ∀ vs : List Nat, (wipe σ vs).length = σ.length
  | [] => rfl
  | v :: vs => by unfold wipe; rw [List.length_set, wipe_length σ vs]
theorem wipe_some {σ : St} {i : Nat} {x : V} : ∀ {vs : List Nat}, (wipe σ vs)[i]? = some (some x) → σ[i]? = some (some x) ∧ i ∉ vs
  | [], h => ⟨h, by simp⟩
  | v :: vs, h => by
    unfold wipe at h
    by_cases hi : v = i
    · subst hi
      by_cases hv : v < (wipe σ vs).length
      · rw [List.getElem?_set_self hv] at h; cases h
      · rw [List.getElem?_eq_none (by simpa using hv)] at h; cases h
    · rw [List.getElem?_set_ne hi] at h
      obtain ⟨h1, h2⟩ := wipe_some h
      exact ⟨h1, by simp only [List.mem_cons, not_or]; exact ⟨fun e => hi e.symm, h2⟩⟩

/-- the context of a block that starts at s, its iterator's objects at fp -/
abbrev Cx.blk (X : Cx) (s : Shared) (H : Hp) (scope : Scope) (cenv : Env) (fp : List Addr) : Cx := { X with s_0 := s, H_0 := H, env := cenv, outer := X.stack, ex := fp, fn := fun x => scope.names.lookup x == some .cell, pn := [], xe := fun _ _ => False }
section
variable {X : Cx} {pins : List (Addr × Obj)} {σ : St} {H : Hp} {s : Shared}
theorem block_start {scope : Scope} {own : List (Str × Nat)} {fp : List Addr} (I : Inv X pins σ H s) (ok : BlkOk X.N X.env.scope scope own) (hN : X.N.Nodup) (hfp : ∀ b ∈ fp, FpOk X pins H b ∧ b < s.heap.objs.size) :
    Inv (X.blk s H scope (compEnvC scope (cellsFrom (s.heap.objs.size + 1) scope.names (cloFrom X.env.cells scope.names [])) s.heap.objs.size X.env) fp) [] (wipe σ (own.map (·.2))) H { s with heap := pushCells (s.heap.push { cls := .type "dict", data := .dict #[] }) scope.names } := by
  have hfree : ∀ y ∈ scope.names, y.2 = .free → ∃ c, X.env.cells.lookup y.1 = some c := fun y hy e => by
    rcases ok.free y hy e with k | k
    · exact I.ok.has _ (.inl k)
    · exact I.ok.has _ (.inr k)
  generalize hcenv : compEnvC scope (cellsFrom (s.heap.objs.size + 1) scope.names (cloFrom X.env.cells scope.names [])) s.heap.objs.size X.env = cenv
  have kp : ∀ b o, s.heap.get? b = some o → (pushCells (s.heap.push { cls := .type "dict", data := .dict #[] }) scope.names).get? b = some o := fun b o e => pushCells_keeps _ _ _ _ (Heap.get?_push_of_some _ e)
  have hL : cenv.locals = s.heap.objs.size := by rw [← hcenv]; rfl
  have hcl : cenv.cells = cellsFrom (s.heap.objs.size + 1) scope.names (cloFrom X.env.cells scope.names []) := by rw [← hcenv]; rfl
  have hsc : cenv.scope = relS scope X.env.scope := by rw [← hcenv]; rfl
  rw [← Heap.size_push s.heap { cls := .type "dict", data := .dict #[] }] at hcl
  have cm : ∀ {y c}, (y, c) ∈ cloFrom X.env.cells scope.names [] → X.env.cells.lookup y = some c ∧ c < s.heap.objs.size := fun {y c} hm => by
    rcases cloFrom_mem hm with hm | ⟨h1, rfl⟩
    · cases hm
    · obtain ⟨c, hc⟩ := hfree _ h1 rfl
      rw [hc]
      obtain ⟨w, z⟩ := I.cell _ _ hc
      exact ⟨rfl, z.lt⟩
  have mem : ∀ {y c}, cenv.cells.lookup y = some c → (X.env.cells.lookup y = some c ∧ c < s.heap.objs.size) ∨ (s.heap.objs.size + 1 ≤ c ∧ CellAt (pushCells (s.heap.push { cls := .type "dict", data := .dict #[] }) scope.names) c none) := fun {y c} e => by
    rw [hcl] at e
    rcases cells_mem (PySem.mem_of_lookup e) with hm | ⟨_, h2, h3⟩
    · exact .inl (cm hm)
    · rw [Heap.size_push] at h2; exact .inr ⟨h2, h3⟩
  have look : ∀ {y}, scope.names.lookup y = some .free → ∃ c, cenv.cells.lookup y = some c ∧ X.env.cells.lookup y = some c := fun {y} hl => by
    have hy : (y, NameKind.free) ∈ scope.names := PySem.mem_of_lookup hl
    obtain ⟨c', e'⟩ := mem_lookup (cells_acc (names := scope.names) (n := (s.heap.push { cls := .type "dict", data := .dict #[] }).objs.size) (cloFrom_has (cells := X.env.cells) (acc := []) hy))
    rw [← hcl] at e'
    refine ⟨c', e', ?_⟩
    rw [hcl] at e'
    rcases cells_mem (PySem.mem_of_lookup e') with hm | ⟨h1, _, _⟩
    · exact (cm hm).1
    · have := ok.uniq _ h1
      rw [hl] at this; cases this
  have okB : (X.blk s H scope cenv fp).Ok := by
    refine ⟨I.ok.mod, by show cenv.scope.kind = _; rw [hsc]; exact ok.kind, by show cenv.globals = _; rw [← hcenv]; exact I.ok.glob, by show cenv.builtins = _; rw [← hcenv]; exact I.ok.blt, by show s.heap.objs.size ≤ cenv.locals; rw [hL]; exact Nat.le_refl _,
      fun y z c e1 e2 => ?_, fun y hy => ?_, fun y c z e => ?_, I.ok.hd, I.ok.frames, .inl rfl, fun b hb => ⟨?_, fun y c e z => ?_⟩, I.bs, Nat.le_trans I.ok.bsz I.sz, fun b o e hb => ?_, fun b hb z => ?_, I.stack, I.stkFree⟩
    · have e1 : cenv.cells.lookup y = some c := e1
      have e2 : cenv.cells.lookup z = some c := e2
      rw [hcl] at e1 e2
      refine cells_inj (fun p hp => ?_) (fun y z c a b => I.ok.inj y z c (cm a).1 (cm b).1) (PySem.mem_of_lookup e1) (PySem.mem_of_lookup e2)
      rw [Heap.size_push]
      exact Nat.lt_succ_of_lt (cm (y := p.1) (c := p.2) hp).2
    · show ∃ c, cenv.cells.lookup y = some c
      have key : ∀ k, cenv.kindOf y = some k → (k = .cell ∨ k = .free) → ∃ c, cenv.cells.lookup y = some c := fun k hk hk' => by
        unfold Env.kindOf at hk
        rw [hsc] at hk
        obtain ⟨k', e, r⟩ := lookup_relS hk
        have : k' = .cell ∨ k' = .free := by
          rcases r with rfl | ⟨rfl, _⟩
          · exact hk'
          · exact .inr rfl
        rcases this with rfl | rfl
        · obtain ⟨c, hm⟩ := cells_has (n := (s.heap.push { cls := .type "dict", data := .dict #[] }).objs.size) (acc := cloFrom X.env.cells scope.names []) (PySem.mem_of_lookup e)
          obtain ⟨c', e'⟩ := mem_lookup hm
          exact ⟨c', by rw [hcl]; exact e'⟩
        · obtain ⟨c, h1, _⟩ := look e
          exact ⟨c, h1⟩
      rcases hy with hy | hy
      · exact key _ hy (.inl rfl)
      · exact key _ hy (.inr rfl)
    · have z : (scope.names.lookup y == some NameKind.cell) = true := z
      have z : scope.names.lookup y = some .cell := by simpa using z
      have e : cenv.cells.lookup y = some c := e
      rw [hcl] at e
      rcases cells_mem (PySem.mem_of_lookup e) with hm | ⟨_, h2, _⟩
      · rcases cloFrom_mem hm with hm | ⟨h1, _⟩
        · cases hm
        · have q := ok.uniq _ h1
          rw [z] at q; cases q
      · rw [Heap.size_push] at h2
        exact Nat.le_of_succ_le h2
    · show b ≠ cenv.locals
      rw [hL]; exact Nat.ne_of_lt (hfp b hb).2
    · have e : cenv.cells.lookup y = some c := e
      rcases mem e with ⟨h1, _⟩ | ⟨h1, _⟩
      · exact (hfp b hb).1.2.2.2.2.1 y c h1 z
      · have h2 : s.heap.objs.size + 1 ≤ b := by rw [← z]; exact h1
        exact absurd (Nat.lt_of_lt_of_le (hfp b hb).2 (Nat.le_of_succ_le h2)) (Nat.lt_irrefl _)
    · rcases (hfp b hb).1.2.2.2.1 with z | z
      · exact I.ok.noex b o e z
      · exact absurd (Nat.lt_of_lt_of_le (Heap.lt_size e) (Nat.le_trans I.ok.bsz z)) (Nat.lt_irrefl _)
    · rcases List.mem_cons.mp (I.stkSub b z) with z | z
      · exact (hfp b hb).1.2.1 z
      · exact (hfp b hb).1.2.2.1 z
  refine ⟨okB, rfl, I.bare, Un.kept kp, ⟨fun _ => none, ?_, fun i y av e1 e2 e3 => ?_⟩, fun y c e => ?_, ?_, fun y c e => ?_, fun p hp => ?_, I.hok.kept kp, by rw [wipe_length]; exact I.len⟩
  · show Heap.Ns _ cenv.locals _
    rw [hL]
    exact Heap.Ns.keeps (Heap.Ns.new ..) fun b o e => pushCells_keeps _ _ _ _ e
  · obtain ⟨e2, hne⟩ := wipe_some e2
    have hfr : scope.names.lookup y = some .free ∧ (cenv.kindOf y = some .cell ∨ cenv.kindOf y = some .free) := by
      have key : ∀ k, cenv.scope.names.lookup y = some k → k = .local ∨ k = .cell ∨ k = .free → scope.names.lookup y = some .free ∧ (cenv.kindOf y = some .cell ∨ cenv.kindOf y = some .free) := fun k hk hk' => by
        have hk0 := hk
        rw [hsc] at hk
        obtain ⟨k', e, r⟩ := lookup_relS hk
        have no : ¬ (k' = .local ∨ k' = .cell) := fun hh => by
          rcases ok.own _ (PySem.mem_of_lookup e) hh with e' | e'
          · obtain ⟨p, hp, hpy⟩ := List.mem_map.mp e'
            have e3 := ok.ix p hp
            have : p.1 = y := hpy
            rw [this] at e3
            exact hne (List.mem_map.mpr ⟨p, hp, nodup_ix hN e3 e1⟩)
          · exact e' (List.mem_of_getElem? e1)
        rcases r with rfl | ⟨rfl, rfl⟩
        · rcases hk' with rfl | rfl | rfl
          · exact absurd (.inl rfl) no
          · exact absurd (.inr rfl) no
          · exact ⟨e, .inr hk0⟩
        · exact ⟨e, .inl hk0⟩
      have e3 : Vis cenv.scope y := e3
      rcases e3 with e3 | e3 | e3
      · exact key _ e3 (.inl rfl)
      · exact key _ e3 (.inr (.inl rfl))
      · exact key _ e3 (.inr (.inr rfl))
    obtain ⟨m, hn, hl⟩ := I.loc
    have hvis : Vis X.env.scope y := (ok.free _ (PySem.mem_of_lookup hfr.1) rfl).elim (fun k => .inr (.inl k)) (fun k => .inr (.inr k))
    obtain ⟨w, r, q⟩ := hl i y av e1 e2 hvis
    refine ⟨w, r, .inr ⟨hfr.2, ?_⟩⟩
    obtain ⟨c, h1, h2⟩ := look hfr.1
    rcases q with ⟨k, _⟩ | ⟨_, c', e', z⟩
    · have k : X.env.scope.names.lookup y = some .local := k
      rcases ok.free _ (PySem.mem_of_lookup hfr.1) rfl with k' | k' <;> rw [show X.env.scope.names.lookup y = _ from k'] at k <;> cases k
    · rw [h2] at e'; cases e'
      exact ⟨c, h1, z.keeps kp⟩
  · have e : cenv.cells.lookup y = some c := e
    rcases mem e with ⟨h1, _⟩ | ⟨_, z⟩
    · obtain ⟨w, z⟩ := I.cell y c h1
      exact ⟨w, z.keeps kp⟩
    · exact ⟨_, z⟩
  · show H cenv.locals = none
    rw [hL]; exact I.hok.fresh (Nat.le_refl _)
  · have e : cenv.cells.lookup y = some c := e
    rcases mem e with ⟨h1, _⟩ | ⟨h1, _⟩
    · exact I.freeC y c h1
    · exact I.hok.fresh (Nat.le_of_succ_le h1)
  · exact absurd (show p ∈ ([] : List (Addr × Obj)) ++ [] from hp) (by simp)

/-- an item appended to a tracked list -/
theorem app_ok {E : Value → Shared → Prop} {D : Addr} {xs : List V} {y : V} {v : Value} {Q : Value → Shared → Prop} (I : Inv X pins σ H s) (hD : H D = some (.lst xs)) (hz : xs.length < sizeLine) (r : RelV y v)
    (h : ∀ s', Inv X pins σ (upd H D (.lst (xs ++ [y]))) s' → Q .none s') : wpAny (model X.prog X.w) X.A (call (.builtin "list.append") [.ref D, v]) Q E s := by
  obtain ⟨hz', its, n, ri, e⟩ := I.hok D _ hD
  have hl := ri.length
  refine append_at (hsz := by rw [List.size_toArray]; omega) e fun h' sb ho' => ?_
  refine h { s with heap := h' } (I.write (t' := s.toks) (by rw [hD]; trivial) (.inl rfl) (fun b u hb q => (sb.2 b hb).trans q) ⟨_, ho'⟩ ⟨by rw [List.length_append]; exact hz, its ++ [v], n + 1, ri.append (.cons r .nil), ?_⟩)
  rw [ho']
  simp

/-- a clause's tests -/
def PTs (X : Cx) (ifs : List Expr) (t : TT) : Prop :=
  ∀ (pins : List (Addr × Obj)) (s : Shared) (σ : St) (H : Hp) (Q : Bool → Hp → Prop), Inv X pins σ H s → t σ H Q →
    wpAny (model X.prog X.w) X.A (forIn ifs true fun c r => if r = true then do let ok ← isTrue c X.env (eval c X.env); pure (ForInStep.yield ok) else pure (ForInStep.yield r)) (TP X pins σ Q) X.xe s
def tYes : TT := fun _ H Q => Q true H
theorem pts_nil : PTs X [] tYes := fun _ _ _ H _ I h => wpAny_tests_nil ⟨H, I, h⟩
theorem pts_one {c : Expr} {t : TT} (h : PT X c t) : PTs X [c] t := fun pins s σ H Q I hw => wpAny_tests_one (h pins s σ H Q I hw)
end

theorem thnF {α : Type} {t : Sem α} {Q Q' : α → Shared → Prop} {M : Model} {A : Around} {E : Value → Shared → Prop} {s : Shared} (h : wpAny M A t Q (fun _ _ => False) s) (hQ : ∀ a s, Q a s → Q' a s) : wpAny M A t Q' E s := wpAny_mono h hQ fun _ _ z => False.elim z

/-- the loop of a list comprehension's block, the target of any form (codeAny_compLoop_tests asks a target that no tuple goes to; statement and proof follow it, PyProof/CompMap.lean:41-61, with the step letOwnedTupleGo kept) -/
theorem compLoop_any {prog : Program} {w : World} {A : Around} {R : Result → Shared → Prop} {s : Shared} {elt target iter : Expr} {ifs : List Expr} {scope : Scope} {pos : Pos} {it acc : Value} {env : Env} (I : Nat → Shared → Prop)
    (turn : ∀ n s, I n s → wpAny (model prog w) A (pyNext it) (fun r s₁ => match r with
      | none => R (.ok .next) s₁
      | some v => wpAny (model prog w) A (letOwnedTupleGo target it v) (fun _ s₁' => wpAny (model prog w) A (assign target env v) (fun _ s₂ =>
          wpAny (model prog w) A (forIn ifs true fun c r => if r = true then do let ok ← isTrue c env (eval c env); pure (ForInStep.yield ok) else pure (ForInStep.yield r)) (fun ok s₃ =>
            if ok = true then wpAny (model prog w) A (eval elt env) (fun x s₄ =>
              wpAny (model prog w) A (call (.builtin "list.append") [acc, x]) (fun _ s₅ => ∃ m, m < n ∧ I m s₅) (notedBy (model prog w) A env fun e s' => R (.error e) s') s₄) (notedBy (model prog w) A env fun e s' => R (.error e) s') s₃
            else ∃ m, m < n ∧ I m s₃) (notedBy (model prog w) A env fun e s' => R (.error e) s') s₂) (notedBy (model prog w) A env fun e s' => R (.error e) s') s₁') (notedBy (model prog w) A env fun e s' => R (.error e) s') s₁) (notedBy (model prog w) A env fun e s' => R (.error e) s') s)
    (n : Nat) (h : I n s) :
    codeAny (model prog w) A (.compLoop (.ListComp elt [⟨target, iter, ifs, 0⟩] scope pos) 0 it acc env) R s := by
  refine codeAny_loop rfl I (fun n s hI => ?_) n h
  show wpAny _ A ((compTurn (.ListComp elt [⟨target, iter, ifs, 0⟩] scope pos) 0 it acc env).onRaise (fun x => do noteFrame x env; theTreesLotGoes x)) _ _ s
  refine wpAny_noted ?_
  rw [compTurn_list]
  refine wpAny_bind (wpAny_standAt (wpAny_bind (wpAny_mono (turn n s hI) (fun r s₁ h₁ => ?_) fun _ _ h' => h')))
  cases r with
  | none => exact wpAny_pure h₁
  | some v =>
    refine wpAny_bind (wpAny_mono h₁ (fun _ s₁' h₁' => ?_) fun _ _ h' => h')
    refine wpAny_bind (wpAny_mono h₁' (fun _ s₂ h₂ => wpAny_bind (wpAny_mono h₂ (fun ok s₃ h₃ => ?_) fun _ _ h' => h')) fun _ _ h' => h')
    cases ok with
    | false => exact wpAny_pure ⟨rfl, h₃⟩
    | true =>
      exact wpAny_bind (wpAny_bind (wpAny_mono h₃ (fun x s₄ h₄ => wpAny_bind (wpAny_mono h₄ (fun _ s₅ h₅ => wpAny_pure (wpAny_pure ⟨rfl, h₅⟩)) fun _ _ h' => h')) fun _ _ h' => h'))

section
variable {X : Cx}
/-- [elt for target in iter if ..]: D the new list; W by the turn and a measure, Nx what a turn is to reach -/
def tLc (wi : TI) (g : TG) (tt : TT) (te : TE) (vs : List Nat) : TE := fun σ H Q => wi σ H fun J H1 => ∀ D, H1 D = none → ∃ W : Nat → Nat → Hp → Prop, (∃ m, W 0 m (upd H1 D (.lst []))) ∧ ∀ i m H, W i m H →
  (J.stop i H ∧ Q (.ref D) H) ∨ (J.go i H ∧ ∃ Nx : Hp → Prop, (∀ H', Nx H' → ∃ m', m' < m ∧ W (i + 1) m' H') ∧ ∀ x H', J.yld i H x H' → g x (wipe σ vs) H' fun σ2 H2 => wipe σ2 vs = wipe σ vs ∧ tt σ2 H2 fun b H3 =>
    if b = true then te σ2 H3 fun y H4 => ∃ acc, H4 D = some (.lst acc) ∧ acc.length < sizeLine ∧ Nx (upd H4 D (.lst (acc ++ [y]))) else Nx H3)
theorem lc_core {pins : List (Addr × Obj)} {s : Shared} {σ : St} {H : Hp} {Q : VK} {elt tg iter : Expr} {ifs : List Expr} {scope : Scope} {own : List (Str × Nat)} {pos pos' : Pos} {wi : TI} {g : TG} {tt : TT} {te : TE} {use : Option (Value → Sem Unit)} {Qf : Value → Shared → Prop}
    (hc : X.calm = true) (hN : X.N.Nodup) (I : Inv X pins σ H s) (hi : PI X tg iter wi) (ok : BlkOk X.N X.env.scope scope own)
    (hg : ∀ (s : Shared) (H : Hp) (C : Addr) (cl : List (Str × Addr)) (fp : List Addr), PG (X.blk s H scope (compEnvC scope cl C X.env) fp) tg g) (ht : ∀ (s : Shared) (H : Hp) (C : Addr) (cl : List (Str × Addr)) (fp : List Addr), PTs (X.blk s H scope (compEnvC scope cl C X.env) fp) ifs tt)
    (he : ∀ (s : Shared) (H : Hp) (C : Addr) (cl : List (Str × Addr)) (fp : List Addr), PE (X.blk s H scope (compEnvC scope cl C X.env) fp) elt te) (hs : ∀ x, foldedSetIterable iter X.env x = pure x)
    (h : tLc wi g tt te (own.map (·.2)) σ H Q)
    (hRR : ∀ D C s' m H', Inv X pins σ H' s' → Q (.ref D) H' → s'.heap.Ns C m → FpOk X pins H' C → compPost (model X.prog X.w) X.A X.xe use Qf (.ref D) C (.ok .next) s') :
    wpAny (model X.prog X.w) X.A (comprehension (.ListComp elt [⟨tg, iter, ifs, 0⟩] scope pos) scope X.env pos' (newList []) false (eval iter X.env) use) Qf X.xe s := by
  have hfree : ∀ y ∈ scope.names, y.2 = .free → ∃ c, X.env.cells.lookup y.1 = some c := fun y hy e => by
    rcases ok.free y hy e with k | k
    · exact I.ok.has _ (.inl k)
    · exact I.ok.has _ (.inr k)
  refine wpAny_comprehension_free (use := use) rfl hs (closure_ok hfree) ok.kind (fun y hy e => by rw [ok.uniq y hy, e])
    (thn (hi pins s σ H _ I h) fun xv s1 hx => thn hx fun itv s2 h2 => ?_)
  obtain ⟨it, fp, tn, J, H2, e, I2, T, st2, f2, q⟩ := h2
  subst e
  refine wpAny_newObj_type (newEnv_comp ?_) (by show 0 ≤ sizeLine; decide)
  generalize hD : s2.heap.objs.size = D
  have hDn : H2 D = none := I2.hok.fresh (Nat.le_of_eq hD)
  obtain ⟨W, ⟨m0, w0⟩, turn⟩ := q D hDn
  -- the new list
  generalize hs3 : ({ s2 with heap := s2.heap.push { cls := .type "list", data := .seq ([] : List Value).toArray } } : Shared) = s3
  have I3 : Inv X pins σ (upd H2 D (.lst [])) s3 := by
    rw [← hs3]
    refine I2.laid (t' := s2.toks) (fun b o e => Heap.get?_push_of_some _ e) (Nat.le_of_eq hD) ⟨Nat.zero_le _, [], 0, .nil, ?_⟩
    rw [← hD]
    exact Heap.get?_push_size _ rfl
  have h3 : s3.heap = s2.heap.push { cls := .type "list", data := .seq ([] : List Value).toArray } := by rw [← hs3]
  have sz : ∀ b ∈ fp, b < s2.heap.objs.size := fun b hb => by
    obtain ⟨o, e, _⟩ := T.obj _ _ st2 b hb
    exact Heap.lt_size e
  have f3 : ∀ b ∈ fp, FpOk X pins (upd H2 D (.lst [])) b ∧ b < s3.heap.objs.size := fun b hb => by
    have hlt := sz b hb
    refine ⟨⟨?_, (f2 b hb).2⟩, by rw [h3, Heap.size_push]; exact Nat.lt_succ_of_lt hlt⟩
    rw [upd_ne (by rw [← hD]; exact Nat.ne_of_lt hlt)]
    exact (f2 b hb).1
  have st3 : tn 0 s3.heap := T.keep _ _ _ st2 fun b _ o e => by rw [h3]; exact Heap.get?_push_of_some _ e
  have I4 := block_start I3 ok hN f3
  have pg := hg s3 (upd H2 D (.lst [])) s3.heap.objs.size (cellsFrom (s3.heap.objs.size + 1) scope.names (cloFrom X.env.cells scope.names [])) fp
  have pt := ht s3 (upd H2 D (.lst [])) s3.heap.objs.size (cellsFrom (s3.heap.objs.size + 1) scope.names (cloFrom X.env.cells scope.names [])) fp
  have pe := he s3 (upd H2 D (.lst [])) s3.heap.objs.size (cellsFrom (s3.heap.objs.size + 1) scope.names (cloFrom X.env.cells scope.names [])) fp
  show codeAny _ _ (.compStart (.ListComp elt [⟨tg, iter, ifs, 0⟩] scope pos) 0 (.ref it) (.ref D) (compEnvC scope (cellsFrom (s3.heap.objs.size + 1) scope.names (cloFrom X.env.cells scope.names [])) s3.heap.objs.size X.env)) (compPost (model X.prog X.w) X.A X.xe use Qf (.ref D) s3.heap.objs.size) { s3 with heap := pushCells (s3.heap.push { cls := .type "dict", data := .dict #[] }) scope.names }
  have nfp : ∀ b ∈ fp, (upd H2 D (.lst [])) b = none := fun b hb => (f3 b hb).1.1
  generalize hce : compEnvC scope (cellsFrom (s3.heap.objs.size + 1) scope.names (cloFrom X.env.cells scope.names [])) s3.heap.objs.size X.env = ce at I4 pg pt pe ⊢
  have cL : ce.locals = s3.heap.objs.size := by subst hce; rfl
  generalize hH3 : upd H2 D (.lst []) = H3 at I3 I4 pg pt pe w0 nfp f3
  generalize hs4 : ({ s3 with heap := pushCells (s3.heap.push { cls := .type "dict", data := .dict #[] }) scope.names } : Shared) = s4 at I4 ⊢
  have st4 : tn 0 s4.heap := T.keep _ _ _ st3 fun b _ o e => by rw [← hs4]; exact pushCells_keeps _ _ _ _ (Heap.get?_push_of_some _ e)
  have stat : ∀ {σ' : St} {H' : Hp} {s' : Shared}, Inv (X.blk s3 H3 scope ce fp) [] σ' H' s' → (∀ b ∈ fp, H' b = none) → ∀ b ∈ fp, FpOk (X.blk s3 H3 scope ce fp) [] H' b := fun {σ' H' s'} I' hn b hb =>
    ⟨hn b hb, (I'.ok.exf b hb).1, I'.ok.exfs b hb, .inl hb, fun x c e => (I'.ok.exf b hb).2 x c e, fun p hp => absurd (show p ∈ ([] : List (Addr × Obj)) ++ [] from hp) (by simp)⟩
  have loop : codeAny (model X.prog X.w) X.A (.compLoop (.ListComp elt [⟨tg, iter, ifs, 0⟩] scope pos) 0 (.ref it) (.ref D) ce) (compPost (model X.prog X.w) X.A X.xe use Qf (.ref D) s3.heap.objs.size) s4 := by
    refine compLoop_any (fun n s' => ∃ i H', Inv (X.blk s3 H3 scope ce fp) [] (wipe σ (own.map (·.2))) H' s' ∧ tn i s'.heap ∧ (∀ b ∈ fp, H' b = none) ∧ W i n H') ?_ m0 ⟨0, H3, I4, st4, nfp, w0⟩
    rintro n s5 ⟨i, H5, I5, st5, n5, w5⟩
    rcases turn i n H5 w5 with ⟨stop, qq⟩ | ⟨go, Nx, hNx, step⟩
    · have td := T.done (X.blk s3 H3 scope ce fp) rfl rfl rfl hc i [] s5 _ H5 (fun _ _ => False) I5 (stat I5 n5) st5 stop
      refine thnF td fun r s6 ⟨hr, I6⟩ => ?_
      subst hr
      -- back in the def's context
      have I7 : Inv X pins σ H5 s6 := I3.call' (ch := fp) I6.os I6.base I6.hok I6.bare fun b hb => ⟨(f3 b hb).1.2.2.2.1, (f3 b hb).1.2.1, (f3 b hb).1.2.2.2.2.1, (f3 b hb).1.2.2.2.2.2⟩
      have nC : H5 s3.heap.objs.size = none := by
        have z : H5 ce.locals = none := I6.free
        rw [cL] at z
        exact z
      obtain ⟨m, hn, _⟩ := I6.loc
      have hn : s6.heap.Ns ce.locals m := hn
      rw [cL] at hn
      exact hRR D s3.heap.objs.size s6 m H5 I7 qq hn (I3.fpOk (Nat.le_refl _) nC)
    · have ti := T.item (X.blk s3 H3 scope ce fp) rfl rfl rfl hc i [] s5 _ H5 (fun _ _ => False) I5 (stat I5 n5) st5 go
      refine thnF ti fun r s6 ⟨u, hr, h6⟩ => ?_
      subst hr
      refine thnF h6 fun _ s7 ⟨x, H7, I7, r7, y7, st7, n7⟩ => ?_
      have I7' := I7.pinned (stat I7 n7) (T.obj _ _ st7)
      refine thnF (pg _ s7 _ H7 x u _ I7' r7 (step x H7 y7)) fun _ s8 ⟨σ8, H8, I8, hw8, q8⟩ => ?_
      refine thnF (pt _ s8 σ8 H8 _ I8 q8) fun b s9 ⟨H9, I9, q9⟩ => ?_
      -- the turn's end
      have fin : ∀ {s' : Shared} {H' : Hp}, Inv (X.blk s3 H3 scope ce fp) ([] ++ pinsAt fp s7.heap) σ8 H' s' → Nx H' → ∃ m, m < n ∧ ∃ i H', Inv (X.blk s3 H3 scope ce fp) [] (wipe σ (own.map (·.2))) H' s' ∧ tn i s'.heap ∧ (∀ b ∈ fp, H' b = none) ∧ W i m H' := fun {s' H'} I' nx => by
        obtain ⟨m', hm, w'⟩ := hNx H' nx
        have pin' : ∀ b ∈ fp, ∀ o, s7.heap.get? b = some o → s'.heap.get? b = some o ∧ H' b = none := fun b hb o e =>
          let z := I'.pin (b, o) (List.mem_append_right _ (List.mem_append_right _ (mem_pinsAt hb e)))
          ⟨z.1, z.2.1⟩
        have hl : (wipe σ (own.map (·.2))).length = σ8.length := by rw [← hw8, wipe_length]
        refine ⟨m', hm, i + 1, H', (I'.unpinned (pins := [])).weak hl (fun j v e => ?_), T.keep _ _ _ st7 fun b hb o e => (pin' b hb o e).1, fun b hb => ?_, w'⟩
        · rw [← hw8] at e
          exact (wipe_some e).1
        · obtain ⟨o, e, _⟩ := T.obj _ _ st7 b hb
          exact (pin' b hb o e).2
      cases b with
      | false =>
        simp only [Bool.false_eq_true, if_false] at q9 ⊢
        exact fin I9 q9
      | true =>
        simp only [if_true] at q9 ⊢
        refine thnF (pe _ s9 σ8 H9 _ I9 q9) fun z s10 ⟨yv, H10, I10, r10, acc, hD10, hz10, nx⟩ => ?_
        exact app_ok (X := X.blk s3 H3 scope ce fp) I10 hD10 hz10 r10 fun s11 I11 => fin I11 nx
  exact codeAny_compStart_list loop (T.self X.A 0 _ _ _ st4 loop)
/-- as a value -/
theorem pe_lc {elt tg iter : Expr} {ifs : List Expr} {scope : Scope} {own : List (Str × Nat)} {pos : Pos} {wi : TI} {g : TG} {tt : TT} {te : TE} (hc : X.calm = true) (hN : X.N.Nodup) (hi : PI X tg iter wi) (ok : BlkOk X.N X.env.scope scope own)
    (hg : ∀ (s : Shared) (H : Hp) (C : Addr) (cl : List (Str × Addr)) (fp : List Addr), PG (X.blk s H scope (compEnvC scope cl C X.env) fp) tg g) (ht : ∀ (s : Shared) (H : Hp) (C : Addr) (cl : List (Str × Addr)) (fp : List Addr), PTs (X.blk s H scope (compEnvC scope cl C X.env) fp) ifs tt)
    (he : ∀ (s : Shared) (H : Hp) (C : Addr) (cl : List (Str × Addr)) (fp : List Addr), PE (X.blk s H scope (compEnvC scope cl C X.env) fp) elt te) (hs : ∀ x, foldedSetIterable iter X.env x = pure x := by intro _; rfl) :
    PE X (.ListComp elt [⟨tg, iter, ifs, 0⟩] scope pos) (tLc wi g tt te (own.map (·.2))) := by
  intro pins s σ H Q I h
  rw [eval_ListComp]
  refine lc_core hc hN I hi ok hg ht he hs h fun D C s' m H' I' q hn f => ⟨m, hn, fun h'' sb => ?_⟩
  obtain ⟨f0, f1, f2, f3, f4, f5⟩ := f
  exact ⟨.ref D, H', I'.turned (t' := s'.toks) (fun b o hb e => (sb.2 b hb).trans e) f0 f1 f3 f4 f5, rfl, q⟩
/-- name = [..] on one line, the name a local -/
theorem ps_setLc {i : Nat} {y : Str} {py : Pos} {elt tg iter : Expr} {ifs : List Expr} {scope : Scope} {own : List (Str × Nat)} {pos spos : Pos} {wi : TI} {g : TG} {tt : TT} {te : TE} (hc : X.calm = true) (hN : X.N.Nodup) (hy : X.N[i]? = some y) (hyl : X.env.scope.names.lookup y = some .local)
    (hsw : swapsWith (.ListComp elt [⟨tg, iter, ifs, 0⟩] scope pos) (some (.Name y py)) spos.line X.env = pure true) (hi : PI X tg iter wi) (ok : BlkOk X.N X.env.scope scope own)
    (hg : ∀ (s : Shared) (H : Hp) (C : Addr) (cl : List (Str × Addr)) (fp : List Addr), PG (X.blk s H scope (compEnvC scope cl C X.env) fp) tg g) (ht : ∀ (s : Shared) (H : Hp) (C : Addr) (cl : List (Str × Addr)) (fp : List Addr), PTs (X.blk s H scope (compEnvC scope cl C X.env) fp) ifs tt)
    (he : ∀ (s : Shared) (H : Hp) (C : Addr) (cl : List (Str × Addr)) (fp : List Addr), PE (X.blk s H scope (compEnvC scope cl C X.env) fp) elt te) (hs : ∀ x, foldedSetIterable iter X.env x = pure x := by intro _; rfl) :
    PS X (.Assign [.Name y py] (.ListComp elt [⟨tg, iter, ifs, 0⟩] scope pos) spos) (tAsg (tLc wi g tt te (own.map (·.2))) (gName i)) := by
  intro pins s σ H D I h
  rw [exec_Assign_Name_used _ _ _ _ hsw]
  refine wpAny_bind (wpAny_standAt (wpAny_bind ?_))
  show wpAny _ X.A (do let _ ← comprehension (.ListComp elt [⟨tg, iter, ifs, 0⟩] scope pos) scope X.env (firstIterPos [⟨tg, iter, ifs, 0⟩] pos) (newList []) false (eval iter X.env) (some (assign (.Name y py) X.env))) _ _ s
  have h : tLc wi g tt te (own.map (·.2)) σ H (fun x H1 => gName i x σ H1 D.nx) := h
  refine wpAny_bind (thn (lc_core (Qf := fun _ s' => SP X pins D .next s') hc hN I hi ok hg ht he hs h fun L C s' m H' I' q hn f => ?_) fun _ s' hq => wpAny_pure (wpAny_pure hq))
  show wpAny _ _ (assign (.Name y py) X.env (.ref L)) _ _ _
  refine wpAny_assign_Name (store_ok2 (v := V.ref L) I' hN hy (.inl hyl) rfl (fun s2 I2 ⟨a, sb, ha⟩ => ?_) (.inr hyl))
  obtain ⟨f0, f1, f2, f3, f4, f5⟩ := f
  have haC : C ≠ a := by
    rcases ha with z | z
    · rw [z]; exact f1
    · exact fun e => f4 y a z e.symm
  refine ⟨m, hn.sameBut sb haC, fun h3 sb3 => ?_⟩
  exact ⟨_, H', I2.turned (t' := s2.toks) (fun b o hb e => (sb3.2 b hb).trans e) f0 f1 f3 f4 f5, q⟩
theorem sw_true {elt : Expr} {gs : List Comprehension} {scope : Scope} {pos py : Pos} {y : Str} {l : Nat} {env : Env} (hk : env.scope.kind = .function) (hy : env.scope.names.lookup y = some .local) (hl : (py.line == pos.line) = true)
    (ha : (scope.names.any fun (n, k) => n == y && (k == .local || k == .cell)) = false) : swapsWith (.ListComp elt gs scope pos) (some (.Name y py)) l env = pure true := by
  have ky : env.kindOf y = some .local := hy
  have hb : env.blockKind = .function := by unfold Env.blockKind; rw [hk]; rfl
  unfold swapsWith
  simp only [hb, ky, ha, Expr.pos, hl]
  rfl
end

/-! ### the forms one uses -/
/-- over a range: Pv by the turn and the heap (the new list at D within) -/
theorem lc_range {lo : Int} {n : Nat} {g : TG} {tt : TT} {te : TE} {vs : List Nat} {σ : St} {H1 : Hp} {D : Addr} {Qd : Hp → Prop} (Pv : Nat → Hp → Prop) (h0 : Pv 0 (upd H1 D (.lst [])))
    (hs : ∀ i H, i < n → Pv i H → g (.int (lo + i)) (wipe σ vs) H fun σ2 H2 => wipe σ2 vs = wipe σ vs ∧ tt σ2 H2 fun b H3 =>
      if b = true then te σ2 H3 fun y H4 => ∃ acc, H4 D = some (.lst acc) ∧ acc.length < sizeLine ∧ Pv (i + 1) (upd H4 D (.lst (acc ++ [y]))) else Pv (i + 1) H3) (hd : ∀ H, Pv n H → Qd H) :
    ∃ W : Nat → Nat → Hp → Prop, (∃ m, W 0 m (upd H1 D (.lst []))) ∧ ∀ i m H, W i m H →
      ((Itr lo n).stop i H ∧ Qd H) ∨ ((Itr lo n).go i H ∧ ∃ Nx : Hp → Prop, (∀ H', Nx H' → ∃ m', m' < m ∧ W (i + 1) m' H') ∧ ∀ x H', (Itr lo n).yld i H x H' → g x (wipe σ vs) H' fun σ2 H2 => wipe σ2 vs = wipe σ vs ∧ tt σ2 H2 fun b H3 =>
        if b = true then te σ2 H3 fun y H4 => ∃ acc, H4 D = some (.lst acc) ∧ acc.length < sizeLine ∧ Nx (upd H4 D (.lst (acc ++ [y]))) else Nx H3) := by
  refine ⟨fun i m H => m = n - i ∧ i ≤ n ∧ Pv i H, ⟨n, by simp, Nat.zero_le _, h0⟩, ?_⟩
  rintro i m H ⟨rfl, hi, p⟩
  by_cases hlt : i < n
  · refine .inr ⟨hlt, Pv (i + 1), fun H' p' => ⟨n - (i + 1), by omega, rfl, hlt, p'⟩, fun x H' y => ?_⟩
    obtain ⟨e, y⟩ := y
    subst e y
    exact hs i _ hlt p
  · have e : i = n := by omega
    subst e
    exact .inl ⟨Nat.le_refl _, hd H p⟩
/-- over a list that the block leaves as it is -/
theorem lc_list {K : PySem.W.Frag} {a : Addr} {xs : List V} {g : TG} {tt : TT} {te : TE} {vs : List Nat} {σ : St} {H1 : Hp} {D : Addr} {Qd : Hp → Prop} (Pv : Nat → Hp → Prop) (h0 : Pv 0 (upd H1 D (.lst []))) (hl : ∀ i H, i ≤ xs.length → Pv i H → SqL K H a xs)
    (hs : ∀ i x H, xs[i]? = some x → Pv i H → g x (wipe σ vs) H fun σ2 H2 => wipe σ2 vs = wipe σ vs ∧ tt σ2 H2 fun b H3 =>
      if b = true then te σ2 H3 fun y H4 => ∃ acc, H4 D = some (.lst acc) ∧ acc.length < sizeLine ∧ Pv (i + 1) (upd H4 D (.lst (acc ++ [y]))) else Pv (i + 1) H3) (hd : ∀ H, Pv xs.length H → Qd H) :
    ∃ W : Nat → Nat → Hp → Prop, (∃ m, W 0 m (upd H1 D (.lst []))) ∧ ∀ i m H, W i m H →
      ((Itl K a).stop i H ∧ Qd H) ∨ ((Itl K a).go i H ∧ ∃ Nx : Hp → Prop, (∀ H', Nx H' → ∃ m', m' < m ∧ W (i + 1) m' H') ∧ ∀ x H', (Itl K a).yld i H x H' → g x (wipe σ vs) H' fun σ2 H2 => wipe σ2 vs = wipe σ vs ∧ tt σ2 H2 fun b H3 =>
        if b = true then te σ2 H3 fun y H4 => ∃ acc, H4 D = some (.lst acc) ∧ acc.length < sizeLine ∧ Nx (upd H4 D (.lst (acc ++ [y]))) else Nx H3) := by
  refine ⟨fun i m H => m = xs.length - i ∧ i ≤ xs.length ∧ Pv i H, ⟨xs.length, by simp, Nat.zero_le _, h0⟩, ?_⟩
  rintro i m H ⟨rfl, hi, p⟩
  have q := hl i H hi p
  by_cases hlt : i < xs.length
  · refine .inr ⟨⟨xs, xs[i], q, by simp [hlt]⟩, Pv (i + 1), fun H' p' => ⟨xs.length - (i + 1), by omega, rfl, hlt, p'⟩, fun x H' y => ?_⟩
    obtain ⟨e, y⟩ := y
    subst e
    exact hs i x _ (y xs q) p
  · have e : i = xs.length := by omega
    subst e
    exact .inl ⟨⟨xs, q, Nat.le_refl _⟩, hd H p⟩
def blkC (N : List Str) (sc scope : Scope) (own : List (Str × Nat)) : Bool :=
  (match scope.kind with | .function => true | _ => false) && (scope.names.all fun y => decide (scope.names.lookup y.1 = some y.2)) && (own.all fun p => decide (N[p.2]? = some p.1)) &&
    (scope.names.all fun y => match y.2 with
      | .free => (match sc.names.lookup y.1 with | some .cell => true | some .free => true | _ => false)
      | .local => decide (y.1 ∈ own.map (·.1)) || decide (y.1 ∉ N)
      | .cell => decide (y.1 ∈ own.map (·.1)) || decide (y.1 ∉ N)
      | _ => true)
theorem blkOk_by {N : List Str} {sc scope : Scope} {own : List (Str × Nat)} (h : blkC N sc scope own = true) : BlkOk N sc scope own := by
  unfold blkC at h
  simp only [Bool.and_eq_true, List.all_eq_true, decide_eq_true_eq] at h
  obtain ⟨⟨⟨h1, h2⟩, h3⟩, h4⟩ := h
  refine ⟨?_, h2, h3, fun y hy e => ?_, fun y hy e => ?_⟩
  · split at h1
    · assumption
    · cases h1
  · have q := h4 y hy
    simp only [e] at q
    split at q <;> first | exact .inl (by assumption) | exact .inr (by assumption) | cases q
  · have q := h4 y hy
    rcases e with e | e <;> (simp only [e, Bool.or_eq_true, decide_eq_true_eq] at q; exact q)
end L2

namespace L2
open PySem PySem.Spec PyProof.Rows

section
variable {prog : Program} {w : World} {A : Around} {R : Result → Shared → Prop} {s : Shared} {elt t0 i0 t1 i1 : Expr} {ifs0 ifs1 : List Expr} {scope : Scope} {pos : Pos} {it acc : Value} {env : Env}
end

theorem wipe_out {σ : St} {i : Nat} : ∀ {vs : List Nat}, i ∉ vs → (wipe σ vs)[i]? = σ[i]?
  | [], _ => rfl
  | v :: vs, h => by
    have h1 : v ≠ i := fun e => h (by rw [e]; exact List.mem_cons_self)
    have h2 : i ∉ vs := fun m => h (List.mem_cons_of_mem _ m)
    unfold wipe
    rw [List.getElem?_set_ne h1]
    exact wipe_out h2
section
variable {X : Cx}
/-- [elt for tg in iter if .. for tg1 in iter1 if ..]: behind the first clause's store and tests the second source's own loop, from which Nx is reached. vs: the block's names; vs1: those of the second target -/
def tLc2 (wi : TI) (g : TG) (tt : TT) (wi1 : TI) (g1 : TG) (tt1 : TT) (te : TE) (vs vs1 : List Nat) : TE := fun σ H Q => wi σ H fun J H1 => ∀ D, H1 D = none → ∃ W : Nat → Nat → Hp → Prop, (∃ m, W 0 m (upd H1 D (.lst []))) ∧ ∀ i m H, W i m H →
  (J.stop i H ∧ Q (.ref D) H) ∨ (J.go i H ∧ ∃ Nx : Hp → Prop, (∀ H', Nx H' → ∃ m', m' < m ∧ W (i + 1) m' H') ∧ ∀ x H', J.yld i H x H' → g x (wipe σ vs) H' fun σ2 H2 => wipe σ2 vs = wipe σ vs ∧ tt σ2 H2 fun b H3 =>
    if b = true then wi1 σ2 H3 fun J1 H4 => ∃ W1 : Nat → Nat → Hp → Prop, (∃ m, W1 0 m H4) ∧ ∀ j k H, W1 j k H →
      (J1.stop j H ∧ Nx H) ∨ (J1.go j H ∧ ∃ Nx1 : Hp → Prop, (∀ H', Nx1 H' → ∃ k', k' < k ∧ W1 (j + 1) k' H') ∧ ∀ x H', J1.yld j H x H' → g1 x (wipe σ2 vs1) H' fun σ3 H5 => wipe σ3 vs1 = wipe σ2 vs1 ∧ tt1 σ3 H5 fun b H6 =>
        if b = true then te σ3 H6 fun y H7 => ∃ acc, H7 D = some (.lst acc) ∧ acc.length < sizeLine ∧ Nx1 (upd H7 D (.lst (acc ++ [y]))) else Nx1 H6)
    else Nx H3)
end
end L2

namespace L2
open PySem PySem.Spec PyProof.Rows

/-! ### lists of pairs as tables -/
section
variable {κ : Type} [DecidableEq κ]
def valV (kvs : List (κ × V)) (k : κ) : Option V := (kvs.find? fun kv => decide (kv.1 = k)).map (·.2)
/-- in its place, or at the end -/
def putK (kvs : List (κ × V)) (k : κ) (v : V) : List (κ × V) :=
  if (kvs.any fun kv => decide (kv.1 = k)) = true then kvs.map (fun kv => if kv.1 = k then (kv.1, v) else kv) else kvs ++ [(k, v)]
def dropK (kvs : List (κ × V)) (k : κ) : List (κ × V) := kvs.filter fun kv => decide (kv.1 ≠ k)

theorem valV_pos {p : κ × V} {r : List (κ × V)} {k : κ} (e : p.1 = k) : valV (p :: r) k = some p.2 := by simp [valV, List.find?_cons, e]
theorem valV_neg {p : κ × V} {r : List (κ × V)} {k : κ} (e : ¬ p.1 = k) : valV (p :: r) k = valV r k := by simp [valV, List.find?_cons, e]
theorem valV_any (k : κ) : ∀ kvs : List (κ × V), (kvs.any fun kv => decide (kv.1 = k)) = (valV kvs k).isSome
  | [] => rfl
  | p :: r => by
    rw [List.any_cons]
    by_cases e : p.1 = k
    · simp only [valV_pos e, decide_eq_true e, Bool.true_or, Option.isSome_some]
    · rw [valV_neg e, decide_eq_false e, Bool.false_or]; exact valV_any k r
theorem length_putK (kvs : List (κ × V)) (k : κ) (v : V) : (putK kvs k v).length ≤ kvs.length + 1 := by
  unfold putK
  split
  · rw [List.length_map]; omega
  · rw [List.length_append, List.length_cons, List.length_nil]; omega
theorem RelO.isSome_eq {o : Option V} {u : Option Value} (r : RelO o u) : o.isSome = u.isSome := by
  cases o with
  | none => cases u with
    | none => rfl
    | some _ => exact (show False from r).elim
  | some _ => cases u with
    | none => exact (show False from r).elim
    | some _ => rfl
/-- raw tables of the same keys -/
theorem KV.val {kvs : List (κ × V)} {vs : List (κ × Value)} (r : KV kvs vs) (k : κ) : RelO (valV kvs k) (valueAt vs k) := by
  unfold KV at r
  induction r with
  | nil => exact True.intro
  | @cons p q ps qs h t ih =>
    obtain ⟨h1, h2⟩ := h
    by_cases e : p.1 = k
    · have e' : q.1 = k := h1.symm.trans e
      have b : valueAt (q :: qs) k = some q.2 := by simp [valueAt, List.find?_cons, e']
      rw [valV_pos e, b]; exact h2
    · have e' : ¬ q.1 = k := fun z => e (h1.trans z)
      have b : valueAt (q :: qs) k = valueAt qs k := by simp [valueAt, List.find?_cons, e']
      rw [valV_neg e, b]; exact ih
theorem KV.any {kvs : List (κ × V)} {vs : List (κ × Value)} (r : KV kvs vs) (k : κ) : (kvs.any fun kv => decide (kv.1 = k)) = vs.any fun kv => decide (kv.1 = k) := by
  unfold KV at r
  induction r with
  | nil => rfl
  | cons h t ih => rw [List.any_cons, List.any_cons, ih, h.1]
theorem KV.repl {kvs : List (κ × V)} {vs : List (κ × Value)} (r : KV kvs vs) (k : κ) {y : V} {u : Value} (ry : RelV y u) :
    KV (kvs.map fun kv => if kv.1 = k then (kv.1, y) else kv) (vs.map fun kv => if kv.1 = k then (kv.1, u) else kv) := by
  unfold KV at r ⊢
  induction r with
  | nil => exact .nil
  | @cons p q ps qs h t ih =>
    rw [List.map_cons, List.map_cons]
    refine .cons ?_ ih
    obtain ⟨h1, h2⟩ := h
    by_cases e : p.1 = k
    · rw [if_pos e, if_pos (h1.symm.trans e)]; exact ⟨h1, ry⟩
    · rw [if_neg e, if_neg (fun z => e (h1.trans z))]; exact ⟨h1, h2⟩
theorem KV.put {kvs : List (κ × V)} {vs : List (κ × Value)} (r : KV kvs vs) (k : κ) {y : V} {u : Value} (ry : RelV y u) : KV (putK kvs k y) (stored vs k u) := by
  unfold putK stored
  rw [r.any k]
  by_cases e : (vs.any fun kv => decide (kv.1 = k)) = true
  · rw [if_pos e, if_pos e]; exact r.repl k ry
  · rw [if_neg e, if_neg e]; exact Paired.snoc r ⟨rfl, ry⟩
theorem KV.length {kvs : List (κ × V)} {vs : List (κ × Value)} (r : KV kvs vs) : kvs.length = vs.length := Paired.length r
end


/-! ### a tracked dict, its keys ints and texts or tuples of these -/
theorem kV_is {P : Program} {w : World} {k : Key} {u : Value} (r : RelV (kV k) u) : (mixKind P w).is k u = true := by
  cases k with
  | inl i => obtain ⟨t, e⟩ := (show ∃ t, u = Value.int i t from r); subst e; exact mixKind_int P w i t
  | inr x => obtain ⟨t, e⟩ := (show ∃ t, u = Value.str x t from r); subst e; exact mixKind_str P w x t
theorem items_are {P : Program} {w : World} : ∀ {ks : List Key} {us : List Value}, Vals (ks.map kV) us → ItemsAre (mixKind P w) ks us
  | [], _, r => by rw [List.map_nil] at r; cases r; exact .nil
  | k :: ks, _, r => by
    rw [List.map_cons] at r
    cases r with
    | cons h t => exact .cons (kV_is h) (items_are t)

/-- raw entries of a dict with tuple keys -/
abbrev KT (H : Hp) : List (List Key × V) → List (List Key × Addr × Value) → Prop := Paired fun p q => p.1 = q.1 ∧ H q.2.1 = some (.tup (p.1.map kV)) ∧ RelV p.2 q.2.2
theorem KT.val {H : Hp} {kvs : List (List Key × V)} {xs : List (List Key × Addr × Value)} (r : KT H kvs xs) (k : List Key) : RelO (valV kvs k) ((atKey xs k).map (·.2)) := by
  induction r with
  | nil => exact True.intro
  | @cons p q ps qs h t ih =>
    obtain ⟨h1, _, h2⟩ := h
    by_cases e : p.1 = k
    · have e' : q.1 = k := h1.symm.trans e
      have b : atKey (q :: qs) k = some q.2 := by simp [atKey, List.find?_cons, e']
      rw [valV_pos e, b]; exact h2
    · have e' : ¬ q.1 = k := fun z => e (h1.trans z)
      have b : atKey (q :: qs) k = atKey qs k := by simp [atKey, List.find?_cons, e']
      rw [valV_neg e, b]; exact ih
theorem KT.repl {H : Hp} {kvs : List (List Key × V)} {xs : List (List Key × Addr × Value)} (r : KT H kvs xs) (k : List Key) {y : V} {u : Value} (ry : RelV y u) :
    KT H (kvs.map fun kv => if kv.1 = k then (kv.1, y) else kv) (xs.map (putAt k u)) := by
  induction r with
  | nil => exact .nil
  | @cons p q ps qs h t ih =>
    rw [List.map_cons, List.map_cons]
    refine .cons ?_ ih
    obtain ⟨h1, h2, h3⟩ := h
    unfold putAt
    by_cases e : p.1 = k
    · rw [if_pos e, if_pos (h1.symm.trans e)]; exact ⟨h1, h2, ry⟩
    · rw [if_neg e, if_neg (fun z => e (h1.trans z))]; exact ⟨h1, h2, h3⟩
theorem KT.put {H : Hp} {kvs : List (List Key × V)} {xs : List (List Key × Addr × Value)} (r : KT H kvs xs) (k : List Key) {b : Addr} {y : V} {u : Value} (hb : H b = some (.tup (k.map kV))) (ry : RelV y u) :
    KT H (putK kvs k y) (storedH xs k b u) := by
  have e : (kvs.any fun kv => decide (kv.1 = k)) = (atKey xs k).isSome := by
    rw [valV_any, (r.val k).isSome_eq, Option.isSome_map]
  unfold putK storedH
  rw [e]
  by_cases q : (atKey xs k).isSome = true
  · rw [if_pos q, if_pos q]; exact r.repl k ry
  · rw [if_neg q, if_neg q]; exact Paired.snoc r ⟨rfl, hb, ry⟩
theorem KT.keeps {H H' : Hp} {kvs : List (List Key × V)} {xs : List (List Key × Addr × Value)} (r : KT H kvs xs) (ht : ∀ b ys, H b = some (.tup ys) → H' b = some (.tup ys)) : KT H' kvs xs :=
  Paired.mapP r fun _ _ z => ⟨z.1, ht _ _ z.2.1, z.2.2⟩

section
variable {P : Program} {w : World} {H : Hp} {h : Heap} {a : Addr}
theorem rd_of {u : HO} (ok : HOk P w H h) (e : Rd H a u) : ObjOk P w H h a u := e.ok ok
theorem dk_rd {kvs : List (Key × V)} (ok : HOk P w H h) (e : Rd H a (.dK kvs)) : kvs.length ≤ sizeLine ∧ (a == sysModules) = false ∧ ∃ vs, KV kvs vs ∧ h.DictOf (mixKind P w) a vs :=
  show ObjOk P w H h a (.dK kvs) from rd_of ok e
theorem dk_of {kvs : List (Key × V)} (ok : HOk P w H h) (e : H a = some (.dK kvs)) : kvs.length ≤ sizeLine ∧ (a == sysModules) = false ∧ ∃ vs, KV kvs vs ∧ h.DictOf (mixKind P w) a vs := dk_rd ok (.inl e)
/-- a tracked tuple of ints and texts is a key -/
theorem key_of {ks : List Key} (ok : HOk P w H h) (e : H a = some (.tup (ks.map kV))) : (tupleKind (mixKind P w)).is h ks a := by
  obtain ⟨_, its, r, o, h1, h2, n, h3⟩ := (show ObjOk P w H h a (.tup (ks.map kV)) from ok a _ e)
  exact ⟨o, its.toArray, n, h1, h2, h3, by simpa using items_are r⟩
theorem dt_rd {kvs : List (List Key × V)} (ok : HOk P w H h) (e : Rd H a (.dT kvs)) : kvs.length ≤ sizeLine ∧ (a == sysModules) = false ∧
    ∃ xs, KT H kvs xs ∧ h.DictOfH (tupleKind (mixKind P w)) a xs := by
  obtain ⟨z, y, xs, r, o, es, ep, h1, h2, h3, h4, h5⟩ := (show ObjOk P w H h a (.dT kvs) from rd_of ok e)
  refine ⟨z, y, xs, r, o, es, ep, h1, h2, h3, h4, fun x hx => ?_, h5⟩
  have all : ∀ {l : List (List Key × V)} {m : List (List Key × Addr × Value)}, KT H l m → ∀ x ∈ m, (tupleKind (mixKind P w)).is h x.1 x.2.1 := by
    intro l m q
    induction q with
    | nil => intro x hx; exact nomatch hx
    | @cons p q ps qs hq t ih =>
      intro x hx
      rcases List.mem_cons.mp hx with e | hx
      · subst e
        exact key_of ok (by rw [← hq.1]; exact hq.2.1)
      · exact ih x hx
  exact all r x hx
theorem dt_of {kvs : List (List Key × V)} (ok : HOk P w H h) (e : H a = some (.dT kvs)) : kvs.length ≤ sizeLine ∧ (a == sysModules) = false ∧
    ∃ xs, KT H kvs xs ∧ h.DictOfH (tupleKind (mixKind P w)) a xs := dt_rd ok (.inl e)
end

/-- what the dict at a holds at the key y -/
def DGet (H : Hp) (a : Addr) (y : V) (r : Option V) : Prop :=
  (∃ kvs k, Rd H a (.dK kvs) ∧ y = kV k ∧ r = valV kvs k) ∨ ∃ kvs k b, Rd H a (.dT kvs) ∧ y = .ref b ∧ H b = some (.tup (k.map kV)) ∧ r = valV kvs k
/-- the heap behind a[y] = v -/
def DPut (H : Hp) (a : Addr) (y v : V) (H' : Hp) : Prop :=
  (∃ kvs k, H a = some (.dK kvs) ∧ y = kV k ∧ kvs.length < sizeLine ∧ H' = upd H a (.dK (putK kvs k v))) ∨
  ∃ kvs k b, H a = some (.dT kvs) ∧ y = .ref b ∧ H b = some (.tup (k.map kV)) ∧ kvs.length < sizeLine ∧ H' = upd H a (.dT (putK kvs k v))
theorem DGet.t {H : Hp} {a b : Addr} {kvs : List (List Key × V)} {k : List Key} (e : H a = some (.dT kvs)) (eb : H b = some (.tup (k.map kV))) : DGet H a (.ref b) (valV kvs k) := .inr ⟨kvs, k, b, .inl e, rfl, eb, rfl⟩
theorem DPut.t {H : Hp} {a b : Addr} {kvs : List (List Key × V)} {k : List Key} {v : V} (e : H a = some (.dT kvs)) (eb : H b = some (.tup (k.map kV))) (hl : kvs.length < sizeLine) :
    DPut H a (.ref b) v (upd H a (.dT (putK kvs k v))) := .inr ⟨kvs, k, b, e, rfl, eb, hl, rfl⟩


section
variable {X : Cx} {pins : List (Addr × Obj)} {σ : St} {H : Hp} {s : Shared} {a : Addr} {y v : V} {u r : Value} {o : Option V} {A : Around} {E : Value → Shared → Prop}

theorem Inv.big (I : Inv X pins σ H s) : sysModules < s.heap.objs.size := by
  have h : mainGlobals < s.heap.objs.size := (I.mod.glob.keeps I.bk).lt
  exact Nat.lt_trans (by decide) h

/-- d[y], there -/
theorem d_getItem {Q : Value → Shared → Prop} (hu : A.units + 1 < cLine) (I : Inv X pins σ H s) (g : DGet H a y (some v)) (ry : RelV y u) (h : ∀ w' s', Inv X pins σ H s' → RelV v w' → Q w' s') :
    wpAny (model X.prog X.w) A (getItem (.ref a) u) Q E s := by
  rcases g with ⟨kvs, k, e, ey, l⟩ | ⟨kvs, k, b, e, ey, eb, l⟩
  · subst ey
    obtain ⟨z, hd, vs, rel, dd⟩ := dk_rd I.hok e
    obtain ⟨w', hw, rw'⟩ := RelO.some_of (v := v) (o := valueAt vs k) (by rw [l]; exact rel.val k)
    exact wpAny_getItem_of (kV_is ry) dd.mapOf hw (h w' _ (I.tok _) rw')
  · subst ey
    cases (show u = Value.ref b from ry)
    obtain ⟨z, hd, xs, rel, dd⟩ := dt_rd I.hok e
    obtain ⟨w', hw, rw'⟩ := RelO.some_of (v := v) (o := (atKey xs k).map (·.2)) (by rw [l]; exact rel.val k)
    obtain ⟨p, hp, hp2⟩ := Option.map_eq_some_iff.mp hw
    refine wpAny_getItem_heap (tupleKind_room_in1 hu) (key_of I.hok eb) dd hp ?_
    rw [hp2]
    exact h w' _ (I.tok _) rw'
theorem d_notIn {Q : Value → Shared → Prop} (hu : A.units + 1 < cLine) (I : Inv X pins σ H s) (g : DGet H a y o) (ry : RelV y u) (h : ∀ s', Inv X pins σ H s' → Q (.bool (!o.isSome)) s') :
    wpAny (model X.prog X.w) A (compareOp .NotIn u (.ref a)) Q E s := by
  rcases g with ⟨kvs, k, e, ey, l⟩ | ⟨kvs, k, b, e, ey, eb, l⟩
  · subst ey
    obtain ⟨z, hd, vs, rel, dd⟩ := dk_rd I.hok e
    refine wpAny_notIn_of (kV_is ry) hd dd.mapOf ?_
    rw [← (rel.val k).isSome_eq, ← l]
    exact h _ (I.tok _)
  · subst ey
    cases (show u = Value.ref b from ry)
    obtain ⟨z, hd, xs, rel, dd⟩ := dt_rd I.hok e
    refine wpAny_notIn_heap (tupleKind_room_in1 hu) (key_of I.hok eb) hd dd ?_
    have q := (rel.val k).isSome_eq
    rw [Option.isSome_map] at q
    rw [← q, ← l]
    exact h _ (I.tok _)
/-- a dict's object is replaced -/
theorem d_write {h' : Heap} {t' : Nat} {ob : HO} (I : Inv X pins σ H s) (mu : Mut (H a)) (hs : Heap.SameBut a s.heap h') (he : ∃ q, h'.get? a = some q) (new : ObjOk X.prog X.w (upd H a ob) h' a ob) :
    Inv X pins σ (upd H a ob) { s with heap := h', toks := t' } :=
  I.write (x := a) (e := a) mu (.inl rfl) (fun b q hb z => (hs.2 b hb).trans z) he new
theorem dk_new {P : Program} {w : World} {H' : Hp} {h' : Heap} {kvs : List (Key × V)} {vs : List (Key × Value)} (z : kvs.length ≤ sizeLine) (hd : (a == sysModules) = false) (rel : KV kvs vs) (dd : h'.DictOf (mixKind P w) a vs) :
    ObjOk P w H' h' a (.dK kvs) := ⟨z, hd, vs, rel, dd⟩
/-- d[y] = v -/
theorem d_setItem {H' : Hp} {Q : Unit → Shared → Prop} (hu : A.units + 1 < cLine) (I : Inv X pins σ H s) (g : DPut H a y v H') (ry : RelV y u) (rv : RelV v r) (h : ∀ s', Inv X pins σ H' s' → Q () s') :
    wpAny (model X.prog X.w) A (setItem (.ref a) u r) Q E s := by
  rcases g with ⟨kvs, k, e, ey, l, eH⟩ | ⟨kvs, k, b, e, ey, eb, l, eH⟩
  · subst ey eH
    obtain ⟨z, hd, vs, rel, dd⟩ := dk_of I.hok e
    have hz : vs.length ≤ sizeLine := by rw [← rel.length]; exact z
    have hl : (putK kvs k v).length ≤ sizeLine := by have := length_putK kvs k v; omega
    refine wpAny_setItem_pairs (hsz := hz) (kV_is ry) dd fun h' dd' hs => h _ ?_
    have he : ∃ q, h'.get? a = some q := let ⟨q, _, _, hq, _⟩ := dd'; ⟨q, hq⟩
    exact d_write I (by rw [e]; exact True.intro) hs he (dk_new hl hd (rel.put k rv) dd')
  · subst ey eH
    cases (show u = Value.ref b from ry)
    obtain ⟨z, hd, xs, rel, dd⟩ := dt_of I.hok e
    have hz : xs.length ≤ sizeLine := by rw [← Paired.length rel]; exact z
    have hl : (putK kvs k v).length ≤ sizeLine := by have := length_putK kvs k v; omega
    refine wpAny_setItem_heap (hsz := hz) (tupleKind_room_in1 hu) (key_of I.hok eb) dd fun h' dd' hs => h _ ?_
    obtain ⟨q, es, ep, hq, h2, h3, h4, _, h5⟩ := dd'
    refine d_write I (by rw [e]; exact True.intro) hs ⟨q, hq⟩ ⟨hl, hd, _, (rel.put k eb rv).keeps fun c ys ec => ?_, q, es, ep, hq, h2, h3, h4, h5⟩
    rw [upd_ne (ne_of ec e (fun z => nomatch z))]
    exact ec
end

section
variable {X : Cx} {pins : List (Addr × Obj)} {σ : St} {H : Hp} {s : Shared} {a : Addr} {kvs : List (Key × V)} {k : Key} {u : Value} {A : Around} {E : Value → Shared → Prop}
end


/-! ### readings and rules -/
/-- the element of a subscription, not a slice -/
def NoSl (i : Expr) : Prop := ∀ ov iv, subscripted i false ov iv = operate [ov, iv] (getItem ov iv)
theorem subD_of {prog : Program} {w : World} {A : Around} {E : Value → Shared → Prop} {s : Shared} {env : Env} {value slice : Expr} {pos : Pos} {T id : String} {Q : Value → Shared → Prop}
    (hl : typeLookup (.type T) "__getitem__" = pure (some (.builtin id))) (hs : NoSl slice)
    (h : wpAny (model prog w) A (eval value env) (fun o s₁ => wpAny (model prog w) A (eval slice env) (fun i s₂ => s₂.TypeIs o T ∧ wpAny (model prog w) A (getItem o i) Q E s₂) E s₁) E s) :
    wpAny (model prog w) A (eval (.Subscript value slice pos) env) Q E s := by
  refine Subscript_ (wpAny_mono h (fun o s₁ h₁ => wpAny_mono h₁ (fun i s₂ h₂ => ?_) fun _ _ x => x) fun _ _ x => x)
  obtain ⟨hT, h₂⟩ := h₂
  unfold subscriptTail
  refine wpAny_bind ?_
  rw [getitemInPython_of_ne hT.not_modules]
  refine wpAny_bind (wpAny_specialOf hT hl ?_)
  have fin : wpAny (model prog w) A (subscripted slice false o i) (fun r s₃ => wpAny (model prog w) A (letTemporaryGo value o r >>= fun _ => pure r) Q E s₃) E s₂ := by
    rw [hs o i]
    exact wpAny_operating (wpAny_mono h₂ (fun r s₃ h₃ => wpAny_bind (wpAny_letTemporaryGo (wpAny_pure h₃))) fun _ _ x => x)
  first
    | exact wpAny_pure (wpAny_bind fin)
    | exact wpAny_bind (wpAny_pure (wpAny_bind fin))
    | exact wpAny_bind fin

theorem dict_typeIs {X : Cx} {pins : List (Addr × Obj)} {σ : St} {H : Hp} {s : Shared} {a : Addr} {y : V} {o : Option V} (I : Inv X pins σ H s) (g : DGet H a y o) : s.TypeIs (.ref a) "dict" := by
  rcases g with ⟨kvs, k, e, _, _⟩ | ⟨kvs, k, b, e, _, _, _⟩
  · obtain ⟨_, _, vs, _, dd⟩ := dk_rd I.hok e
    exact dd.typeIs
  · obtain ⟨_, _, xs, _, dd⟩ := dt_rd I.hok e
    exact dd.typeIs
/-- d[y] -/
def tDGet (td ty : TE) : TE := fun σ H Q => td σ H fun x H1 => ty σ H1 fun y H2 => ∃ a v, x = .ref a ∧ DGet H2 a y (some v) ∧ Q v H2
/-- y in d, y not in d -/
def tDIn (ty td : TE) : TE := fun σ H Q => ty σ H fun y H1 => td σ H1 fun x H2 => ∃ a o, x = .ref a ∧ DGet H2 a y o ∧ Q (.bl o.isSome) H2
def tDNotIn (ty td : TE) : TE := fun σ H Q => ty σ H fun y H1 => td σ H1 fun x H2 => ∃ a o, x = .ref a ∧ DGet H2 a y o ∧ Q (.bl (!o.isSome)) H2
/-- d[y] = v -/
def sDPut (td ty tv : TE) : TS := fun D σ H => tv σ H fun v H1 => td σ H1 fun x H2 => ty σ H2 fun y H3 => ∃ a H4, x = .ref a ∧ DPut H3 a y v H4 ∧ D.nx σ H4
/-- d[y] op= v -/
def sDAug (td ty tv : TE) (rd : V → V → Hp → VK → Prop) : TS := fun D σ H => td σ H fun x H1 => ty σ H1 fun y H2 => ∃ a v, x = .ref a ∧ DGet H2 a y (some v) ∧
  tv σ H2 fun y2 H3 => rd v y2 H3 fun z H4 => ∃ H5, DPut H4 a y z H5 ∧ D.nx σ H5
/-- del d[y] -/
def sDDel (td ty : TE) : TS := fun D σ H => td σ H fun x H1 => ty σ H1 fun y H2 => ∃ a kvs k, x = .ref a ∧ H2 a = some (.dK kvs) ∧ y = kV k ∧ (valV kvs k).isSome = true ∧ D.nx σ (upd H2 a (.dK (dropK kvs k)))

section
variable {X : Cx} {o i e value : Expr} {pos pos' tpos : Pos} {td ty tv : TE}
theorem pe_dget (hu : X.A.units + 1 < cLine) (ho : PE X o td) (hi : PE X i ty) (hs : NoSl i) : PE X (.Subscript o i pos) (tDGet td ty) := by
  intro pins s σ H Q I h
  refine subD_of PySem.F.slot_dict_getitem.lookup hs (thn (ho pins s σ H _ I h) fun u s1 ⟨x, H1, I1, rx, q1⟩ => thn (hi pins s1 σ H1 _ I1 q1) fun iv s2 ⟨y, H2, I2, ry, a, v, ex, g, q2⟩ => ?_)
  subst ex
  obtain rfl : u = Value.ref a := rx
  exact ⟨dict_typeIs I2 g, d_getItem hu I2 g ry fun w' s3 I3 rw' => ⟨v, H2, I3, rw', q2⟩⟩
theorem pc_dnotin (hu : X.A.units + 1 < cLine) (hi : PE X i ty) (ho : PE X o td) : PC X .NotIn i o (tDNotIn ty td) := by
  intro pins s σ H Q I h
  refine thn (hi pins s σ H _ I h) fun iv s1 ⟨y, H1, I1, ry, q1⟩ => thn (ho pins s1 σ H1 _ I1 q1) fun u s2 ⟨x, H2, I2, rx, a, ov, ex, g, q2⟩ => ?_
  subst ex
  obtain rfl : u = Value.ref a := rx
  exact d_notIn hu I2 g ry fun s3 I3 => ⟨.bl (!ov.isSome), H2, I3, rfl, q2⟩
theorem ps_dput (hu : X.A.units + 1 < cLine) (ho : PE X o td) (hi : PE X i ty) (hv : PE X value tv) (hs : swapsWith value (some (.Subscript o i pos')) pos.line X.env = pure false) :
    PS X (.Assign [.Subscript o i pos'] value pos) (sDPut td ty tv) := by
  intro pins s σ H D I h
  refine wpAny_Assign_Subscript (thn (hv pins s σ H _ I h) fun r s1 ⟨v, H1, I1, rv, q1⟩ => thn (ho pins s1 σ H1 _ I1 q1) fun u s2 ⟨x, H2, I2, rx, q2⟩ => thn (hi pins s2 σ H2 _ I2 q2) fun iv s3 ⟨y, H3, I3, ry, a, H4, ex, g, q3⟩ => ?_) hs
  subst ex
  obtain rfl : u = Value.ref a := rx
  exact d_setItem hu I3 g ry rv fun s4 I4 => ⟨σ, H4, I4, q3⟩
end


/-! ### displays -/
theorem dk_empty {P : Program} {w : World} {H : Hp} (h : Heap) (hb : sysModules < h.objs.size) : ObjOk P w H (h.push { cls := .type "dict", data := .dict #[] }) h.objs.size (.dK []) :=
  ⟨Nat.zero_le _, beq_eq_false_iff_ne.mpr (Ne.symm (Nat.ne_of_lt hb)), [], .nil, Heap.DictOf.new h⟩
theorem dt_empty {P : Program} {w : World} {H : Hp} (h : Heap) (hb : sysModules < h.objs.size) : ObjOk P w H (h.push { cls := .type "dict", data := .dict #[] }) h.objs.size (.dT []) :=
  ⟨Nat.zero_le _, beq_eq_false_iff_ne.mpr (Ne.symm (Nat.ne_of_lt hb)), [], .nil, _, #[], 0, Heap.get?_push_size _ rfl, ⟨rfl, rfl, rfl⟩, rfl, rfl, List.nodup_nil⟩
/-- {}, to be a dict of the kind that is wanted -/
def tDNewK : TE := fun _ H Q => ∀ p, H p = none → Q (.ref p) (upd H p (.dK []))
def tDNewT : TE := fun _ H Q => ∀ p, H p = none → Q (.ref p) (upd H p (.dT []))
section
variable {X : Cx} {pos : Pos}
theorem pe_dnewT : PE X (.Dict [] [] pos) tDNewT := fun pins s σ H Q I h =>
  wpAny_Dict_empty ⟨.ref s.heap.objs.size, _, I.laid (a := s.heap.objs.size) (o := .dT []) (t' := s.toks) (fun _ _ q => Heap.get?_push_of_some _ q) (Nat.le_refl _) (dt_empty s.heap I.big), rfl, h _ (I.hok.fresh (Nat.le_refl _))⟩
end

/-- the pairs of a display, from the left -/
def tPairs : List (TE × TE) → St → Hp → (List (V × V) → Hp → Prop) → Prop
  | [], _, H, Q => Q [] H
  | (tk, tv) :: r, σ, H, Q => tk σ H fun x H1 => tv σ H1 fun y H2 => tPairs r σ H2 fun ps H3 => Q ((x, y) :: ps) H3
abbrev VV : List (V × V) → List (Value × Value) → Prop := Paired fun p q => RelV p.1 q.1 ∧ RelV p.2 q.2
def PPs (X : Cx) (pos : Pos) (keys : List (Option Expr)) (values : List Expr) (trs : List (TE × TE)) : Prop :=
  ∀ (pins : List (Addr × Obj)) (s : Shared) (σ : St) (H : Hp) (Q : List (V × V) → Hp → Prop), Inv X pins σ H s → tPairs trs σ H Q →
    wpAny (model X.prog X.w) X.A (evalPairs (pairTrees keys values X.env pos)) (fun vs s' => ∃ ps H', Inv X pins σ H' s' ∧ VV ps vs ∧ Q ps H') X.xe s
def mergeK (kvs more : List (Key × V)) : List (Key × V) := more.foldl (fun acc kv => putK acc kv.1 kv.2) kvs
/-- {k: v, ..} with keys ints and texts; the new dict stands empty while the pairs are made -/
def tDisp (trs : List (TE × TE)) : TE := fun σ H Q => ∀ p, H p = none → tPairs trs σ (upd H p (.dK [])) fun ps H2 => H2 p = some (.dK []) ∧ ∃ kvs : List (Key × V), ps = kvs.map (fun kv => (kV kv.1, kv.2)) ∧ kvs.length ≤ 15 ∧ Q (.ref p) (upd H2 p (.dK (mergeK [] kvs)))
/-! ### methods -/
/-- a method call o.m(e) of a built-in, with one argument: what must be seen of the text -/
structure M1 (X : Cx) (o : Expr) (m : Str) (apos : Pos) (e : Expr) (cpos : Pos) : Prop where
  base : attributeBase o m X.env (eval o X.env) = eval o X.env
  few : ((backTo cpos (starEach [e] X.env)).all (fun x => !x.1) && (backToKw cpos (keywordEach [] X.env)).all (fun x => x.1.isSome)
    && decide (([e] : List Expr).length + ([] : List Keyword).length + (if ([] : List Keyword).isEmpty then 0 else 1) < 30)) = true
  line : (apos.endLine == cpos.line) = true
  trees : backTo cpos (starEach [e] X.env) = [(false, eval e X.env)]
structure M2 (X : Cx) (o : Expr) (m : Str) (apos : Pos) (e f : Expr) (cpos : Pos) : Prop where
  base : attributeBase o m X.env (eval o X.env) = eval o X.env
  few : ((backTo cpos (starEach [e, f] X.env)).all (fun x => !x.1) && (backToKw cpos (keywordEach [] X.env)).all (fun x => x.1.isSome)
    && decide (([e, f] : List Expr).length + ([] : List Keyword).length + (if ([] : List Keyword).isEmpty then 0 else 1) < 30)) = true
  line : (apos.endLine == cpos.line) = true
  trees : backTo cpos (starEach [e, f] X.env) = [(false, eval e X.env), (false, eval f X.env)]

/-- a is a dict, whatever its keys -/
def IsD (H : Hp) (a : Addr) : Prop := (∃ kvs, Rd H a (.dK kvs)) ∨ ∃ kvs, Rd H a (.dT kvs)
section
variable {X : Cx} {pins : List (Addr × Obj)} {σ : St} {H : Hp} {s : Shared} {a : Addr} {y d : V} {u r : Value} {o : Option V} {A : Around} {E : Value → Shared → Prop}
end

def tDGet1 (td ty : TE) : TE := fun σ H Q => td σ H fun x H1 => ∃ a, x = .ref a ∧ IsD H1 a ∧ ty σ H1 fun y H2 => ∃ o, DGet H2 a y o ∧ Q (o.getD .non) H2
def tDGet2 (td ty tx : TE) : TE := fun σ H Q => td σ H fun x H1 => ∃ a, x = .ref a ∧ IsD H1 a ∧ ty σ H1 fun y H2 => tx σ H2 fun z H3 => ∃ o, DGet H3 a y o ∧ Q (o.getD z) H3
/-- d.pop(k): there; d.pop(k, x): there or not -/
def tDPop1 (td ty : TE) : TE := fun σ H Q => td σ H fun x H1 => ∃ a, x = .ref a ∧ IsD H1 a ∧ ty σ H1 fun y H2 => ∃ kvs k v, H2 a = some (.dK kvs) ∧ y = kV k ∧ valV kvs k = some v ∧ Q v (upd H2 a (.dK (dropK kvs k)))
def tDPop2 (td ty tx : TE) : TE := fun σ H Q => td σ H fun x H1 => ∃ a, x = .ref a ∧ IsD H1 a ∧ ty σ H1 fun y H2 => tx σ H2 fun z H3 => ∃ kvs k, H3 a = some (.dK kvs) ∧ y = kV k ∧
  (∀ v, valV kvs k = some v → Q v (upd H3 a (.dK (dropK kvs k)))) ∧ (valV kvs k = none → Q z H3)
section
variable {X : Cx} {o e f : Expr} {apos cpos : Pos} {td ty tx : TE}
end

/-! ### dict(d): a copy -/
section
variable {X : Cx} {pins : List (Addr × Obj)} {σ : St} {H : Hp} {s : Shared} {a : Addr} {kvs : List (Key × V)} {A : Around} {E : Value → Shared → Prop}
end


section
variable {X : Cx} {pins : List (Addr × Obj)} {σ : St} {H : Hp} {s : Shared} {a : Addr} {y : V} {u : Value} {A : Around} {E : Value → Shared → Prop}
end
end L2

namespace L2
open PySem PySem.Spec PyProof.Rows

section
variable {prog : Program} {w : World} {A : Around} {E : Value → Shared → Prop}
end

section
variable {X : Cx}
end
end L2

namespace L2
open PySem PySem.Spec PyProof.Rows

theorem boot_reversed5 : bootBuiltins "reversed" = some (.type "reversed") := by decide +kernel

section
variable {X : Cx} {pins : List (Addr × Obj)} {σ : St} {H : Hp} {s : Shared} {h' : Heap}
/-- .. and one new object is laid -/
theorem Inv.turnedNew {t' : Nat} {ch : List Addr} {T : Addr} {ob : HO} (I : Inv X pins σ H s) (k : ∀ b o, b ∉ ch → s.heap.get? b = some o → h'.get? b = some o) (hf : ∀ b ∈ ch, FpOk X pins H b) (hT : s.heap.objs.size ≤ T)
    (new : ObjOk X.prog X.w (upd H T ob) h' T ob) : Inv X pins σ (upd H T ob) { s with heap := h', toks := t' } := by
  have hn : H T = none := I.hok.fresh hT
  have nit : ∀ b u, H b = some u → b ∉ ch := fun b u e z => by
    have q := (hf b z).1
    rw [q] at e; cases e
  refine I.step (g' := s.gens) (d' := s.drawn) (ch := ch) (fun b hb => ⟨(hf b hb).2.2.2.1, (hf b hb).2.1, (hf b hb).2.2.2.2.1, (hf b hb).2.2.2.2.2⟩) (fun b o _ _ hc e _ => k b o hc e) (fun b o _ _ hc e _ => ⟨o.slots, k b o hc e⟩)
    (fun b o _ e n => ?_) (fun b o hc e => ⟨o, k b o hc e⟩) (fun b xs e => ?_) (fun b o u e => ?_) (fun b ps e => ⟨#[], ?_⟩) (fun m hm => ?_) (fun b u e => ?_) I.bare
  · rw [upd_ne (Nat.ne_of_lt (Nat.lt_of_lt_of_le (Heap.lt_size e) hT))]; exact n
  · rw [upd_ne (ne_of_none e hn)]; exact e
  · rw [upd_ne (ne_of_none e hn)]; exact e
  · rw [upd_ne (ne_of_none e hn), e]; simp
  · obtain ⟨o, es, ep, ho, r⟩ := hm
    exact ⟨o, es, ep, k _ o (fun z => (hf _ z).2.1 rfl) ho, r⟩
  · by_cases hb : b = T
    · subst hb
      rw [upd_same] at e
      cases e
      exact new
    · rw [upd_ne hb] at e
      refine (I.hok b u e).stay (fun c v hc q => k c v ?_ q) (fun c q => by rw [upd_ne (ne_of_none q hn)]; exact q) fun c xs q => by rw [upd_ne (ne_of_none q hn)]; exact q
      rcases hc with z | z
      · rw [z]; exact nit b u e
      · exact nit c _ z

/-! ### locking a thing while a statement runs -/
end
/-- the statement runs while the thing at d is locked (read, not written); d and what stands there are the reading's choice -/
def tLock (t : TS) : TS := fun D σ H => ∃ d u, H d = some u ∧ Mut (some u) ∧ ∀ od, t ⟨fun σ' H' => H' d = some (.frz od u) ∧ D.nx σ' (upd H' d u), fun v H' => H' d = some (.frz od u) ∧ D.rt v (upd H' d u), fun σ' H' => H' d = some (.frz od u) ∧ D.bk σ' (upd H' d u), fun σ' H' => H' d = some (.frz od u) ∧ D.ct σ' (upd H' d u)⟩ σ (upd H d (.frz od u))
def tLockE (t : TE) : TE := fun σ H Q => ∃ d u, H d = some u ∧ Mut (some u) ∧ ∀ od, t σ (upd H d (.frz od u)) fun v H' => H' d = some (.frz od u) ∧ Q v (upd H' d u)
section
variable {X : Cx}
/-! ### one iterator just laid -/
theorem pi_one {tg : Expr} {pins : List (Addr × Obj)} {σ : St} {H : Hp} {s : Shared} {R : It → Hp → Prop} {J : It} {tn : Nat → Heap → Prop} {tk : Nat} (I : Inv X pins σ H s) (o : Obj)
    (T : Turn X.prog X.w X.K tg J [s.heap.objs.size] s.heap.objs.size tn) (st : tn 0 (s.heap.push o)) (q : R J H) : PIE X pins σ tg R (.ref s.heap.objs.size) { s with heap := s.heap.push o, toks := tk } := by
  refine ⟨s.heap.objs.size, [s.heap.objs.size], tn, J, H, rfl, I.kept fun b ob e => Heap.get?_push_of_some _ e, T, st, fun b hb => ?_, q⟩
  have e : b = s.heap.objs.size := by simpa using hb
  subst e
  exact I.fpOk (Nat.le_refl _) (I.hok.fresh (Nat.le_refl _))
end

/-! ### range with a step -/
/-- lo, lo + c, .. (n of them) -/
def Itc (lo c : Int) (n : Nat) : It := ⟨fun i _ => i < n, fun i H x H' => H' = H ∧ x = .int (lo + (i : Nat) * c), fun i _ => n ≤ i⟩
theorem turn_rangeC {P : Program} {w : World} {K : PySem.W.Frag} {tg : Expr} (it : Addr) (lo c : Int) (n : Nat) : Turn P w K tg (Itc lo c n) [it] it (fun i h => IsRangeIter h it (lo + (i : Nat) * c) ((n : Int) - (i : Nat)) c) where
  mem := by simp
  obj := fun i h st b hb => by
    have e : b = it := by simpa using hb
    subst e
    exact ⟨_, st, fun v z => nomatch z⟩
  keep := fun i h h' st k => k it (by simp) _ st
  item := by
    intro X hP hw hK hc i pins s σ H E I hf st hg
    subst hP hw hK
    obtain ⟨f0, f1, f2, f3, f4, f5⟩ := hf it (by simp)
    have W := Walks.range (prog := X.prog) (w := X.w) (I.ok.hd hc) it lo c n
    refine W.item i s _ _ hg st fun v h' tk hv st' kk => ?_
    obtain ⟨t, rfl⟩ := hv
    have I1 : Inv X pins σ H { s with heap := h', toks := tk } := I.turned (fun b o hb e => kk b o (by simpa using hb) e) f0 f1 f3 f4 f5
    exact ⟨_, rfl, go_of (s := { s with heap := h', toks := tk }) (n := "range_iterator") st' rfl rfl (by decide) ⟨.int (lo + (i : Nat) * c), H, I1, ⟨t, rfl⟩, ⟨rfl, rfl⟩, st', fun b hb => (hf b hb).1⟩⟩
  done := by
    intro X hP hw hK hc i pins s σ H E I hf st hg
    subst hP hw hK
    obtain ⟨f0, f1, f2, f3, f4, f5⟩ := hf it (by simp)
    exact wpAny_pyNext_range_end (I.ok.hd hc) st (by have : n ≤ i := hg; omega) fun h' eb => ⟨rfl, I.turned (t' := s.toks) (fun b o hb e => eb b o hb e) f0 f1 f3 f4 f5⟩
  self := fun A i s Q E st h => wpAny_pyIter_rangeiter st h
/-- range(i, j, c): small bounds, n items -/
def RgC (i j c : Int) (n : Nat) : Prop := c ≠ 0 ∧ c.natAbs < 1073741824 ∧ Builtin.Range.small i j c = true ∧ Builtin.Range.rangeSize i j c = n
theorem RgC.neg {i j : Int} (ha : -(2 ^ 62) ≤ i) (ha' : i < 2 ^ 62) (hb : -(2 ^ 62) ≤ j) (hb' : j < 2 ^ 62) : RgC i j (-1) (i - j).toNat :=
  ⟨by decide, by decide, PySem.W.small_down ha ha' hb hb', PySem.W.rangeSize_downNat i j⟩
def iRng3 (ta : TA) : TI := fun σ H R => ta σ H fun vs H1 => ∃ (i j c : Int) (n : Nat), vs = [.int i, .int j, .int c] ∧ RgC i j c n ∧ R (Itc i c n) H1
section
variable {X : Cx} {tg : Expr}
theorem pi_range3 {a b c : Expr} {ta : TA} {p pos : Pos} (hg : Gl X "range") (hm : X.mg "range" = none) (ha : PA X [a, b, c] ta)
    (hs : starEach [a, b, c] X.env = (false, eval a X.env) :: starEach [b, c] X.env := by rfl) (hpl : (backTo pos (starEach [b, c] X.env)).any (·.1) = false := by rfl) :
    PI X tg (.Call (.Name "range" p) [a, b, c] [] pos) (iRng3 ta) := by
  intro pins s σ H R I h
  refine Call_ (ld_blt I hg hm boot_range (PyProof.Rows.callWith_type1 (thn (ha pos pins s σ H _ I h) fun us s1 ⟨vs, H1, I1, r1, q1⟩ => ?_) hs hpl))
  obtain ⟨i, j, k, n, e, ⟨c0, c1, c2, c3⟩, q⟩ := q1
  subst e
  cases r1 with
  | cons r rr =>
    cases rr with
    | cons r' rr =>
      cases rr with
      | cons r'' rr =>
        cases rr
        obtain ⟨t, rfl⟩ := r
        obtain ⟨t', rfl⟩ := r'
        obtain ⟨t'', rfl⟩ := r''
        refine call_range_3 c0 ?_ (.inl (PyProof.noPylong_small c1))
        refine wpAny_pyIter_range (IsRange.new ..) c2 ?_
        have I2 : Inv X pins σ H1 { s1 with heap := s1.heap.push { cls := .type "range", data := .fields #[.int i t, .int j t', .int k t''] } } := I1.kept (t' := s1.toks) fun b o e => Heap.get?_push_of_some _ e
        refine pi_one (tk := s1.toks) I2 _ (turn_rangeC _ i k n) ?_ q
        have e1 : i + ((0 : Nat) : Int) * k = i := by simp
        have e2 : (n : Int) - ((0 : Nat) : Int) = Builtin.Range.rangeSize i j k := by rw [c3]; simp
        show IsRangeIter _ _ (i + ((0 : Nat) : Int) * k) ((n : Int) - ((0 : Nat) : Int)) k
        rw [e1, e2]
        exact Heap.get?_push_size _ rfl
end
/-- the turns of a step range, for the for loop -/
theorem for_rangeC {lo c : Int} {n : Nat} {g : TG} {tb : TS} {D : Ends} {σ : St} {H : Hp} (Pv : Nat → St → Hp → Prop) (h0 : Pv 0 σ H)
    (hs : ∀ i σ H, i < n → Pv i σ H → g (.int (lo + (i : Nat) * c)) σ H fun σ2 H2 => tb { D with nx := Pv (i + 1), ct := Pv (i + 1), bk := D.nx } σ2 H2) (hd : ∀ σ H, Pv n σ H → D.nx σ H) :
    ∃ W : Nat → Nat → St → Hp → Prop, (∃ m, W 0 m σ H) ∧ ∀ i m σ H, W i m σ H →
      ((Itc lo c n).stop i H ∧ D.nx σ H) ∨ ((Itc lo c n).go i H ∧ ∃ N : St → Hp → Prop, (∀ σ' H', N σ' H' → ∃ m', m' < m ∧ W (i + 1) m' σ' H') ∧ ∀ x H', (Itc lo c n).yld i H x H' → g x σ H' fun σ2 H2 => tb { D with nx := N, ct := N, bk := D.nx } σ2 H2) := by
  refine ⟨fun i m σ H => m = n - i ∧ i ≤ n ∧ Pv i σ H, ⟨n, by simp, Nat.zero_le _, h0⟩, ?_⟩
  rintro i m σ H ⟨rfl, hi, p⟩
  by_cases hlt : i < n
  · refine .inr ⟨hlt, Pv (i + 1), fun σ' H' p' => ⟨n - (i + 1), by omega, rfl, hlt, p'⟩, fun x H' y => ?_⟩
    obtain ⟨e, y⟩ := y
    subst e y
    exact hs i σ _ hlt p
  · have e : i = n := by omega
    subst e
    exact .inl ⟨Nat.le_refl _, hd σ H p⟩

/-! ### reversed(list) -/
/-- the list at a (n items at the start, which the loop leaves there), from its end -/
def Itv (K : PySem.W.Frag) (a : Addr) (n : Nat) : It :=
  ⟨fun i H => i < n ∧ ∃ (xs : List V) (x : V), SqL K H a xs ∧ xs[n - 1 - i]? = some x, fun i H x H' => H' = H ∧ ∀ xs, SqL K H a xs → xs[n - 1 - i]? = some x, fun i _ => n ≤ i⟩
def iRev (K : PySem.W.Frag) (ta : TA) : TI := fun σ H R => ta σ H fun vs H1 => ∃ (a : Addr) (xs : List V), vs = [.ref a] ∧ SqL K H1 a xs ∧ R (Itv K a xs.length) H1
section
variable {X : Cx} {tg : Expr}
end

/-! ### a str -/
def Its (x : Str) : It := ⟨fun i _ => i < x.cps.size, fun i H v H' => H' = H ∧ ∃ c, x.cps[i]? = some c ∧ v = .str ⟨#[c]⟩, fun i _ => x.cps.size ≤ i⟩
theorem turn_str {P : Program} {w : World} {K : PySem.W.Frag} {tg : Expr} (it : Addr) (x : Str) (t : Tok) (ty : String) (hty : ty = "str_ascii_iterator" ∨ ty = "str_iterator") :
    Turn P w K tg (Its x) [it] it (fun i h => h.IsStrIter it ty x t i) where
  mem := by simp
  obj := fun i h st b hb => by
    have e : b = it := by simpa using hb
    subst e
    obtain ⟨o, e, c, d⟩ := st
    exact ⟨o, e, fun v z => by rw [d] at z; cases z⟩
  keep := fun i h h' st k => let ⟨o, ho, r⟩ := st; ⟨o, k it (by simp) o ho, r⟩
  item := by
    intro X hP hw hK hc i pins s σ H E I hf st hg
    subst hP hw hK
    obtain ⟨f0, f1, f2, f3, f4, f5⟩ := hf it (by simp)
    have W : Walks X.prog X.w X.A it [it] [it] x.cps.size (SignAt x) (fun i h => h.IsStrIter it ty x t i) := by
      rcases hty with e | e
      · rw [e]; exact Walks.strAscii (I.ok.hd hc) it x t
      · rw [e]; exact Walks.strWide (I.ok.hd hc) it x t
    have hno : ["enumerate", "zip", "dict_itemiterator", "dict_reverseitemiterator", "odict_iterator", "itertools.zip_longest", "itertools.pairwise"].contains ty = false := by
      rcases hty with e | e
      · rw [e]; decide
      · rw [e]; decide
    refine W.item i s _ _ hg st fun v h' tk hv st' kk => ?_
    obtain ⟨c, u, hcx, rfl⟩ := hv
    have I1 : Inv X pins σ H { s with heap := h', toks := tk } := I.turned (fun b o hb e => kk b o (by simpa using hb) e) f0 f1 f3 f4 f5
    obtain ⟨oi, e, cc, dd⟩ := id st'
    exact ⟨_, rfl, go_of (s := { s with heap := h', toks := tk }) e cc dd hno ⟨.str ⟨#[c]⟩, H, I1, ⟨u, rfl⟩, ⟨rfl, c, hcx, rfl⟩, st', fun b hb => (hf b hb).1⟩⟩
  done := by
    intro X hP hw hK hc i pins s σ H E I hf st hg
    subst hP hw hK
    obtain ⟨f0, f1, f2, f3, f4, f5⟩ := hf it (by simp)
    have hx : x.cps[i]? = none := Array.getElem?_eq_none hg
    rcases hty with e | e
    · rw [e] at st
      exact wpAny_pyNext_ascii_end (I.ok.hd hc) st hx fun h' eb => ⟨rfl, I.turned (t' := s.toks) (fun b o hb e => eb b o hb e) f0 f1 f3 f4 f5⟩
    · rw [e] at st
      exact wpAny_pyNext_wide_end (I.ok.hd hc) st hx fun h' eb => ⟨rfl, I.turned (t' := s.toks) (fun b o hb e => eb b o hb e) f0 f1 f3 f4 f5⟩
  self := fun A i s Q E st h => by
    rcases hty with e | e
    · rw [e] at st; exact wpAny_pyIter_striter_ascii st h
    · rw [e] at st; exact wpAny_pyIter_striter_wide st h
def iStr (te : TE) : TI := fun σ H R => te σ H fun v H1 => ∃ x, v = .str x ∧ R (Its x) H1
theorem pi_str {X : Cx} {tg e : Expr} {te : TE} (he : PE X e te) : PI X tg e (iStr te) := by
  intro pins s σ H R I h
  refine thn (he pins s σ H _ I h) fun v s1 ⟨y, H1, I1, r1, x, ex, q⟩ => ?_
  subst ex
  obtain ⟨t, rfl⟩ := r1
  cases ha : x.cps.all (· < 128)
  · exact wpAny_pyIter_wide ha (pi_one (tk := s1.toks) I1 _ (turn_str _ x t "str_iterator" (.inr rfl)) ⟨_, Heap.get?_push_size _ rfl, rfl, rfl⟩ q)
  · exact wpAny_pyIter_ascii ha (pi_one (tk := s1.toks) I1 _ (turn_str _ x t "str_ascii_iterator" (.inl rfl)) ⟨_, Heap.get?_push_size _ rfl, rfl, rfl⟩ q)

/-! ### a dict's keys: any dict's entries -/
section
variable {prog : Program} {w : World} {A : Around} {E : Value → Shared → Prop} {s : Shared}
theorem iter_keys {d : Addr} {o : Obj} {es : Array DictEntry} {ep : Nat} {Q : Value → Shared → Prop} (hd : (d == sysModules) = false) (ho : s.heap.get? d = some o) (hc : o.ExactDict) (hdat : o.data = .dict es ep)
    (hQ : Q (.ref s.heap.objs.size) { s with heap := s.heap.push { cls := .type "dict_keyiterator", data := .fields #[.ref d, .int 0 0, .int es.size 0, .int ep 0] } }) :
    wpAny (model prog w) A (pyIter (.ref d)) Q E s := by
  have hT : s.TypeIs (.ref d) "dict" := ⟨o, ho, hc.1⟩
  refine wpAny_pyIter_slot hT F.slot_dict_iter (wpAny_call_entry F.slot_dict_iter hT F.entry_dict_iter ?_ (F.args_dict_iter_1 _))
  unfold Builtin.«dict.__iter__»
  refine wpAny_bind ?_
  unfold Builtin.Dict.dictSlotNone
  refine wpAny_bind (wpAny_notOrdered_dict hT ?_)
  show wpAny _ _ (pure (Value.ref d)) _ _ s
  refine wpAny_pure ?_
  show wpAny _ _ (Builtin.Dict.showsAll d >>= _) _ _ s
  unfold Builtin.Dict.showsAll
  rw [if_neg (by rw [hd]; exact Bool.false_ne_true)]
  refine wpAny_bind (wpAny_pure ?_)
  refine wpAny_bind (wpAny_dictEntries ho hdat ?_)
  refine wpAny_bind (wpAny_dictEpoch ho hdat ?_)
  refine wpAny_bind (wpAny_newObj_type (wpAny_pure ⟨_, rfl, "dict_keyiterator", _, ⟨_, Heap.get?_push_size _ rfl, rfl⟩, F.slot_dict_keyiterator_next.lookup, ?_⟩))
  simpa [rawInt] using hQ
theorem next_key_item {it d : Addr} {i n ep : Nat} {od : Obj} {es : Array DictEntry} {en : DictEntry} {Q : Option Value → Shared → Prop} (hit : s.heap.IsKeyIter it d i n ep) (hod : s.heap.get? d = some od) (hdd : od.data = .dict es ep)
    (hsz : es.size = n) (hx : es[i]? = some en) (hQ : ∀ h', h'.IsKeyIter it d (i + 1) n ep → Heap.SameBut it s.heap h' → Q (some en.key) { s with heap := h' }) : wpAny (model prog w) A (pyNext (.ref it)) Q E s := by
  obtain ⟨o, ho, hc, hd⟩ := id hit
  unfold pyNext
  refine wpAny_bind (wpAny_attempt (wpAny_callSpecial?_slot (name := Str.ofString "__next__") hit.typeIs F.slot_dict_keyiterator_next
    (wpAny_call_entry F.slot_dict_keyiterator_next hit.typeIs F.entry_dict_keyiterator_next ?_ (F.args_dict_keyiterator_next_1 _))))
  refine wpAny_bind (wpAny_pure ?_)
  refine wpAny_bind ?_
  refine wpAny_bind ?_
  first | refine wpAny_bind (wpAny_typeNameOfWhole_keyiter hit.typeIs (wpAny_pure ?_)) | refine wpAny_bind (wpAny_typeNameOf_keyiter hit.typeIs (wpAny_pure ?_))
  refine wpAny_bind (wpAny_fieldsOf ho hd ?_)
  have hown : Builtin.Dict_items.ownsTuple "dict_keyiterator" = false := by decide
  simp only [hown, Bool.false_eq_true, if_false]
  show wpAny _ _ (if (Value.ref d == Value.none) = true then _ else _) _ _ s
  rw [if_neg (show ¬ ((Value.ref d == Value.none) = true) from Bool.false_ne_true)]
  refine wpAny_bind (wpAny_pure ?_)
  refine wpAny_bind (wpAny_dictEntries hod hdd ?_)
  rw [if_neg (by rw [hsz]; simp)]
  refine wpAny_bind (wpAny_pure ?_)
  refine wpAny_bind (wpAny_dictEpoch hod hdd ?_)
  rw [if_neg (by simp)]
  refine wpAny_pure ?_
  obtain ⟨hlt', hen⟩ := Array.getElem?_eq_some_iff.mp hx
  simp only [show ¬ ((i : Int) < 0) from by omega, if_false, Int.toNat_natCast, Array.getElem?_eq_getElem hlt']
  refine wpAny_bind ?_
  first | refine wpAny_bind (wpAny_typeNameOfWhole_keyiter hit.typeIs (wpAny_pure ?_)) | refine wpAny_bind (wpAny_typeNameOf_keyiter hit.typeIs (wpAny_pure ?_))
  refine wpAny_bind (wpAny_isOneOf_keyiter hit.typeIs ?_)
  show wpAny _ _ (setField (.ref it) 1 (rawInt ((i : Int) + 1)) >>= _) _ _ s
  refine wpAny_bind (wpAny_setField ho hd (by simp) ?_)
  have hit' : (s.heap.update it (Obj.mapFields (·.setIfInBounds 1 (rawInt ((i : Int) + 1))))).IsKeyIter it d (i + 1) n ep :=
    ⟨_, Heap.get?_update_self _ ho (Obj.isFreed_of_fields (Obj.data_mapFields hd _)), (Obj.cls_mapFields ..).trans hc, by rw [Obj.data_mapFields hd]; simp [rawInt]⟩
  refine wpAny_bind (wpAny_holding ?_)
  refine wpAny_bind (wpAny_isOneOf_keyiter (s := { s with heap := s.heap.update it (Obj.mapFields (·.setIfInBounds 1 (rawInt ((i : Int) + 1)))) }) hit'.typeIs ?_)
  show wpAny _ _ (pure es[i].key) _ _ _
  rw [hen]
  exact wpAny_pure (wpAny_pure ⟨_, rfl, wpAny_pure (hQ _ hit' (Heap.SameBut.update ..))⟩)
theorem next_key_end {it d : Addr} {i n ep : Nat} {od : Obj} {es : Array DictEntry} {Q : Option Value → Shared → Prop} (hh : A.handled = none) (hit : s.heap.IsKeyIter it d i n ep) (hod : s.heap.get? d = some od) (hdd : od.data = .dict es ep)
    (hsz : es.size = n) (hge : n ≤ i) (hQ : ∀ h', Heap.ExtBut it s.heap h' → Q none { s with heap := h' }) : wpAny (model prog w) A (pyNext (.ref it)) Q E s := by
  obtain ⟨o, ho, hc, hd⟩ := id hit
  unfold pyNext
  refine wpAny_bind (wpAny_attempt (wpAny_callSpecial?_slot (name := Str.ofString "__next__") hit.typeIs F.slot_dict_keyiterator_next
    (wpAny_call_entry F.slot_dict_keyiterator_next hit.typeIs F.entry_dict_keyiterator_next ?_ (F.args_dict_keyiterator_next_1 _))))
  refine wpAny_bind (wpAny_pure ?_)
  refine wpAny_bind ?_
  refine wpAny_bind ?_
  first | refine wpAny_bind (wpAny_typeNameOfWhole_keyiter hit.typeIs (wpAny_pure ?_)) | refine wpAny_bind (wpAny_typeNameOf_keyiter hit.typeIs (wpAny_pure ?_))
  refine wpAny_bind (wpAny_fieldsOf ho hd ?_)
  have hown : Builtin.Dict_items.ownsTuple "dict_keyiterator" = false := by decide
  simp only [hown, Bool.false_eq_true, if_false]
  show wpAny _ _ (if (Value.ref d == Value.none) = true then _ else _) _ _ s
  rw [if_neg (show ¬ ((Value.ref d == Value.none) = true) from Bool.false_ne_true)]
  refine wpAny_bind (wpAny_pure ?_)
  refine wpAny_bind (wpAny_dictEntries hod hdd ?_)
  rw [if_neg (by rw [hsz]; simp)]
  refine wpAny_bind (wpAny_pure ?_)
  refine wpAny_bind (wpAny_dictEpoch hod hdd ?_)
  rw [if_neg (by simp)]
  refine wpAny_pure ?_
  have hge' : es.size ≤ i := by rw [hsz]; exact hge
  simp only [show ¬ ((i : Int) < 0) from by omega, if_false, Int.toNat_natCast, Array.getElem?_eq_none hge']
  refine wpAny_bind ?_
  first | refine wpAny_bind (wpAny_typeNameOfWhole_keyiter hit.typeIs (wpAny_pure ?_)) | refine wpAny_bind (wpAny_typeNameOf_keyiter hit.typeIs (wpAny_pure ?_))
  show wpAny _ _ (setField (.ref it) 0 .none >>= _) _ _ s
  refine wpAny_bind (wpAny_setField ho hd (by simp) ?_)
  show wpAny _ _ (newExc (.type "StopIteration") [] >>= _) _ _ _
  refine wpAny_bind ?_
  simp only [newExc, newTuple]
  refine wpAny_bind (wpAny_newObj_type ?_ (by size_fits))
  refine wpAny_bind (m := firstArgMember _ _) (wpAny_of_eq (a := Value.none) (by first | rfl | (simp only [firstArgMember]; rfl)) ?_)
  refine wpAny_newObj_type ?_ (by size_fits)
  simp only [raiseNew]
  refine wpAny_bind (wpAny_handled ?_)
  rw [show A.in1.handled = none from hh]
  refine wpAny_bind (wpAny_pure (wpAny_throw ?_))
  refine wpAny_bind (wpAny_isInstance (T := "StopIteration") (b := true) ⟨_, Heap.get?_push_size _ rfl, rfl⟩ isSubtype_stop ?_)
  exact wpAny_pure (hQ _ (((Heap.SameBut.update ..).extBut.push _).push _))
end

/-! ### a locked dict -/
section
variable {X : Cx} {pins : List (Addr × Obj)} {σ : St} {H : Hp} {s : Shared} {d : Addr} {o : Obj}
end

/-- the keys of the locked dict at d, in their order -/
def Itk (d : Addr) (o : Obj) (kvs : List (Key × V)) : It :=
  ⟨fun i H => H d = some (.frz o (.dK kvs)) ∧ i < kvs.length, fun i H x H' => H' = H ∧ ∃ k v, kvs[i]? = some (k, v) ∧ x = kV k, fun i H => H d = some (.frz o (.dK kvs)) ∧ kvs.length ≤ i⟩
/-- .. of tuple keys: the key's own tuple -/
def Itkt (d : Addr) (o : Obj) (kvs : List (List Key × V)) : It :=
  ⟨fun i H => H d = some (.frz o (.dT kvs)) ∧ i < kvs.length, fun i H x H' => H' = H ∧ ∃ (k : List Key) (v : V) (q : Addr), kvs[i]? = some (k, v) ∧ x = .ref q ∧ H q = some (.tup (k.map kV)), fun i H => H d = some (.frz o (.dT kvs)) ∧ kvs.length ≤ i⟩
/-- the values -/
def Itd (d : Addr) (o : Obj) (kvs : List (Key × V)) : It :=
  ⟨fun i H => H d = some (.frz o (.dK kvs)) ∧ i < kvs.length, fun i H x H' => H' = H ∧ ∃ k, kvs[i]? = some (k, x), fun i H => H d = some (.frz o (.dK kvs)) ∧ kvs.length ≤ i⟩
/-- the pairs, each a new tuple -/
def Iti (d : Addr) (o : Obj) (kvs : List (Key × V)) : It :=
  ⟨fun i H => H d = some (.frz o (.dK kvs)) ∧ i < kvs.length, fun i H x H' => ∃ T k v, kvs[i]? = some (k, v) ∧ x = .ref T ∧ H T = none ∧ H' = upd H T (.tup [kV k, v]), fun i H => H d = some (.frz o (.dK kvs)) ∧ kvs.length ≤ i⟩
section
variable {P : Program} {w : World} {K : PySem.W.Frag} {tg : Expr} {d : Addr} {o : Obj} {es : Array DictEntry} {ep : Nat}
end

/-! ### for k in d, d.keys(), d.values(), d.items() -/
/-- the dict is locked (tLock, or by the caller) -/
def iKeys (td : TE) : TI := fun σ H R => td σ H fun x H1 => ∃ d o, x = .ref d ∧ ((∃ kvs, H1 d = some (.frz o (.dK kvs)) ∧ R (Itk d o kvs) H1) ∨ ∃ kvs, H1 d = some (.frz o (.dT kvs)) ∧ R (Itkt d o kvs) H1)
def iVals (td : TE) : TI := fun σ H R => td σ H fun x H1 => ∃ d o kvs, x = .ref d ∧ H1 d = some (.frz o (.dK kvs)) ∧ R (Itd d o kvs) H1
def iItems (td : TE) : TI := fun σ H R => td σ H fun x H1 => ∃ d o kvs, x = .ref d ∧ H1 d = some (.frz o (.dK kvs)) ∧ R (Iti d o kvs) H1
def iKeysM (td : TE) : TI := fun σ H R => td σ H fun x H1 => ∃ d o kvs, x = .ref d ∧ H1 d = some (.frz o (.dK kvs)) ∧ R (Itk d o kvs) H1
section
variable {X : Cx} {tg e : Expr} {td : TE} {apos cpos : Pos}
end

/-! ### enumerate(list) -/
/-- the list at a as it stands at each turn, each item in a new pair -/
def Ite (K : PySem.W.Frag) (a : Addr) : It :=
  ⟨fun i H => ∃ (xs : List V) (x : V), SqL K H a xs ∧ xs[i]? = some x, fun i H v H' => ∃ T x, v = .ref T ∧ H T = none ∧ H' = upd H T (.tup [.int (i : Nat), x]) ∧ ∀ xs, SqL K H a xs → xs[i]? = some x, fun i H => ∃ xs : List V, SqL K H a xs ∧ xs.length ≤ i⟩
def iEnum (K : PySem.W.Frag) (ta : TA) : TI := fun σ H R => ta σ H fun vs H1 => ∃ a xs, vs = [.ref a] ∧ SqL K H1 a xs ∧ R (Ite K a) H1
/-! ### zip(list, list) -/
/-- the lists at a and b as they stand at each turn, the items in new pairs -/
def Itz (K : PySem.W.Frag) (a b : Addr) : It :=
  ⟨fun i H => ∃ (xs ys : List V) (x y : V), SqL K H a xs ∧ SqL K H b ys ∧ xs[i]? = some x ∧ ys[i]? = some y,
    fun i H v H' => ∃ T x y, v = .ref T ∧ H T = none ∧ H' = upd H T (.tup [x, y]) ∧ (∀ xs, SqL K H a xs → xs[i]? = some x) ∧ ∀ ys, SqL K H b ys → ys[i]? = some y,
    fun i H => ∃ xs ys : List V, SqL K H a xs ∧ SqL K H b ys ∧ (xs.length ≤ i ∨ ys.length ≤ i)⟩
def iZip (K : PySem.W.Frag) (ta : TA) : TI := fun σ H R => ta σ H fun vs H1 => ∃ a b xs ys, vs = [.ref a, .ref b] ∧ SqL K H1 a xs ∧ SqL K H1 b ys ∧ R (Itz K a b) H1
end L2

section 
namespace Bits
open PySem PyProof.Rows

end Bits
end 

section 
namespace TL
open PySem PySem.Builtin PySem.Builtin.Str PySem.StrLaws

abbrev tl (x : Str) : List Nat := x.cps.toList
theorem ext_tl {x y : Str} (h : tl x = tl y) : x = y := Str.ext' (Array.toList_inj.mp h)
theorem tl_append (x y : Str) : tl (x ++ y) = tl x ++ tl y := by
  show (x ++ y).cps.toList = _
  rw [Str.cps_append, Array.toList_append]
/-! ### the list functions -/
/-- S stands at the head of l -/
def pre (S l : List Nat) : Bool := l.take S.length == S
/-- l cut at each S from the left; k signs are still to be passed over -/
def spl (S : List Nat) : Nat → List Nat → List Nat → List (List Nat)
  | _, acc, [] => [acc]
  | 0, acc, c :: r => if pre S (c :: r) = true then acc :: spl S (S.length - 1) [] r else spl S 0 (acc ++ [c]) r
  | k + 1, acc, _ :: r => spl S k acc r
/-- what stands before the first S, and behind it -/
def par (S : List Nat) : List Nat → List Nat → Option (List Nat × List Nat)
  | _, [] => none
  | acc, c :: r => if pre S (c :: r) = true then some (acc, (c :: r).drop S.length) else par S (acc ++ [c]) r

/-! ### the model's split and partition are these -/
/-! ### computing spl and par -/
/-- joined lists -/
def joinL (S : List Nat) : List (List Nat) → List Nat
  | [] => []
  | [p] => p
  | p :: q :: r => p ++ (S ++ joinL S (q :: r))
theorem tl_join (y : Str) : ∀ parts : List Str, tl (Str.join y parts) = joinL (tl y) (parts.map tl)
  | [] => rfl
  | [_] => rfl
  | x :: z :: r => by
    show tl (x ++ y ++ Str.join y (z :: r)) = tl x ++ (tl y ++ joinL (tl y) ((z :: r).map tl))
    rw [tl_append, tl_append, tl_join y (z :: r), List.append_assoc]
theorem join_eq (y : Str) (parts : List Str) : Txt.join y parts = Str.join y parts := glued_eq_join y parts
/-! ### digits -/
/-- the signs of a number -/
def numL (n : Nat) : List Nat := (Nat.toDigits 10 n).map Char.toNat
/-! ### words: x.split() -/
def wstep (st : List (List Nat) × List Nat) (c : Nat) : List (List Nat) × List Nat :=
  if Unicode.isSpace c = true then (if st.2 = [] then st else (st.1 ++ [st.2], [])) else (st.1, st.2 ++ [c])
def wfin (st : List (List Nat) × List Nat) : List (List Nat) := if st.2 = [] then st.1 else st.1 ++ [st.2]
end TL
end 

namespace L2
open PySem PySem.Spec PyProof.Rows

theorem strs_of_vals : ∀ {ys : List Str} {us : List Value}, Vals (ys.map V.str) us → StrsAre us ys
  | [], _, .nil => .nil
  | y :: ys, _, .cons r t => by
    obtain ⟨k, rfl⟩ := r
    exact .cons y k (strs_of_vals t)

/-- a new list of texts, tracked -/
def rNewStrs (ys : List Str) : Hp → VK → Prop := fun H Q => ∀ p, H p = none → Q (.ref p) (upd H p (.lst (ys.map V.str)))

section
variable {X : Cx} {pins : List (Addr × Obj)} {σ : St} {H : Hp} {s : Shared} {Q : VK}
end

section
variable {X : Cx}

/-- sep.join(a list | a tuple of texts) -/
theorem mt_join : MtR X "str.join" (fun x xs H Q => ∃ a p, ∃ ys : List Str, x = .str a ∧ xs = [.ref p] ∧ (SqL X.K H p (ys.map V.str) ∨ SqT X.K H p (ys.map V.str)) ∧
    (ys.map (·.length)).sum + ys.length * a.length ≤ 16777216 ∧ Q (.str (Txt.join a ys)) H) := by
  intro pins s σ H x xs v us Q I rx rs h
  obtain ⟨a, p, ys, rfl, rfl, hp, hz, h⟩ := h
  obtain ⟨t, rfl⟩ := rx
  cases rs with
  | cons r1 rs =>
    cases rs
    cases r1
    rcases hp with hp | hp
    · obtain ⟨its, r, ⟨o, n, ho, hc, _, hd⟩, _⟩ := I.list hp
      exact PyProof.Rows.join_list (items := its.toArray) ⟨o, ho, hc, n, hd⟩ (by rw [List.toList_toArray]; exact strs_of_vals r) hz fun t' k => ⟨.str _, H, I.tok k, ⟨t', rfl⟩, h⟩
    · obtain ⟨its, r, ht, _⟩ := I.tuple hp
      exact PyProof.Rows.join_tuple (items := its.toArray) ht (by rw [List.toList_toArray]; exact strs_of_vals r) hz fun t' k => ⟨.str _, H, I.tok k, ⟨t', rfl⟩, h⟩

/-! ### of a text alone -/
/-! ### of a text and a text -/
end

section
variable {X : Cx} {o e : Expr} {to te : TE}
def tM0 (r : V → List V → Hp → VK → Prop) (to : TE) : TE := fun σ H Q => to σ H fun x H1 => (∃ a, x = .str a) ∧ r x [] H1 Q
def tM1 (r : V → List V → Hp → VK → Prop) (to te : TE) : TE := fun σ H Q => to σ H fun x H1 => (∃ a, x = .str a) ∧ te σ H1 fun y H2 => r x [y] H2 Q
theorem pe_m1 {id : String} {name : Str} {apos pos : Pos} {r : V → List V → Hp → VK → Prop} (slot : Slot "str" name id) (ty : typeOf (.builtin id) = pure (.type "method_descriptor")) (rule : MtR X id r) (ho : PE X o to) (he : PE X e te)
    (hs : starEach [e] X.env = [(false, eval e X.env)] := by rfl) (hbase : attributeBase o name X.env (eval o X.env) = eval o X.env := by rfl) (hline : (apos.endLine == pos.line) = true := by rfl) :
    PE X (.Call (.Attribute o name apos) [e] [] pos) (tM1 r to te) := by
  intro pins s σ H Q I h
  refine PySem.Call_method1 hbase hs hline (thn (ho pins s σ H _ I h) fun v s1 ⟨x, H1, I1, r1, q1⟩ => ?_)
  obtain ⟨⟨a, rfl⟩, q1⟩ := q1
  obtain ⟨t, rfl⟩ := _root_.id r1
  refine ⟨"str", _, F.plainAttrs_str, slot, ty, typeIs_str _ _ _, (fun _ e => nomatch e), Calls.callWith_builtin rfl (Calls.evalArgs_plain (Calls.spliced_cons ?_))⟩
  exact thn (he pins s1 σ H1 _ I1 q1) fun u s2 ⟨y, H2, I2, r2, q2⟩ => Calls.spliced_nil (rule pins s2 σ H2 _ [y] _ [u] Q I2 r1 (.cons r2 .nil) q2)

theorem pe_join {apos pos : Pos} (ho : PE X o to) (he : PE X e te) (hs : starEach [e] X.env = [(false, eval e X.env)] := by rfl) (hbase : attributeBase o "join" X.env (eval o X.env) = eval o X.env := by rfl) (hline : (apos.endLine == pos.line) = true := by rfl) :
    PE X (.Call (.Attribute o "join" apos) [e] [] pos) (tM1 (fun x xs H Q => ∃ a p, ∃ ys : List Str, x = .str a ∧ xs = [.ref p] ∧ (SqL X.K H p (ys.map V.str) ∨ SqT X.K H p (ys.map V.str)) ∧
      (ys.map (·.length)).sum + ys.length * a.length ≤ 16777216 ∧ Q (.str (Txt.join a ys)) H) to te) :=
  pe_m1 F.slot_str_join F.type_str_join mt_join ho he hs hbase hline
end
end L2

namespace L2
open PySem PySem.Spec PyProof.Rows

section
variable {X : Cx}
theorem op_le_str : OpR X (compareOp .LtE) (fun x y H Q => ∃ i j, x = .str i ∧ y = .str j ∧ Q (.bl (!decide (j.cps.toList < i.cps.toList))) H) := by
  intro pins s σ H x y v u Q I rx ry h
  obtain ⟨i, j, rfl, rfl, q⟩ := h
  obtain ⟨t, rfl⟩ := rx
  obtain ⟨t', rfl⟩ := ry
  exact PySem.P.le_str (fin_bl I q rfl)
/-- one sign in a text -/
theorem op_in_sign : OpR X (compareOp .In) (fun x y H Q => ∃ (c : Nat) (z : Str), x = .str ⟨#[c]⟩ ∧ y = .str z ∧ Q (.bl (decide (c ∈ z.cps.toList))) H) := by
  intro pins s σ H x y v u Q I rx ry h
  obtain ⟨c, z, rfl, rfl, q⟩ := h
  obtain ⟨t, rfl⟩ := rx
  obtain ⟨t', rfl⟩ := ry
  exact PyProof.Rows.in_str (fin_bl I q (PySem.StrLaws.found_one z c).symm)
end

/-! ### slices of a text -/
/-- a part, clipped, as the text's slice reckons it -/
def clipS (n d : Nat) : Option Int → Int
  | none => (d : Int)
  | some i => max 0 (min (if i < 0 then i + (n : Int) else i) (n : Int))
/-- z[lo:hi] -/
def cutS (z : Str) (lo hi : Option Int) : Str :=
  ⟨((z.cps.toList.drop (HT.sIx z.length 0 lo)).take (HT.sIx z.length z.length hi - HT.sIx z.length 0 lo)).toArray⟩
def rSlS : V → Option Int → Option Int → Hp → VK → Prop := fun x lo hi H Q => ∃ z, x = .str z ∧ z.length ≤ sizeLine ∧ Q (.str (cutS z lo hi)) H
end L2

namespace Att
open PySem PySem.W PySem.Calls PyProof.Rows

/-! ### the script -/
theorem ints_of_wellAll {P : Params} {h : Heap} : ∀ (ns : List Int) (vs : List Value), WellAll P h vs (ns.map WData.int) → IntsAre vs ns := by
  intro ns
  induction ns with
  | nil =>
    intro vs w
    rw [List.map_nil] at w
    cases w
    exact .nil
  | cons n ns ih =>
    intro vs w
    rw [List.map_cons] at w
    cases w with
    | cons a b =>
      cases a
      exact .cons _ _ (ih _ b)

theorem script_of {l : OpenLaw} {n : Nat} (hn : l.most = some n) {P : Params} {h : Heap} {args : List WData} {vals : List Value}
    (hpre : l.row.toRowW.claim.pre args = true) (hwl : WellAll P h vals args) :
    ∃ a vs ns, vals = [Value.ref a] ∧ args = [WData.list (ns.map WData.int)] ∧ h.get? a = some { cls := .type "list", data := .seq vs.toArray } ∧ IntsAre vs ns ∧ ns.length ≤ n := by
  have hsh : WShape.hasAll [] args [.list .int] = true := (pre_splitW hpre).1
  have hc : l.pre.holds [] { args := args } = true := (pre_splitW hpre).2
  obtain ⟨d, r, rfl, h1, h2⟩ := hasAllW_cons hsh
  obtain rfl := hasAllW_nil h2
  obtain ⟨xs, rfl, h3⟩ := hasW_list h1
  obtain ⟨ns, rfl⟩ := items_int h3
  have hlen : ns.length ≤ n := by
    unfold OpenLaw.pre at hc
    have h4 : (WTm.not (.lt (.lit (.int (n : Int))) (.len (.arg 0)))).holds [] { args := [.list (ns.map .int)] } = true := by
      have h4 := (holds_andW hc).1
      rw [hn] at h4
      exact h4
    have h5 := condW_of h4 (w_not (w_lt w_lit (w_len_list (w_arg rfl))))
    rw [List.length_map] at h5
    refine Nat.le_of_not_lt fun q => ?_
    have q' : (n : Int) < ((ns.length : Nat) : Int) := by omega
    first
      | (rw [decide_eq_true q'] at h5; exact absurd h5 (by decide))
      | (simp at h5; omega)
  cases hwl with
  | cons w1 w2 =>
    cases w2
    cases w1 with
    | list ho hall => exact ⟨_, _, ns, rfl, rfl, ho, ints_of_wellAll ns _ hall, hlen⟩

theorem post_true (l : OpenLaw) (args : List WData) : l.row.toRowW.claim.post args (.bool true) args = true :=
  postW_of (r := l.row.toRowW) (X := (true == true))
    (show WShape.has [] (.bool true) .bool = true by first | rfl | decide | simp [WShape.has, WShape.arms, WShape.armsAll])
    (show (WTm.eq .res (.lit (.bool true))).value [] { args := args, res := some (.bool true), after := args } = some (.bool (true == true)) from w_eq_bool (w_res rfl) w_lit) rfl

/-! ### the attachment: holds_open's last premise (the goal 'hc' behind k_head) from a wpAny of the law's body -/
/-- the same from a codeAny of the CALL (for a layer whose function contracts speak of calls) -/
theorem attach_call {l : OpenLaw} {n : Nat} {q : Program} {loose : List Str} {XP : (Str → Option Value) → Heap → Prop} {YP : World → Heap → Prop} {d : DefRec}
    (hn : l.most = some n) (hdf : d.params.defaults = [])
    (call : ∀ (w : World) (s₀ s₁ : Shared) (mg mb : Str → Option Value) (fa : Addr) (o : Obj) (pm cd doc : Value) (a : Addr) (vs : List Value) (ns : List Int),
      Ground q loose [] XP w s₀ mg mb s₁.heap → YP w s₁.heap →
      s₁.heap.get? fa = some o → o.data = .func (docDef d.name d.params d.body d.scope pm cd doc) → s₁.heap.CodeRec cd d.name → mg d.name = some (.ref fa) →
      s₁.heap.get? a = some { cls := .type "list", data := .seq vs.toArray } → IntsAre vs ns → ns.length ≤ n → s₁.gens = #[] →
      codeAny (model l.prog w) callerA (.call (.ref fa) ⟨[.ref a], []⟩) (fun r s' => r = .ok (.ret (.bool true)) ∧ OldK s₁.heap s'.heap ∧ s'.os = s₁.os ∧ AllBare s'.gens) s₁) :
    WalkO q loose XP YP l.row.toRowW d [] (fun f vs => PySem.call f vs) := by
  intro w s₀ s₁ mg mb G Y fa o pm cd doc dV kV ho hd hcd hD hmg hg args vals as hpre hlay hrd hwl hlo
  obtain rfl : dV = .none := Dflts.none hD hdf
  obtain rfl : kV = .none := Dflts.noKw hD
  obtain ⟨a, vs, ns, rfl, rfl, hobj, hints, hlen⟩ := script_of hn hpre hwl
  refine enter_call (codeAny_mono (call w s₀ s₁ mg mb fa o pm cd doc a vs ns G Y ho (fd_plain hd) hcd hmg hobj hints hlen hg) fun r s' hq => ?_)
  obtain ⟨rfl, h2, h3, h4⟩ := hq
  exact ⟨.inl ⟨.bool true, .bool true, [], rfl, fun _ => rfl, .bool true, post_true l _, fun _ => ⟨List.Pairwise.nil, fun _ hm => (nomatch hm)⟩⟩, h2, h3, h4⟩

/-! ### rules over ANY heap (no ledger) from facts about the written part K: the library's own take a ledger (News) for what they write -/
section
variable {prog : Program} {w : World} {A : Around} {E : Value → Shared → Prop} {s : Shared} {K : Frag}

/-! the whole heap as the ledger: makes every rule that writes through a ledger a rule over any heap -/
def noObjs (h : Heap) : Heap := { h with objs := #[] }
def ledger (h : Heap) (L d : Addr) : List (Addr × Obj) := (List.range h.objs.size).filterMap fun a => if a = L ∨ a = d then none else (h.get? a).map fun o => (a, o)
end
end Att

namespace L2
open PySem PySem.Spec PyProof.Rows

theorem vals_ints : ∀ {vs : List Value} {ns : List Int}, IntsAre vs ns → Vals (ns.map V.int) vs
  | _, _, .nil => .nil
  | _, _, .cons n t h => .cons ⟨t, rfl⟩ (vals_ints h)

/-- nothing is tracked but the script, known to the object (or it is an object of the module) -/
def Only (H : Hp) : Prop := ∀ b, H b = none ∨ ∃ o xs, H b = some (.frz o (.lst xs))

/-- THE HEAD: the law's promise, at the heap behind the top. F, the promise of the law's def, may use that base is part of the heap (so K.In base, base.Ns mainGlobals mg stand in Mod) -/
theorem law_call {P : Program} {w : World} {K : PySem.W.Frag} {mg mb : Str → Option Value} {CX : CXT} {k : Nat} {fa a : Addr} {fd : FuncData} {x : Str} {sp : Sp} {s₁ : Shared} {vs : List Value} {ns : List Int}
    (KX : K.In s₁.heap) (hns : s₁.heap.Ns mainGlobals mg) (hb : s₁.heap.Ns builtinsNs mb) (hbb : ∀ x : Str, x ≠ "__name__" → mb x = bootBuiltins x) (hlim : s₁.heap.NoLimit) (hg : s₁.gens = #[])
    (ha : s₁.heap.get? a = some { cls := .type "list", data := .seq vs.toArray }) (hi : IntsAre vs ns) (hl : ns.length ≤ sizeLine) (hr : Room k callerA)
    (F : ∀ base : Heap, K.In base → base.Ns mainGlobals mg → FnOk P w K mg base CX k fa fd [x] sp) (hbind : ∀ (s : Shared) (u : Value), BindsTo s fd ⟨[u], []⟩ [(x, u)])
    (hsp : ∀ H : Hp, Only H → SqL K H a (ns.map V.int) → sp [.ref a] H (fun v _ => v = .bl true) fun _ _ _ => False)
    (hCX : ∀ H e s', CX [] H s₁ (fun _ _ _ => False) e s' → False) :
    codeAny (model P w) callerA (.call (.ref fa) ⟨[.ref a], []⟩) (fun r s' => r = .ok (.ret (.bool true)) ∧ OldK s₁.heap s'.heap ∧ s'.os = s₁.os ∧ AllBare s'.gens) s₁ := by
  have rv := vals_ints hi
  have lenV := hi.length
  -- from an abstract heap in which nothing but the script may be tracked
  have core : ∀ H : Hp, Only H → SqL K H a (ns.map V.int) → HOk P w H s₁.heap → (∀ b, H b ≠ none → b = a) → (H a ≠ none → K.lookup a = none) →
      codeAny (model P w) callerA (.call (.ref fa) ⟨[.ref a], []⟩) (fun r s' => r = .ok (.ret (.bool true)) ∧ OldK s₁.heap s'.heap ∧ s'.os = s₁.os ∧ AllBare s'.gens) s₁ := by
    intro H hO hS hok hA hK
    have base_of : ∀ {b : Addr} {o : Obj}, s₁.heap.get? b = some o → H b = none → (hidT s₁.heap H).get? b = some o := fun e n => hidT_get e n
    have noA : ∀ {b : Addr} {o : Obj} {es : Array DictEntry} {ep : Nat}, s₁.heap.get? b = some o → o.data = .dict es ep → H b = none := fun {b o es ep} e d => by
      cases q : H b with
      | none => rfl
      | some u =>
        have e' : b = a := hA b (by rw [q]; simp)
        subst e'
        rw [ha] at e; cases e
        have d' : Data.seq vs.toArray _ = Data.dict es ep := d
        cases d'
    have nsK : ∀ {b : Addr} {m : Str → Option Value}, s₁.heap.Ns b m → (hidT s₁.heap H).Ns b m := fun {b m} ⟨o, es, ep, e, d, r⟩ => ⟨o, es, ep, base_of e (noA e d), d, r⟩
    have hKb : K.In (hidT s₁.heap H) := fun b o e => base_of (KX b o e) (by
      cases q : H b with
      | none => rfl
      | some u =>
        have e' : b = a := hA b (by rw [q]; simp)
        subst e'
        rw [hK (by rw [q]; simp)] at e; cases e)
    have hM : Mod K mg (hidT s₁.heap H) := ⟨hKb, nsK hns, ⟨mb, nsK hb, hbb⟩, let ⟨mc, h1, h2⟩ := hlim; ⟨mc, nsK h1, h2⟩⟩
    have e0 : Env0 P w K mg (hidT s₁.heap H) callerA [] s₁ H := ⟨rfl, hM, fun b o e => of_hidT e, Nat.le_of_eq (hidT_size _ _), trivial, fun b hb => absurd (show b ∈ ([] : List Addr) from hb) (by simp), hok, .of_eq hg⟩
    refine codeAny_mono ((F _ hKb (nsK hns)).run callerA [] s₁ H ⟨[.ref a], []⟩ [.ref a] [.ref a] _ _ hr e0 (hbind s₁ (.ref a)) (.cons rfl .nil) (hsp H hO hS)) fun r s' h => ?_
    cases r with
    | error e => exact (hCX H e s' h).elim
    | ok fl =>
      cases fl with
      | next => exact False.elim h
      | brk => exact False.elim h
      | cont => exact False.elim h
      | ret u =>
        obtain ⟨v, H', os, bare, un, hok', r', q⟩ := h
        have q' : v = .bl true := q
        subst q'
        obtain rfl : u = Value.bool true := r'
        refine ⟨rfl, OldK.of_keep fun b o e => ?_, os, bare⟩
        cases q : H b with
        | none => exact un.keep b o e q (by intro z; exact absurd (show b ∈ ([] : List Addr) from z) (by simp)) (by simp)
        | some u =>
          rcases hO b with z | ⟨ob, xs, z⟩
          · rw [q] at z; cases z
          · have z2 := un.frzs b ob _ z
            obtain ⟨e1, _⟩ := hok b _ z
            obtain ⟨e2, _⟩ := hok' b _ z2
            rw [e] at e1; cases e1
            exact e2
  cases hk : K.lookup a with
  | some o =>
    -- the script is one of the module's own objects
    have e := KX a o hk
    rw [ha] at e
    cases e
    refine core (fun _ => none) (fun _ => .inl rfl) (.inr ⟨_, vs.toArray, _, hk, rfl, rfl, rfl, by rw [List.size_toArray, lenV]; exact hl, by simpa using rv⟩) (fun b u z => by have z' : (none : Option HO) = some u := z; cases z') (fun b z => absurd rfl z) fun z => absurd rfl z
  | none =>
    refine core (fun b => if b = a then some (.frz { cls := .type "list", data := .seq vs.toArray } (.lst (ns.map V.int))) else none) (fun b => ?_) (.inl (.inr ⟨{ cls := .type "list", data := .seq vs.toArray }, if_pos rfl⟩)) (fun b u z => ?_) (fun b z => ?_) fun _ => hk
    · by_cases hb : b = a
      · exact .inr ⟨_, _, if_pos hb⟩
      · exact .inl (if_neg hb)
    · by_cases hb : b = a
      · have z' := (if_pos hb).symm.trans z
        cases z'
        subst hb
        exact ⟨ha, by rw [List.length_map]; exact hl, vs, _, rv, ha⟩
      · have z' := (if_neg hb).symm.trans z
        cases z'
    · by_cases hb : b = a
      · exact hb
      · exact absurd (if_neg hb) z
end L2

namespace L2
open PySem PySem.Spec PyProof.Rows

abbrev KOf {K : PySem.W.Frag} {h : Heap} (_ : K.In h) : PySem.W.Frag := K

/-- the goal that k_head leaves (case hc), from the law's promise. F gives the function object fd (K's own) once, then the promise over every base -/
theorem walk_of {l : PySem.W.OpenLaw} {n k : Nat} {q : Program} {loose : List Str} {XP : (Str → Option Value) → Heap → Prop} {YP : World → Heap → Prop} {d : DefRec} {K : Params → PySem.W.Frag} {CX : World → CXT} {sp : World → Sp} {x : Str}
    (hn : l.most = some n) (hn2 : n ≤ sizeLine) (hdf : d.params.defaults = []) (hr : Room k callerA)
    (hY : ∀ (w : World) (h : Heap), YP w h → (K w.params).In h)
    (F : ∀ (w : World) (mg : Str → Option Value) (fa : Addr) (h : Heap), (K w.params).In h → h.Ns mainGlobals mg → mg d.name = some (.ref fa) →
      ∃ fd : FuncData, (∀ (s : Shared) (u : Value), BindsTo s fd ⟨[u], []⟩ [(x, u)]) ∧
        ∀ base : Heap, (K w.params).In base → base.Ns mainGlobals mg → FnOk l.prog w (K w.params) mg base (CX w) k fa fd [x] (sp w))
    (hsp : ∀ (w : World) (H : Hp) (a : Addr) (ns : List Int), ns.length ≤ n → Only H → SqL (K w.params) H a (ns.map V.int) → sp w [.ref a] H (fun v _ => v = .bl true) fun _ _ _ => False)
    (hCX : ∀ (w : World) (H : Hp) (s : Shared) (e : Value) (s' : Shared), CX w [] H s (fun _ _ _ => False) e s' → False) :
    PySem.W.WalkO q loose XP YP l.row.toRowW d [] (fun f vs => PySem.call f vs) := by
  refine Att.attach_call hn hdf fun w s₀ s₁ mg mb fa o pm cd doc a vs ns G Y ho hd hcd hmg hobj hints hlen hg => ?_
  have KX := hY w _ Y
  obtain ⟨fd, hb, hF⟩ := F w mg fa _ KX G.T.g hmg
  exact law_call KX G.T.g G.T.b G.T.builtins G.T.nolimit hg hobj hints (Nat.le_trans hlen hn2) hr hF hb (fun H hO hS => hsp w H a ns hlen hO hS) fun H e s' => hCX w H s₁ e s'
end L2

/- THE LAST THEOREM (shape; LID, My.* are yours):
   My.Adr: a structure of the addresses that your layer names (classes, functions); My.Txt K t: a structure (Prop) of the equations over K;
   My.txt_mk : {K} {implicit addresses ..} (e1 : nsIn K mainGlobals "law" = some (some (.ref f))) (e2 : K.lookup f = some ⟨oc, od, .func (fnOf "law" "law" params body scope dV kV doc pm an cdv ct), sl⟩) (e3 : codeIn K cdv "law" = true) .. : ∃ t, My.Txt K t

set_option maxRecDepth 100000 in
set_option maxHeartbeats 0 in
theorem PySem.Challenge.cw_LID_holds : PySem.Challenge.rw_LID.Holds := by
  w_on; o_law; k_head; (case hw => w_witness2)
  k_fill
  refine L2.walk_of (l := PySem.Challenge.rw_LID) (n := 63) (k := 40) (x := "script") (CX := fun w => ..) (sp := fun _ => My.sp_law) rfl (by decide) rfl ⟨rfl, by decide, by decide⟩ (fun w h Y => PySem.W.kIn_of Y) ?F ?S ?C
  case F =>
    intro w mg fa h KX G hmg
    have T : ∃ t, My.Txt (L2.KOf KX) t := by
      dsimp only [L2.KOf]                          -- K must stand as «<heap const> w.params» for k_is
      refine' My.txt_mk ?e1 ?e2 ?e3 ..
      (case e1 => PySem.W.k_is)                    -- in the order: a name -> its address -> its object -> its parts
      (case e2 => PySem.W.k_is)
      ..
    obtain ⟨t, T⟩ := T
    have e0 := hmg.symm.trans (PySem.W.mg_of KX G T.law)
    cases e0                                       -- fa is the law's own address
    exact ⟨_, fun s u => .of_eq rfl, fun base kb nb => My.law_fn T kb nb⟩     -- if «.of_eq rfl» comes too early: refine' ⟨_, ?b, fun base kb nb => My.law_fn T kb nb⟩; exact fun s u => .of_eq rfl
  case S => exact fun w H a ns hl hO hS => ..
  case C => exact ..
(the tactic k_is has no namespace: write k_is) -/

/-! SHORT WORDS over the layer: a def of the text, its body, what a loop and a test want. -/
namespace L2
open PySem PySem.Spec PyProof.Rows

/-! ### the text by places -/
/-- the j-th statement of a class's body -/
def inClass (s : Stmt) (j : Nat) : Stmt := match s with
  | .ClassDef _ _ _ body _ _ _ _ _ _ _ => body.getD j (.Pass ⟨0, 0, 0, 0⟩)
  | _ => .Pass ⟨0, 0, 0, 0⟩
def defArgs (s : Stmt) : Arguments := match s with
  | .FunctionDef _ a _ _ _ _ _ _ _ _ => a
  | _ => { posonlyargs := [], args := [], vararg := none, kwonlyargs := [], kw_defaults := [], kwarg := none, defaults := [] }
def defBody (s : Stmt) : List Stmt := match s with
  | .FunctionDef _ _ b _ _ _ _ _ _ _ => b
  | _ => []
def defScope (s : Stmt) : Scope := match s with
  | .FunctionDef _ _ _ _ _ _ sc _ _ _ => sc
  | _ => { kind := .function, names := [], isGenerator := false, isCoroutine := false }

/-! ### no exception leaves a def -/
abbrev CX0 : CXT := fun _ _ _ _ _ _ => False
abbrev E0 : XK := fun _ _ _ => False
theorem pass0 {X : Cx} : Passes CX0 X E0 := fun _ _ _ _ _ _ _ h => h.elim

/-! ### a def (or method) of the text as it stands behind the top -/
structure Fun (K : PySem.W.Frag) (x qual : Str) (st : Stmt) (f : Addr) (fd : FuncData) : Prop where
  ex : ∃ (oc : Value) (od : Option Addr) (kV doc pm : Value) (an : Option Addr) (cdv ct : Value) (osl : Array (Option Value)),
    fd = PySem.W.fnOf x qual (defArgs st) (defBody st) (defScope st) .none kV doc pm an cdv ct ∧ K.lookup f = some ⟨oc, od, .func fd, osl⟩ ∧ PySem.W.codeIn K cdv qual = true
  kp : PySem.W.keepIn K (.ref f) = true
section
variable {P : Program} {w : World} {K : PySem.W.Frag} {mg : Str → Option Value} {base : Heap}
/-- THE RULE for a def: its body as a term of rules, and the reading of that term -/
theorem Fun.ok {x qual : Str} {st : Stmt} {f : Addr} {fd : FuncData} {N ps : List Str} {k : Nat} {sp : Sp} (F : Fun K x qual st f fd) (S : FnScope N ps (defScope st)) (len : ∀ vs H Q E, sp vs H Q E → vs.length = ps.length)
    (hbody : ∀ (cdv : Value) (A : Around) (outer : List Env) (s : Shared) (H : Hp) (vs : List V) (Q : VK) (E : XK), Room k (A.deeper (envOfC qual (defScope st) s.heap.objs.size f cdv)) → sp vs H Q E →
      ∃ t, PSs (cxOf CX0 P w K mg base N qual (defScope st) f cdv A outer s H E).nox (defBody st) t ∧ t { nx := fun _ H' => Q .non H', rt := Q } (start N vs) H) : FnOk P w K mg base CX0 (k + 1) f fd ps sp := by
  obtain ⟨oc, od, kV, doc, pm, an, cdv, ct, osl, rfl, lk, hcd⟩ := F.ex
  refine fn_of lk hcd S len fun A outer s H vs Q E hr hsp => ?_
  obtain ⟨t, h, q⟩ := hbody cdv A outer s H vs Q E hr hsp
  exact ⟨t, h.nox, q⟩
/-- how its arguments bind (no defaults): h is «fun _ _ _ _ _ _ us hl => match us, hl with | [_, _], _ => rfl», one _ a parameter -/
theorem Fun.binds {x qual : Str} {st : Stmt} {f : Addr} {fd : FuncData} {ps : List Str} (F : Fun K x qual st f fd)
    (h : ∀ (kV doc pm : Value) (an : Option Addr) (cdv ct : Value) (us : List Value), us.length = ps.length → bindArgs (PySem.W.fnOf x qual (defArgs st) (defBody st) (defScope st) .none kV doc pm an cdv ct) ⟨us, []⟩ = pure (ps.zip us)) : Binds K fd ps [] := by
  obtain ⟨oc, od, kV, doc, pm, an, cdv, ct, osl, rfl, lk, hcd⟩ := F.ex
  exact .all (h kV doc pm an cdv ct)
theorem fun_mk {x qual : Str} {st : Stmt} {f : Addr} {oc : Value} {od an : Option Addr} {osl : Array (Option Value)} {kV doc pm cdv ct : Value} (l : K.lookup f = some ⟨oc, od, .func (PySem.W.fnOf x qual (defArgs st) (defBody st) (defScope st) .none kV doc pm an cdv ct), osl⟩)
    (c : PySem.W.codeIn K cdv qual = true) (k : PySem.W.keepIn K (.ref f) = true) : Fun K x qual st f (PySem.W.fnOf x qual (defArgs st) (defBody st) (defScope st) .none kV doc pm an cdv ct) := ⟨⟨oc, od, kV, doc, pm, an, cdv, ct, osl, rfl, l, c⟩, k⟩
end
theorem hu_of {A : Around} {k : Nat} (hr : Room k A) : A.units + 1 < cLine := Nat.lt_of_le_of_lt (Nat.add_le_add_left (by decide : 1 ≤ 64) _) hr.units
theorem small1000 {n : Nat} (h : n ≤ 1000) : n < sizeLine := Nat.lt_of_le_of_lt h (by decide)

/-! ### expressions in short: the name that stands in the i-th slot -/
section
variable {X : Cx}
theorem pv (i : Nat) {x : Str} {pos : Pos} (hN : X.N[i]? = some x := by rfl) (hv : Vis X.env.scope x := by first | exact Or.inl rfl | exact Or.inr (Or.inl rfl) | exact Or.inr (Or.inr rfl)) (hd : (x == ("__debug__" : Str)) = false := by decide)
    (hcd : (x == ("__classdict__" : Str)) = false := by decide) : PE X (.Name x pos) (tVar i) := pe_var hN hv hd hcd
end

/-! ### tests -/
theorem iteF {A B : Prop} (h : B) : if false = true then A else B := by
  rw [if_neg Bool.false_ne_true]
  exact h
theorem iteT {A B : Prop} (h : A) : if true = true then A else B := by
  rw [if_pos rfl]
  exact h
theorem ite2 {c A B : Prop} [Decidable c] (h1 : c → A) (h2 : ¬ c → B) : if c then A else B := by
  by_cases h : c
  · rw [if_pos h]
    exact h1 h
  · rw [if_neg h]
    exact h2 h
/-! ### heaps -/
/-- all that was tracked is as it was -/
def Same (H H' : Hp) : Prop := ∀ b o, H b = some o → H' b = some o
theorem Same.refl (H : Hp) : Same H H := fun _ _ h => h
theorem Same.trans {H H1 H2 : Hp} (a : Same H H1) (b : Same H1 H2) : Same H H2 := fun c o h => b c o (a c o h)
theorem Same.free {H H' : Hp} (e : Same H H') {l : Addr} (h : H' l = Option.none) : H l = Option.none := by
  cases q : H l with
  | none => rfl
  | some o =>
    rw [e l o q] at h
    cases h
theorem Same.seq {K : PySem.W.Frag} {H H' : Hp} {a : Addr} {xs : List V} (e : Same H H') (h : SqL K H a xs) : SqL K H' a xs := by
  rcases h with (h | ⟨o, h⟩) | h
  · exact .inl (.inl (e _ _ h))
  · exact .inl (.inr ⟨o, e _ _ h⟩)
  · exact .inr h

/-! ### a dict's pairs: keys that differ -/
section
variable {κ : Type} [DecidableEq κ]
end
/-! ### lists -/
end L2


set_option Elab.async false
set_option linter.all false
set_option maxRecDepth 100000
set_option maxHeartbeats 4000000
namespace L2
open PySem PySem.Spec PyProof.Rows
/-! own rules beside the layer -/
section
variable {X : Cx}
/-- a comprehension over a text, sign by sign -/
theorem lc_str {x : Str} {g : TG} {tt : TT} {te : TE} {vs : List Nat} {σ : St} {H1 : Hp} {D : Addr} {Qd : Hp → Prop} (Pv : Nat → Hp → Prop) (h0 : Pv 0 (upd H1 D (.lst [])))
    (hs : ∀ i c H, x.cps[i]? = some c → Pv i H → g (.str ⟨#[c]⟩) (wipe σ vs) H fun σ2 H2 => wipe σ2 vs = wipe σ vs ∧ tt σ2 H2 fun b H3 =>
      if b = true then te σ2 H3 fun y H4 => ∃ acc, H4 D = some (.lst acc) ∧ acc.length < sizeLine ∧ Pv (i + 1) (upd H4 D (.lst (acc ++ [y]))) else Pv (i + 1) H3) (hd : ∀ H, Pv x.cps.size H → Qd H) :
    ∃ W : Nat → Nat → Hp → Prop, (∃ m, W 0 m (upd H1 D (.lst []))) ∧ ∀ i m H, W i m H →
      ((Its x).stop i H ∧ Qd H) ∨ ((Its x).go i H ∧ ∃ Nx : Hp → Prop, (∀ H', Nx H' → ∃ m', m' < m ∧ W (i + 1) m' H') ∧ ∀ y H', (Its x).yld i H y H' → g y (wipe σ vs) H' fun σ2 H2 => wipe σ2 vs = wipe σ vs ∧ tt σ2 H2 fun b H3 =>
        if b = true then te σ2 H3 fun y H4 => ∃ acc, H4 D = some (.lst acc) ∧ acc.length < sizeLine ∧ Nx (upd H4 D (.lst (acc ++ [y]))) else Nx H3) := by
  refine ⟨fun i m H => m = x.cps.size - i ∧ i ≤ x.cps.size ∧ Pv i H, ⟨x.cps.size, by simp, Nat.zero_le _, h0⟩, ?_⟩
  rintro i m H ⟨rfl, hi, p⟩
  by_cases hlt : i < x.cps.size
  · refine .inr ⟨hlt, Pv (i + 1), fun H' p' => ⟨x.cps.size - (i + 1), by omega, rfl, hlt, p'⟩, fun y H' z => ?_⟩
    obtain ⟨e, c, hc, hv⟩ := z
    subst e hv
    exact hs i c _ hc p
  · have e : i = x.cps.size := by omega
    subst e
    exact .inl ⟨Nat.le_refl _, hd H p⟩

/-- isinstance(x, c) as a call by values -/
def clsV : V → Option Value
  | .ty n => some (.type n)
  | .ref a => some (.ref a)
  | _ => none
def rIsi (K : PySem.W.Frag) : List V → Hp → VK → Prop := fun xs H Q => ∃ (x y : V) (t c : Value) (b : Bool), xs = [x, y] ∧ TyOf K H x t ∧ clsV y = some c ∧ PySem.W.kitOne K t c = some b ∧ Q (.bl b) H
theorem cr_isi : CallR X (.builtin "isinstance") (rIsi X.K) := by
  intro pins s σ H xs us Q I r h
  obtain ⟨x, y, t, c, b, rfl, ty, hy, hk, q⟩ := h
  cases r with
  | cons rx r1 =>
    cases r1 with
    | cons ry r2 =>
      cases r2
      rename_i u v
      have e : v = c := by
        cases y with
        | ty n => cases (show v = Value.type n from ry); exact Option.some.inj hy
        | ref a => cases (show v = Value.ref a from ry); exact Option.some.inj hy
        | non => cases hy
        | bl _ => cases hy
        | int _ => cases hy
        | str _ => cases hy
        | byt _ => cases hy
        | flt _ => cases hy
      subst e
      exact isinst_ok I rx ty hk fun tk => ⟨.bl b, H, I.tok tk, rfl, q⟩

/-- products of any two ints whose bits are few -/
theorem op_mulX : OpR X (binaryOp .Mult) (rI IntMulOk fun i j => .int (i * j)) := opI fun _ _ _ _ _ _ _ hc q => mul_int q hc

/-- a text's slice with a step other than 1 and 0 -/
def cutSt (z : Str) (lo hi : Option Int) (st : Int) : Str := ⟨((Builtin.Str.strSliceIndices lo hi st z.length).filterMap (z.cps[·]?)).toArray⟩
def tSlSt (te : TE) (tl th ts : TO) : TE := fun σ H Q => te σ H fun x H1 => tl σ H1 fun l H2 => th σ H2 fun u H3 => ts σ H3 fun st H4 =>
  ∃ z k, x = .str z ∧ st = some k ∧ (k == 0) = false ∧ (k == 1) = false ∧ (cutSt z l u k).length ≤ sizeLine ∧ Q (.str (cutSt z l u k)) H4
/-- a statement, an expression, a test: what is known behind it, then the rest once -/
def tCut (t : TS) : TS := fun D σ H => ∃ R : St → Hp → Prop, t { D with nx := R } σ H ∧ ∀ σ' H', R σ' H' → D.nx σ' H'
theorem ps_cut {st : Stmt} {t : TS} (h : PS X st t) : PS X st (tCut t) := by
  intro pins s σ H D I hw
  obtain ⟨R, hq, hm⟩ := hw
  refine thn (h pins s σ H _ I hq) fun f s' q => ?_
  cases f with
  | next => obtain ⟨σ', H', I', r⟩ := q; exact ⟨σ', H', I', hm _ _ r⟩
  | brk => exact q
  | cont => exact q
  | ret u => exact q
def tCutE (t : TE) : TE := fun σ H Q => ∃ R : V → Hp → Prop, t σ H R ∧ ∀ v H', R v H' → Q v H'
def tCutT (t : TT) : TT := fun σ H Q => ∃ R : Bool → Hp → Prop, t σ H R ∧ ∀ b H', R b H' → Q b H'
theorem pt_cut {e : Expr} {t : TT} (h : PT X e t) : PT X e (tCutT t) := by
  intro pins s σ H Q I hw
  obtain ⟨R, hq, hm⟩ := hw
  refine thn (h pins s σ H R I hq) fun b s' ⟨H', I', q⟩ => ⟨H', I', hm _ _ q⟩
end
end L2

set_option Elab.async false
set_option linter.all false
set_option maxRecDepth 100000
set_option maxHeartbeats 4000000
namespace L2X
open PySem PySem.W PySem.Spec PySem.Calls PyProof.Rows
/-- what of the text a class of exceptions must have -/
structure ExcK (K : Frag) (C : Addr) : Prop where
  ga : findIn K (.ref C) "__getattribute__" = some (some (.builtin "BaseException.__getattribute__"))
  gt : findIn K (.ref C) "__getattr__" = some none
  cl : findIn K (.ref C) "__class__" = some (some (.builtin "object.__class__"))
  get : specialIn K (.builtin "object.__class__") "__get__" = some (some (.builtin "getset_descriptor.__get__"))
  tk : takesIn K (.builtin "object.__class__") = some true
  mo : mroIn K C (.type "object") = some true
  mb : mroIn K C (.type "BaseException") = some true
  cls : (clsIn K C).isSome = true
section
variable {prog : Program} {w : World} {A : Around} {E : Value → Shared → Prop} {s : Shared} {K : Frag} {x C : Addr} {ox : Obj}
end
end L2X

set_option Elab.async false
set_option linter.all false
set_option maxRecDepth 100000
set_option maxHeartbeats 4000000
namespace L2
open PySem PySem.Spec PyProof.Rows
/-! exceptions in flight -/
/-- objects are kept; at the frames fr the slots may change; of ex nothing is said -/
def Ch (fr ex : List Addr) (h h' : Heap) : Prop :=
  (∀ b o, h.get? b = some o → b ∉ ex → b ∉ fr → h'.get? b = some o) ∧ ∀ b o, h.get? b = some o → b ∉ ex → b ∈ fr → ∃ sl, h'.get? b = some { o with slots := sl }
section
variable {fr ex ex' : List Addr} {h h1 h2 : Heap} {b : Addr} {o : Obj}
theorem Ch.any (c : Ch fr ex h h1) (q : h.get? b = some o) (hx : b ∉ ex) : ∃ sl, h1.get? b = some { o with slots := sl } := by
  by_cases hb : b ∈ fr
  · exact c.2 b o q hx hb
  · exact ⟨o.slots, c.1 b o q hx hb⟩
end
/-- an exception at x, of the class at C, its newest entry at T -/
structure XO (h : Heap) (x C T : Addr) (fl : Value) : Prop where
  ob : ∃ oe vs, h.get? x = some oe ∧ oe.cls = .ref C ∧ oe.dict = none ∧ oe.data = .fields vs ∧ vs[1]? = some (.ref T) ∧ vs[2]? = some .none
  tb : ∃ oT ts, h.get? T = some oT ∧ oT.data = .fields ts ∧ ts[3]? = some fl
  ne : T ≠ x
theorem dict_mapFields {o : Obj} (f : Array Value → Array Value) : (o.mapFields f).dict = o.dict := by
  unfold Obj.mapFields
  split <;> rfl
section
variable {M : Model} {A : Around} {E : Value → Shared → Prop} {s : Shared} {base : Heap} {env : Env} {outer : List Env} {L x C T : Addr} {Q : Unit → Shared → Prop}
theorem not_frame {l : List Env} {o : Obj} {vs : Array Value} (hl : s.heap.FunFrames base l) (he : s.heap.get? x = some o) (hd : o.data = .fields vs) : x ∉ frs l := fun hm => by
  obtain ⟨_, ob, ho, hnf⟩ := hl.mem hm
  rw [he] at ho
  cases ho
  exact hnf vs hd
theorem note_new {oe : Obj} {vs : Array Value} {head : Value} {hadNext : Bool} (hfr : A.frames = some (env :: outer)) (hl : s.heap.FunFrames base (env :: outer)) (hf : env.frame = some L)
    (he : s.heap.get? x = some oe) (hc : oe.cls = .ref C) (hdn : oe.dict = none) (hd : oe.data = .fields vs) (hsz : 1 < vs.size) (h2 : vs[2]? = some .none)
    (k : ∀ h' T, s.heap.objs.size ≤ T → Ch (frs (env :: outer)) [x] s.heap h' → XO h' x C T (rawInt L) → Q () { s with heap := h' }) :
    wpAny M A (do let a ← frameOf env; let pl ← entryPlaceOf L hadNext; let b ← EntryCells.newEntry head a .none (rawInt L) .none pl; setField (.ref x) 1 b) Q E s := by
  have hx : x ∉ frs (env :: outer) := not_frame hl he hd
  refine wpAny_bind (wpAny_frameOf_fun hfr hl hf fun h1 s1 => wpAny_bind (wpAny_entryPlaceOf fun pl hpl => ?_))
  unfold EntryCells.newEntry newFields
  refine wpAny_bind (wpAny_newObj_type ?_ (hpl.sizeOk5 _ _ _ _ _))
  have he1 : h1.get? x = some oe := (s1.2.1 x hx).trans he
  generalize hto : ({ cls := .type "traceback", dict := none, data := .fields ([head, .ref L, .none, rawInt L, .none] ++ (if pl.isEmpty then List.replicate 6 Value.none else pl)).toArray } : Obj) = to
  have htod : to.data = .fields ([head, .ref L, .none, rawInt L, .none] ++ (if pl.isEmpty then List.replicate 6 Value.none else pl)).toArray := by rw [← hto]
  have he2 : (h1.push to).get? x = some oe := Heap.get?_push_of_some _ he1
  have hTx : h1.objs.size ≠ x := Nat.ne_of_gt (Heap.lt_size he1)
  have hd3 := Obj.data_mapFields hd (·.setIfInBounds 1 (Value.ref h1.objs.size))
  refine wpAny_setField he2 hd hsz (k _ h1.objs.size (Nat.le_of_eq s1.1.symm) ⟨fun b o q hb hfb => ?_, fun b o q hb hfb => ?_⟩ ⟨?_, ?_, hTx⟩)
  · rw [Heap.get?_update_other _ _ (by intro z; exact hb (by simp [z]))]
    exact Heap.get?_push_of_some _ ((s1.2.1 b hfb).trans q)
  · obtain ⟨sl, e⟩ := s1.2.2 b o q
    refine ⟨sl, ?_⟩
    rw [Heap.get?_update_other _ _ (by intro z; exact hb (by simp [z]))]
    exact Heap.get?_push_of_some _ e
  · refine ⟨_, _, Heap.get?_update_self _ he2 (Obj.isFreed_of_fields hd3), (Obj.cls_mapFields _ _).trans hc, (dict_mapFields _).trans hdn, hd3, by simp [hsz], ?_⟩
    rw [Array.getElem?_setIfInBounds_ne (by decide)]
    exact h2
  · refine ⟨to, _, ?_, htod, ?_⟩
    · rw [Heap.get?_update_other _ _ (Ne.symm hTx)]
      exact Heap.get?_push_size _ (by rw [← hto]; rfl)
    · first | (simp; done) | (rcases hpl with rfl | ⟨_, _, _, _, _, _, _, rfl⟩ <;> simp)
/-- an exception that lies elsewhere comes by this frame -/
theorem note_on (hfr : A.frames = some (env :: outer)) (hl : s.heap.FunFrames base (env :: outer)) (hf : env.frame = some L) (X : XO s.heap x C T .none)
    (k : ∀ h' T', s.heap.objs.size ≤ T' → Ch (frs (env :: outer)) [x, T] s.heap h' → XO h' x C T' (rawInt L) → Q () { s with heap := h' }) : wpAny M A (noteFrame (.ref x) env) Q E s := by
  obtain ⟨⟨oe, vs, he, hc, hdn, hd, h1, h2⟩, ⟨oT, ts, hT, hdT, h3⟩, ne⟩ := X
  unfold noteFrame
  simp only [hf]
  refine wpAny_bind (wpAny_field he hd h1 ?_)
  rw [if_pos (show (Value.ref T != Value.none) = true by simp)]
  refine wpAny_bind (wpAny_field hT hdT h3 ?_)
  rw [if_neg (show ¬ ((Value.none == rawInt L) = true) by simp [rawInt])]
  refine wpAny_bind (wpAny_setField hT hdT (Array.getElem?_eq_some_iff.mp h3).1 ?_)
  have oth : ∀ b, b ≠ T → (s.heap.update T (Obj.mapFields (·.setIfInBounds 3 Value.none))).get? b = s.heap.get? b := fun b hb => Heap.get?_update_other _ _ (Ne.symm hb)
  have hsz : (s.heap.update T (Obj.mapFields (·.setIfInBounds 3 Value.none))).objs.size = s.heap.objs.size := by simp [Heap.update]
  refine note_new (s := { s with heap := s.heap.update T (Obj.mapFields (·.setIfInBounds 3 Value.none)) }) hfr (hl.of_keeps fun b o hb hnf => ⟨o, (oth b fun z => ?_).trans hb, rfl⟩) hf ((oth x (Ne.symm ne)).trans he) hc hdn hd (Array.getElem?_eq_some_iff.mp h1).1 h2 fun h' T' l c z => ?_
  · rw [z, hT] at hb
    cases hb
    exact hnf ts hdT
  · refine k h' T' (by rw [← hsz]; exact l) ⟨fun b o q hb hfb => c.1 b o ((oth b fun z => hb (by simp [z])).trans q) (fun z => hb (by simp at z; simp [z])) hfb, fun b o q hb hfb => c.2 b o ((oth b fun z => hb (by simp [z])).trans q) (fun z => hb (by simp at z; simp [z])) hfb⟩ z
theorem note_first {oe : Obj} {vs : Array Value} (hfr : A.frames = some (env :: outer)) (hl : s.heap.FunFrames base (env :: outer)) (hf : env.frame = some L)
    (he : s.heap.get? x = some oe) (hc : oe.cls = .ref C) (hdn : oe.dict = none) (hd : oe.data = .fields vs) (h1 : vs[1]? = some .none) (h2 : vs[2]? = some .none)
    (k : ∀ h' T, s.heap.objs.size ≤ T → Ch (frs (env :: outer)) [x] s.heap h' → XO h' x C T (rawInt L) → Q () { s with heap := h' }) : wpAny M A (noteFrame (.ref x) env) Q E s := by
  unfold noteFrame
  simp only [hf]
  refine wpAny_bind (wpAny_field he hd h1 ?_)
  rw [if_neg (by decide)]
  exact note_new hfr hl hf he hc hdn hd (Array.getElem?_eq_some_iff.mp h1).1 h2 k
theorem flight_off {fl : Value} (X : XO s.heap x C T fl) (k : ∀ h' : Heap, (∀ b, b ≠ T → h'.get? b = s.heap.get? b) → h'.objs.size = s.heap.objs.size → XO h' x C T .none → Q () { s with heap := h' }) : wpAny M A (setFlight (.ref x) none) Q E s := by
  obtain ⟨⟨oe, vs, he, hc, hdn, hd, h1, h2⟩, ⟨oT, ts, hT, hdT, h3⟩, ne⟩ := X
  have oth : ∀ b, b ≠ T → (s.heap.update T (Obj.mapFields (·.setIfInBounds 3 Value.none))).get? b = s.heap.get? b := fun b hb => Heap.get?_update_other _ _ (Ne.symm hb)
  have hs3 := (Array.getElem?_eq_some_iff.mp h3).1
  refine wpAny_setFlight_none he hd h1 hT hdT hs3 (k _ oth (by simp [Heap.update]) ⟨⟨oe, vs, (oth x (Ne.symm ne)).trans he, hc, hdn, hd, h1, h2⟩, ⟨_, _, Heap.get?_update_self _ hT (Obj.isFreed_of_fields (Obj.data_mapFields hdT _)), Obj.data_mapFields hdT _, by simp [hs3]⟩, ne⟩)
/-- it leaves a frame -/
theorem leave_on (hfr : A.frames = some (env :: outer)) (hl : s.heap.FunFrames base (env :: outer)) (hf : env.frame = some L) (X : XO s.heap x C T .none)
    (k : ∀ h' T', s.heap.objs.size ≤ T' → Ch (frs (env :: outer)) [x, T] s.heap h' → XO h' x C T' .none → Q () { s with heap := h' }) : wpAny M A (leaving env (.ref x)) Q E s := by
  unfold leaving
  refine wpAny_bind (note_on hfr hl hf X fun h1 T1 l c X1 => ?_)
  refine flight_off (s := { s with heap := h1 }) X1 fun h2 oth sz X2 => k h2 T1 l ?_ X2
  exact ⟨fun b o q hb hfb => (oth b (Nat.ne_of_lt (Nat.lt_of_lt_of_le (Heap.lt_size q) l))).trans (c.1 b o q hb hfb), fun b o q hb hfb => by
    obtain ⟨sl, e⟩ := c.2 b o q hb hfb
    exact ⟨sl, (oth b (Nat.ne_of_lt (Nat.lt_of_lt_of_le (Heap.lt_size q) l))).trans e⟩⟩
theorem leave_first {oe : Obj} {vs : Array Value} (hfr : A.frames = some (env :: outer)) (hl : s.heap.FunFrames base (env :: outer)) (hf : env.frame = some L)
    (he : s.heap.get? x = some oe) (hc : oe.cls = .ref C) (hdn : oe.dict = none) (hd : oe.data = .fields vs) (h1 : vs[1]? = some .none) (h2 : vs[2]? = some .none)
    (k : ∀ h' T', s.heap.objs.size ≤ T' → Ch (frs (env :: outer)) [x] s.heap h' → XO h' x C T' .none → Q () { s with heap := h' }) : wpAny M A (leaving env (.ref x)) Q E s := by
  unfold leaving
  refine wpAny_bind (note_first hfr hl hf he hc hdn hd h1 h2 fun h1 T1 l c X1 => ?_)
  refine flight_off (s := { s with heap := h1 }) X1 fun h2 oth sz X2 => k h2 T1 l ?_ X2
  exact ⟨fun b o q hb hfb => (oth b (Nat.ne_of_lt (Nat.lt_of_lt_of_le (Heap.lt_size q) l))).trans (c.1 b o q hb hfb), fun b o q hb hfb => by
    obtain ⟨sl, e⟩ := c.2 b o q hb hfb
    exact ⟨sl, (oth b (Nat.ne_of_lt (Nat.lt_of_lt_of_le (Heap.lt_size q) l))).trans e⟩⟩
end
end L2

set_option Elab.async false
set_option linter.all false
set_option maxRecDepth 100000
set_option maxHeartbeats 4000000
namespace L2
open PySem PySem.Spec PyProof.Rows
section
variable {fs fr ex exU : List Addr} {H H1 : Hp} {h0 h1 h2 h h' : Heap} {P : Program} {w : World}
theorem Un.ch (U : Un fs exU H H1 h0 h1) (c : Ch fr ex h1 h2) (hx : ∀ b o, h0.get? b = some o → b ∉ ex) (hf : ∀ b o, h0.get? b = some o → b ∈ fr → b ∈ fs) : Un fs exU H H1 h0 h2 where
  keep := fun b o q n hb he => c.1 b o (U.keep b o q n hb he) (hx b o q) fun z => hb (hf b o q z)
  slot := fun b o q n hb he => by
    obtain ⟨sl, e⟩ := U.slot b o q n hb he
    obtain ⟨sl2, e2⟩ := c.any e (hx b o q)
    exact ⟨sl2, e2⟩
  free := U.free
  there := fun b o q he => by
    obtain ⟨o', e⟩ := U.there b o q he
    obtain ⟨sl, e2⟩ := c.any e (hx b o q)
    exact ⟨_, e2⟩
  tups := U.tups
  frzs := U.frzs
  tbls := U.tbls
theorem HOk.ch (x : HOk P w H h) (c : Ch fr ex h h') (hf : ∀ b ∈ fr, H b = none) (he : ∀ b ∈ ex, H b = none) : HOk P w H h' := fun a o e =>
  (x a o e).stay (fun b u hb q => by
    have nn : H b ≠ none := by
      rcases hb with z | z
      · rw [z, e]; exact fun z => nomatch z
      · rw [z]; exact fun z => nomatch z
    exact c.1 b u q (fun z => nn (he b z)) fun z => nn (hf b z)) (fun _ q => q) fun _ _ q => q
end
/-- an address that the context does not know -/
structure FB (X : Cx) (pins : List (Addr × Obj)) (H : Hp) (b : Addr) : Prop where
  s0 : X.s_0.heap.get? b = none
  nt : H b = none
  nl : b ≠ X.env.locals
  nc : ∀ y c, X.env.cells.lookup y = some c → c ≠ b
  np : ∀ p ∈ X.pn ++ pins, p.1 ≠ b
section
variable {X : Cx} {pins : List (Addr × Obj)} {σ : St} {H H1 : Hp} {s s' : Shared} {h' : Heap} {ex : List Addr} {b : Addr}
theorem Inv.ch {t' : Nat} (I : Inv X pins σ H s) (c : Ch (frs X.stack) ex s.heap h') (hx : ∀ b ∈ ex, FB X pins H b) : Inv X pins σ H { s with heap := h', toks := t' } := by
  have nL : X.env.locals ∉ ex := fun z => (hx _ z).nl rfl
  have cellK : ∀ x a, X.env.cells.lookup x = some a → ∀ v, s.heap.IsCell a v → h'.IsCell a v := fun x a e v ⟨o, ho, hd⟩ => by
    obtain ⟨sl, q⟩ := c.any ho fun z => (hx _ z).nc x a e rfl
    exact ⟨_, q, hd⟩
  refine ⟨I.ok, I.os, I.bare, I.base.ch c (fun b o q z => ?_) (fun b o q z => ?_), ?_, fun x a e => ?_, I.free, I.freeC, fun p hp => ?_, I.hok.ch c I.stkFree fun b hb => (hx b hb).nt, I.len⟩
  · rw [(hx b z).s0] at q; cases q
  · rcases List.mem_cons.mp (I.stkSub b z) with e | e
    · rw [e] at q
      exact absurd (Nat.lt_of_lt_of_le (Heap.lt_size q) I.ok.above) (Nat.lt_irrefl _)
    · exact e
  · obtain ⟨m, ⟨o, es, ep, ho, r⟩, hl⟩ := I.loc
    obtain ⟨sl, q⟩ := c.any ho nL
    refine ⟨m, ⟨_, es, ep, q, r⟩, fun i x v e1 e2 e3 => ?_⟩
    obtain ⟨u, ru, l⟩ := hl i x v e1 e2 e3
    refine ⟨u, ru, ?_⟩
    rcases l with l | ⟨kk, a, e, z⟩
    · exact .inl l
    · exact .inr ⟨kk, a, e, cellK x a e _ z⟩
  · obtain ⟨v, z⟩ := I.cell x a e
    exact ⟨v, cellK x a e v z⟩
  · obtain ⟨e, n, ne, nf, d⟩ := I.pin p hp
    refine ⟨c.1 p.1 p.2 e (fun z => (hx _ z).np p hp rfl) fun z => ?_, n, ne, nf, d⟩
    rcases List.mem_cons.mp (I.stkSub _ z) with q | q
    · exact ne q
    · exact nf q
/-- what was not there at a call is not known to the caller -/
theorem Inv.fb (I : Inv X pins σ H s) (hex : X.ex = []) (h : s.heap.get? b = none) (hn : H1 b = none) : FB X pins H1 b := by
  refine ⟨?_, hn, ?_, fun y c e z => ?_, fun p hp z => ?_⟩
  · cases q : X.s_0.heap.get? b with
    | none => rfl
    | some o =>
      obtain ⟨o', e⟩ := I.base.there b o q (by rw [hex]; simp)
      rw [h] at e; cases e
  · rintro rfl
    obtain ⟨m, ⟨o, es, ep, ho, r⟩, hl⟩ := I.loc
    rw [h] at ho; cases ho
  · obtain ⟨v, o, ho, hd⟩ := I.cell y c e
    rw [z, h] at ho; cases ho
  · have q := (I.pin p hp).1
    rw [z, h] at q; cases q
theorem Inv.fbSize (I : Inv X pins σ H s) (hb : s.heap.objs.size ≤ b) (hn : H1 b = none) : FB X pins H1 b := by
  obtain ⟨f0, f1, f2, f3, f4, f5⟩ := I.fpOk (H' := H1) hb hn
  exact ⟨Heap.get?_none_of_le (Nat.le_trans I.sz hb), hn, f1, f4, f5⟩
end
/-- how an exception lies behind a call -/
def CX1 (P : Program) (w : World) : CXT := fun outer H s E e s' => ∃ (x C T : Addr) (H1 : Hp), e = .ref x ∧ s'.os = s.os ∧ AllBare s'.gens ∧ Un (frs outer) [] H H1 s.heap s'.heap ∧ HOk P w H1 s'.heap ∧
  XO s'.heap x C T .none ∧ s.heap.get? x = none ∧ s.heap.get? T = none ∧ H1 x = none ∧ H1 T = none ∧ E (.ref C) none H1
section
variable {P : Program} {w : World} {K : PySem.W.Frag} {mg : Str → Option Value} {base : Heap} {N : List Str} {qual : Str} {scope : Scope} {f : Addr} {cd : Value} {A : Around} {outer : List Env} {s0 : Shared} {H0 : Hp} {E : XK}
/-- a callee's exception leaves this def too -/
theorem pass_up : Passes (CX1 P w) (cxOf (CX1 P w) P w K mg base N qual scope f cd A outer s0 H0 E) E := by
  intro pins σ H s e s' I q
  obtain ⟨x, C, T, H1, rfl, os, bare, un, hok, XX, hx, hT, nx, nT, hE⟩ := q
  have I1 := I.call' (ch := []) os un hok bare (fun b z => absurd z (by simp))
  have fx := I.fb (H1 := H1) rfl hx nx
  have fT := I.fb (H1 := H1) rfl hT nT
  show wpAny _ _ (leaving _ (.ref x)) _ _ _
  refine leave_on (base := base) (outer := outer) I1.ok.frames I1.stack rfl XX fun h' T' l c X' => ?_
  have I2 := I1.ch (t' := s'.toks) c fun b hb => by
    rcases List.mem_cons.mp hb with z | z
    · rw [z]; exact fx
    · rw [List.mem_singleton.mp z]; exact fT
  exact ⟨x, C, T', H1, rfl, I2.os, I2.bare, I2.base, I2.hok, X', fx.s0, (I1.fbSize l (I1.hok.fresh l)).s0, nx, I1.hok.fresh l, hE⟩
/-- a def raises -/
def Up (X : Cx) (E : XK) : Prop := ∀ (pins : List (Addr × Obj)) (σ : St) (H : Hp) (s : Shared) (x C : Addr) (args : List Value) (h' : Heap), Inv X pins σ H s → Heap.MadeExcOf s.heap h' x (.ref C) args → E (.ref C) none H → X.xe (.ref x) { s with heap := h' }
theorem up_of : Up (cxOf (CX1 P w) P w K mg base N qual scope f cd A outer s0 H0 E) E := by
  intro pins σ H s x C args h' I hm hE
  have I1 : Inv (cxOf (CX1 P w) P w K mg base N qual scope f cd A outer s0 H0 E) pins σ H { s with heap := h' } := I.kept (t' := s.toks) hm.keeps
  obtain ⟨t, he, _, _⟩ := hm.there
  have nx : H x = none := by
    cases q : H x with
    | none => rfl
    | some u =>
      have z := (I.hok x u q).lt
      cases qq : s.heap.get? x with
      | none => 
        exfalso
        have hk := hm.new
        cases u with
        | lst xs => obtain ⟨_, _, _, _, e⟩ := I.hok x _ q; rw [hk] at e; cases e
        | tup xs => obtain ⟨_, _, _, o, e, _⟩ := I.hok x _ q; rw [hk] at e; cases e
        | dK kvs => obtain ⟨_, _, _, _, o, _, _, e, _⟩ := I.hok x _ q; rw [hk] at e; cases e
        | dT kvs => obtain ⟨_, _, _, _, o, _, _, e, _⟩ := I.hok x _ q; rw [hk] at e; cases e
        | set S n => obtain ⟨o, _, _, _, e, _⟩ := I.hok x _ q; rw [hk] at e; cases e
        | ins C dx fs => obtain ⟨_, _, _, e, _⟩ := I.hok x _ q; rw [hk] at e; cases e
        | own y => obtain ⟨_, e⟩ := I.hok x _ q; rw [hk] at e; cases e
        | xd fs => obtain ⟨_, ⟨_, _, _, e, _⟩, _⟩ := I.hok x _ q; rw [hk] at e; cases e
        | rng lo hi => obtain ⟨_, _, _, e⟩ := I.hok x _ q; rw [hk] at e; cases e
        | frz ob u => obtain ⟨e, _⟩ := I.hok x _ q; rw [hk] at e; cases e
        | tbl ps => have e : s.heap.get? x = some _ := I.hok x _ q; rw [hk] at e; cases e
        | met f y => have e : s.heap.get? x = some _ := I.hok x _ q; rw [hk] at e; cases e
        | ext φ => obtain ⟨_, ⟨_, e⟩, _⟩ := I.hok x _ q; rw [hk] at e; cases e
      | some o => rw [hm.new] at qq; cases qq
  have fx := I.fb (H1 := H) rfl hm.new nx
  show wpAny _ _ (leaving _ (.ref x)) _ _ _
  refine leave_first (s := { s with heap := h' }) (base := base) (outer := outer) (C := C) I1.ok.frames I1.stack rfl he rfl rfl rfl rfl rfl fun h2 T' l c X' => ?_
  have I2 := I1.ch (t' := s.toks) c fun b hb => by rw [List.mem_singleton.mp hb]; exact fx
  exact ⟨x, C, T', H, rfl, I2.os, I2.bare, I2.base, I2.hok, X', fx.s0, (I1.fbSize l (I1.hok.fresh l)).s0, nx, I1.hok.fresh l, hE⟩
end
end L2

set_option Elab.async false
set_option linter.all false
set_option maxRecDepth 100000
set_option maxHeartbeats 4000000
namespace L2
open PySem PySem.Spec PyProof.Rows
/-- nothing is handled, or an exception without a context -/
def HdS (A : Around) (h : Heap) : Prop := A.handled = none ∨ ∃ (e0 : Addr) (oe : Obj) (vs : Array Value), A.handled = some (.ref e0) ∧ h.get? e0 = some oe ∧ oe.data = .fields vs ∧ vs[2]? = some .none
section
variable {prog : Program} {w : World} {A : Around} {E : Value → Shared → Prop} {s : Shared}
end
end L2

set_option Elab.async false
set_option linter.all false
set_option maxRecDepth 100000
set_option maxHeartbeats 4000000
namespace L2
open PySem PySem.Spec PyProof.Rows
/-- the exception that is handled: at x, of the class at C -/
def HdE (A : Around) (x C : Addr) (H : Hp) (h : Heap) : Prop := A.handled = some (.ref x) ∧ H x = none ∧ ∃ (ox : Obj) (vs : Array Value), h.get? x = some ox ∧ ox.cls = .ref C ∧ ox.dict = none ∧ ox.data = .fields vs ∧ vs[2]? = some .none
def HdX (X : Cx) (x C : Addr) : Prop := HdE X.A x C X.H_0 X.s_0.heap ∧ x ∉ X.fs ∧ x ∉ X.ex
structure TurnR (P : Program) (w : World) (K : PySem.W.Frag) (tg : Expr) (J : It) (fp : List Addr) (it : Addr) (tn : Nat → Heap → Prop) : Prop where
  mem : it ∈ fp
  obj : ∀ i h, tn i h → ∀ b ∈ fp, ∃ o, h.get? b = some o ∧ ∀ v, o.data ≠ .cell v
  keep : ∀ i h h', tn i h → (∀ b ∈ fp, ∀ o, h.get? b = some o → h'.get? b = some o) → tn i h'
  item : ∀ (X : Cx), X.prog = P → X.w = w → X.K = K → ∀ (i : Nat) (pins : List (Addr × Obj)) (s : Shared) (σ : St) (H : Hp) (E : Value → Shared → Prop), Inv X pins σ H s → HdS X.A s.heap → (∀ b ∈ fp, FpOk X pins H b) → tn i s.heap → J.go i H →
    wpAny (model P w) X.A (pyNext (.ref it)) (fun r s1 => ∃ u, r = some u ∧
      wpAny (model P w) X.A (letOwnedTupleGo tg (.ref it) u) (fun _ s2 => ∃ x H', Inv X pins σ H' s2 ∧ RelV x u ∧ J.yld i H x H' ∧ tn (i + 1) s2.heap ∧ ∀ b ∈ fp, H' b = none) E s1) E s
  done : ∀ (X : Cx), X.prog = P → X.w = w → X.K = K → ∀ (i : Nat) (pins : List (Addr × Obj)) (s : Shared) (σ : St) (H : Hp) (E : Value → Shared → Prop), Inv X pins σ H s → HdS X.A s.heap → (∀ b ∈ fp, FpOk X pins H b) → tn i s.heap → J.stop i H →
    wpAny (model P w) X.A (pyNext (.ref it)) (fun r s1 => r = none ∧ Inv X pins σ H s1) E s
  self : ∀ (A : Around) (i : Nat) (s : Shared) (Q : Value → Shared → Prop) (E : Value → Shared → Prop), tn i s.heap → Q (.ref it) s → wpAny (model P w) A (pyIter (.ref it)) Q E s
/-- an iterator has come -/
def PIER (X : Cx) (pins : List (Addr × Obj)) (σ : St) (tg : Expr) (R : It → Hp → Prop) (itv : Value) (s2 : Shared) : Prop :=
  ∃ (it : Addr) (fp : List Addr) (tn : Nat → Heap → Prop) (J : It) (H' : Hp), itv = .ref it ∧ Inv X pins σ H' s2 ∧ TurnR X.prog X.w X.K tg J fp it tn ∧ tn 0 s2.heap ∧ (∀ b ∈ fp, FpOk X pins H' b) ∧ R J H'
def PIR (X : Cx) (tg iter : Expr) (wi : TI) : Prop :=
  ∀ (pins : List (Addr × Obj)) (s : Shared) (σ : St) (H : Hp) (R : It → Hp → Prop), Inv X pins σ H s → wi σ H R →
    wpAny (model X.prog X.w) X.A (eval iter X.env) (fun v s1 => wpAny (model X.prog X.w) X.A (pyIter v) (PIER X pins σ tg R) X.xe s1) X.xe s

section
variable {X : Cx} {tg : Expr}
end
section
variable {X : Cx}
end
end L2

set_option Elab.async false
set_option linter.all false
set_option maxRecDepth 100000
set_option maxHeartbeats 4000000
namespace L2
open PySem PySem.Spec PyProof.Rows
abbrev bmVE : List Value := [.type "ValueError", .type "Exception", .type "BaseException", .type "object"]
theorem excCls_of {K : PySem.W.Frag} {h : Heap} {C : Addr} {newId : String} (X : K.In h) (q : PySem.W.excIn K C bmVE newId = true) :
    ∃ bm N nm qn bs hd sn sub ab col dd k0 k1 k2 k3 k5 mN, h.get? C = some (excClassObj nm qn C N bs bm hd sn sub ab col dd k0 k1 k2 k3 k5 newId) ∧ h.Ns N mN ∧ mN "__init__" = none ∧ OwnTail h bmVE bm := by
  unfold PySem.W.excIn at q
  split at q
  case h_2 => cases q
  case h_1 dd cd sl ho =>
    split at q
    case h_2 => cases q
    case h_1 C' bm k0 k1 k2 k3 n k5 hm hs =>
      simp only [Bool.and_eq_true, beq_iff_eq, Bool.not_eq_true'] at q
      obtain ⟨⟨⟨⟨⟨e1, e2⟩, hdel⟩, ht⟩, hok⟩, hni⟩ := q
      subst e1 e2
      obtain ⟨nm, bs, mro, ns, qn, hd, sn, sub, ab, col, del⟩ := cd
      dsimp only at hm hdel hok hni
      subst hm hdel
      obtain ⟨l⟩ := sl
      dsimp only at hs
      subst hs
      exact ⟨bm, ns, nm, qn, bs, hd, sn, sub, ab, col, dd, k0, k1, k2, k3, k5, _, X _ _ ho, .of_isNs (PySem.W.isNs_of_in X hok), PySem.W.nsMap_none_of_in X hok hni, PySem.W.tail_of_in X ht⟩
/-! raise X(..) -/
def tRaise (C : Addr) (E : XK) (t : TA) : TS := fun _ σ H => t σ H fun vs H1 => vs.length ≤ sizeLine ∧ E (.ref C) none H1
theorem ps_raise {X : Cx} {E : XK} {x : Str} {np cpos pos : Pos} {e : Expr} {es : List Expr} {t : TA} {C : Addr} (hup : Up X E) (hcalm : X.calm = true) (hg : Gl X x) (hm : X.mg x = some (.ref C)) (q : PySem.W.excIn X.K C bmVE "ValueError.__new__" = true) (ha : PA X (e :: es) t)
    (hdb : (x == ("__debug__" : Str)) = false := by decide) (he : starEach (e :: es) X.env = (false, eval e X.env) :: starEach es X.env := by rfl) (hpl : (backTo cpos (starEach (e :: es) X.env)).any (·.1) = false := by rfl) :
    PS X (.Raise (some (.Call (.Name x np) (e :: es) [] cpos)) none pos) (tRaise C E t) := by
  intro pins s σ H D I h
  obtain ⟨bm, N, nm, qn, bs, hd, sn, sub, ab, col, dd, k0, k1, k2, k3, k5, mN, hC, hN, hni, hT⟩ := excCls_of I.ok.mod.kin q
  refine wpAny_Raise_call_subT (C := C) (N := N) (nm := nm) (q := qn) (bs := bs) (bm := bm) (hdct := hd) (sn := sn) (sub := sub) (ab := ab) (col := col) (dd := dd) (k0 := k0) (k1 := k1) (k2 := k2) (k3 := k3) (k5 := k5) (mN := mN) F.excBase_ValueError (hT.hasType (by decide)) (I.ok.hd hcalm) hpl hni (ld_glob I hg hm ⟨rfl, ?_⟩ hdb)
  have hA := ha cpos pins s σ H _ I h
  rw [he] at hA ⊢
  refine Calls.evalArgs_plain (thn hA fun us s1 ⟨vs, H1, I1, r, hz, q1⟩ => ?_)
  exact ⟨rfl, by rw [← r.length]; exact hz, I1.bk _ _ hC, hN.keeps I1.bk, hT.keeps I1.bk, fun h' x' hmade => hup pins σ H1 s1 x' C us h' I1 hmade q1⟩
section
variable {P : Program} {w : World} {K : PySem.W.Frag} {mg : Str → Option Value} {base : Heap}
/-- a def that may raise -/
theorem Fun.okX {x qual : Str} {st : Stmt} {f : Addr} {fd : FuncData} {N ps : List Str} {k : Nat} {sp : Sp} (F : Fun K x qual st f fd) (S : FnScope N ps (defScope st)) (len : ∀ vs H Q E, sp vs H Q E → vs.length = ps.length)
    (hbody : ∀ (cdv : Value) (A : Around) (outer : List Env) (s : Shared) (H : Hp) (vs : List V) (Q : VK) (E : XK), Room k (A.deeper (envOfC qual (defScope st) s.heap.objs.size f cdv)) → sp vs H Q E →
      ∃ t, PSs (cxOf (CX1 P w) P w K mg base N qual (defScope st) f cdv A outer s H E) (defBody st) t ∧ t { nx := fun _ H' => Q .non H', rt := Q } (start N vs) H) : FnOk P w K mg base (CX1 P w) (k + 1) f fd ps sp := by
  obtain ⟨oc, od, kV, doc, pm, an, cdv, ct, osl, rfl, lk, hcd⟩ := F.ex
  exact fn_of lk hcd S len fun A outer s H vs Q E hr hsp => hbody cdv A outer s H vs Q E hr hsp
end
/-! statements within a try -/
abbrev EX := St → Addr → Hp → Prop
/-- an exception lies in this frame -/
def XS (X : Cx) (pins : List (Addr × Obj)) (R : EX) (e : Value) (s' : Shared) : Prop := ∃ (x C T : Addr) (σ' : St) (H1 : Hp), e = .ref x ∧ Inv X pins σ' H1 s' ∧ XO s'.heap x C T .none ∧ FB X pins H1 x ∧ FB X pins H1 T ∧ R σ' C H1
abbrev TSx := Ends → EX → St → Hp → Prop
abbrev TEx := St → Hp → VK → EX → Prop
def PEx (X : Cx) (e : Expr) (t : TEx) : Prop :=
  ∀ (pins : List (Addr × Obj)) (s : Shared) (σ : St) (H : Hp) (Q : VK) (R : EX), Inv X pins σ H s → t σ H Q R → wpAny (model X.prog X.w) X.A (eval e X.env) (EP X pins σ Q) (XS X pins R) s
def PSx (X : Cx) (st : Stmt) (t : TSx) : Prop :=
  ∀ (pins : List (Addr × Obj)) (s : Shared) (σ : St) (H : Hp) (D : Ends) (R : EX), Inv X pins σ H s → t D R σ H → wpAny (model X.prog X.w) X.A (exec st X.env) (SP X pins D) (XS X pins R) s
def PSsx (X : Cx) (st : List Stmt) (t : TSx) : Prop :=
  ∀ (pins : List (Addr × Obj)) (s : Shared) (σ : St) (H : Hp) (D : Ends) (R : EX), Inv X pins σ H s → t D R σ H → wpAny (model X.prog X.w) X.A (execs st X.env) (SP X pins D) (XS X pins R) s
section
variable {X : Cx} {st : Stmt} {rest : List Stmt} {e : Expr} {pos : Pos}
def qSeq (t u : TSx) : TSx := fun D R σ H => t { D with nx := u D R } R σ H
def qIf (c : TT) (t u : TSx) : TSx := fun D R σ H => c σ H fun b H1 => if b = true then t D R σ H1 else u D R σ H1
def qSet (te : TEx) (i : Nat) : TSx := fun D R σ H => te σ H (fun x H1 => D.nx (σ.set i (some x)) H1) R
def qCall (sp : Sp) (t : TA) : TEx := fun σ H Q R => t σ H fun vs H1 => sp vs H1 Q fun c _ H2 => ∃ C, c = .ref C ∧ R σ C H2
end
end L2

set_option Elab.async false
set_option linter.all false
set_option maxRecDepth 100000
set_option maxHeartbeats 4000000
namespace L2
open PySem PySem.Spec PyProof.Rows
/-! the except suite -/
/-- the context of an except suite: the exception at x is handled, its object pinned -/
abbrev Cx.hdl (X : Cx) (x : Addr) (ox : Obj) : Cx := { X with A := X.A.mark (some (.ref x)), calm := false, pn := (x, ox) :: X.pn, xe := fun _ _ => False }
section
variable {X : Cx} {pins : List (Addr × Obj)} {σ : St} {H : Hp} {s : Shared} {x : Addr} {ox : Obj}
end
/-- what of the text the class in an except clause must have -/
structure CatchK (K : PySem.W.Frag) (Cw : Addr) : Prop where
  cls : (PySem.W.clsIn K Cw).isSome = true
  ty : PySem.W.typeIn K (.ref Cw) = some (.type "type")
  mb : PySem.W.mroIn K Cw (.type "BaseException") = some true
end L2

set_option Elab.async false
set_option linter.all false
set_option maxRecDepth 100000
set_option maxHeartbeats 4000000
namespace L2
open PySem PySem.Spec PyProof.Rows
section
variable {X : Cx} {pins : List (Addr × Obj)} {σ : St} {H : Hp} {s : Shared}
/-- try: .. except Cls as n: .. -/
def tTry (K : PySem.W.Frag) (Cw : Addr) (i : Nat) (tb : TSx) (th : Addr → Addr → TS) : TS := fun D σ H =>
  tb D (fun σ' C H' => PySem.W.mroIn K C (.ref Cw) = some true ∧ ∀ x, H' x = none →
    th x C { nx := fun σ2 H2 => D.nx (σ2.set i none) H2, rt := D.rt, bk := fun σ2 H2 => D.bk (σ2.set i none) H2, ct := fun σ2 H2 => D.ct (σ2.set i none) H2 } (σ'.set i (some (.ref x))) H') σ H
end
end L2

set_option Elab.async false
set_option linter.all false
set_option maxRecDepth 100000
set_option maxHeartbeats 4000000
namespace L2
open PySem PySem.Spec PyProof.Rows
/-! a def that is called while an exception is handled -/
structure RoomH (k : Nat) (A : Around) : Prop where
  dp : A.depth + 3 * k + 5 < recursionLimit
  un : A.units + 16 * k + 200 < cLine
abbrev SpH := Addr → Addr → List V → Hp → VK → Prop
structure FnOkH (P : Program) (w : World) (K : PySem.W.Frag) (mg : Str → Option Value) (base : Heap) (k : Nat) (f : Addr) (fd : FuncData) (ps : List Str) (sp : SpH) : Prop where
  len : ∀ x C vs H Q, sp x C vs H Q → vs.length = ps.length
  run : ∀ (A : Around) (outer : List Env) (s : Shared) (H : Hp) (args : Args) (us : List Value) (vs : List V) (Q : VK) (x C : Addr), RoomH k A → Env0 P w K mg base A outer s H → HdE A x C H s.heap → BindsTo s fd args (ps.zip us) → Vals vs us → sp x C vs H Q →
    codeAny (model P w) A (.call (.ref f) args) (CR CX0 outer P w H s Q E0) s
abbrev cxH (P : Program) (w : World) (K : PySem.W.Frag) (mg : Str → Option Value) (base : Heap) (N : List Str) (qual : Str) (scope : Scope) (f : Addr) (cd : Value) (A : Around) (outer : List Env) (s : Shared) (H : Hp) : Cx :=
  { cxOf CX0 P w K mg base N qual scope f cd A outer s H E0 with calm := false }
end L2

set_option Elab.async false
set_option linter.all false
set_option maxRecDepth 100000
set_option maxHeartbeats 4000000
namespace WM
open PySem
/-! wheels as lists of codes -/
def txt (l : List Nat) : Str := ⟨l.toArray⟩
theorem txt_length (l : List Nat) : (txt l).length = l.length := by show l.toArray.size = _; simp
theorem txt_inj {l m : List Nat} (h : txt l = txt m) : l = m := by
  have := congrArg (fun z : Str => z.cps.toList) h
  exact this
def Low (l : List Nat) : Prop := ∀ c ∈ l, 97 ≤ c ∧ c ≤ 122
structure Wheel (l : List Nat) : Prop where
  pos : 1 ≤ l.length
  le : l.length ≤ 30
  low : Low l
def turnL (l : List Nat) (k : Int) : List Nat := l.drop (k % (l.length : Int)).toNat ++ l.take (k % (l.length : Int)).toNat
def glassL (l : List Nat) : List Nat := l.take 1 ++ (l.drop 1).reverse
theorem ix_ok {n : Nat} (a : Int) (h : 0 < n) : (a % (n : Int)).toNat < n ∧ (((a % (n : Int)).toNat : Nat) : Int) = a % (n : Int) := by
  have h0 : 0 ≤ a % (n : Int) := Int.emod_nonneg _ (by omega)
  have h1 : a % (n : Int) < n := Int.emod_lt_of_pos _ (by omega)
  omega
/-! the program's slices -/
end WM

set_option Elab.async false
set_option linter.all false
set_option maxRecDepth 100000
set_option maxHeartbeats 4000000
namespace L2
open PySem PySem.Spec PyProof.Rows
section
variable {X : Cx} {x C : Addr} {ox : Obj} {vs : Array Value}
/-- a call within an except suite -/
def tCallH (sp : SpH) (x C : Addr) (t : TA) : TE := fun σ H Q => t σ H fun vs H1 => sp x C vs H1 Q
/-- isinstance(e, c) of the exception that is handled -/
def rIsE (K : PySem.W.Frag) (x C : Addr) : List V → Hp → VK → Prop := fun xs H Q => ∃ (y : V) (c : Value) (b : Bool), xs = [.ref x, y] ∧ clsV y = some c ∧ PySem.W.kitOne K (.ref C) c = some b ∧ Q (.bl b) H
/-- constants in a row -/
inductive ConsE : List Expr → List V → Prop
  | nil : ConsE [] []
  | str {s : Str} {k pos} {es : List Expr} {vs : List V} : ConsE es vs → ConsE (.Constant (.str s) k pos :: es) (.str s :: vs)
  | int {i : Int} {k pos} {es : List Expr} {vs : List V} : ConsE es vs → ConsE (.Constant (.int i) k pos :: es) (.int i :: vs)
def tCs (vs : List V) : TA := fun _ H Q => Q vs H
/-- the same by a reckoning: names of texts stored as a list, or put behind a list -/
def consV : List Expr → Option (List V)
  | [] => some []
  | .Constant (.str s) _ _ :: es => (consV es).map (V.str s :: ·)
  | .Constant (.int i) _ _ :: es => (consV es).map (V.int i :: ·)
  | _ => none
def setL : Stmt → Option (Str × List V)
  | .Assign [.Name n _] (.List es _) _ => (consV es).map fun ws => (n, ws)
  | _ => none
def setCat : Stmt → Option (Str × Str × List V)
  | .Assign [.Name n _] (.BinOp (.Name m _) .Add (.List es _) _) _ => (consV es).map fun ws => (n, m, ws)
  | _ => none
end
end L2
namespace WM
open PySem
/-- the names that are told -/
def sel : List Str → List Bool → List Str
  | n :: ns, b :: bs => if b then n :: sel ns bs else sel ns bs
  | _, _ => []
def kinds : List Str := ["Lacks", "NoBank", "NoBook", "NoDeed", "NoName", "NoOrder", "NoPlace", "NoRow", "NoSlack", "NoText", "NoTurns", "NoWheel", "NoWord", "TooMany", "+"]
def kindS (bs : List Bool) : Str := PySem.Txt.join (txt []) (sel kinds bs)
end WM

set_option Elab.async false
set_option linter.all false
set_option maxRecDepth 100000
set_option maxHeartbeats 4000000
namespace L2
open PySem PySem.Spec PyProof.Rows
/-! enumerate(text) -/
def Ites (x : Str) : It :=
  ⟨fun i _ => i < x.cps.size, fun i H v H' => ∃ T c, v = .ref T ∧ H T = none ∧ x.cps[i]? = some c ∧ H' = upd H T (.tup [.int (i : Nat), .str ⟨#[c]⟩]), fun i _ => i = x.cps.size⟩
theorem turn_enumS {P : Program} {w : World} {K : PySem.W.Frag} {elts : List Expr} {kk : Nat} {tpos : Pos} (x : Str) (t : Tok) (e it : Addr) (ty : String) (hty : ty = "str_ascii_iterator" ∨ ty = "str_iterator") :
    Turn P w K (.Tuple elts kk tpos) (Ites x) [e, it] e (fun i h => (∃ old, IsEnum h e it ((i : Nat) : Int) old) ∧ h.IsStrIter it ty x t i ∧ e ≠ it) where
  mem := by simp
  obj := fun i h st b hb => by
    obtain ⟨⟨old, he⟩, ⟨o, ho, hc, hd⟩, _⟩ := st
    have e' : b = e ∨ b = it := by simpa using hb
    rcases e' with z | z
    · rw [z]; exact ⟨_, he, fun v q => nomatch q⟩
    · rw [z]; exact ⟨o, ho, fun v q => by rw [hd] at q; cases q⟩
  keep := fun i h h' st k => let ⟨⟨old, he⟩, ⟨o, ho, r⟩, hne⟩ := st; ⟨⟨old, k e (by simp) _ he⟩, ⟨o, k it (by simp) o ho, r⟩, hne⟩
  item := by
    intro X hP hw hK hc i pins s σ H E I hf st hg
    subst hP hw hK
    obtain ⟨⟨old, he⟩, hit, hne⟩ := st
    have hel : e < s.heap.objs.size := Heap.lt_size he
    have hil : it < s.heap.objs.size := by obtain ⟨_, q, _⟩ := hit; exact Heap.lt_size q
    have D : Draws X.prog X.w X.A.in1 it [it] x.cps.size (fun i v => ∃ c u, x.cps[i]? = some c ∧ v = .str ⟨#[c]⟩ u) (fun i h => h.IsStrIter it ty x t i) := by
      rcases hty with z | z
      · rw [z]; exact Draws.strAscii (A := X.A.in1) (I.ok.hd hc) it x t
      · rw [z]; exact Draws.strWide (A := X.A.in1) (I.ok.hd hc) it x t
    refine wpAny_pyNext_enum_itemD D he hit hg hne (by simpa using hne) fun u h' tk hPx ho hit' hT hsz hk => ?_
    obtain ⟨c, tu, hcx, rfl⟩ := hPx
    refine ⟨_, rfl, wpAny_letOwnedTupleGo_enum (s := { s with heap := h', toks := tk + 1 }) ho fun h'' he' sb => ?_⟩
    have hT2 : h''.get? s.heap.objs.size = some { cls := .type "tuple", data := .seq #[.int i tk, .str ⟨#[c]⟩ tu] } := (sb.2 _ (Nat.ne_of_gt hel)).trans hT
    have new : ObjOk X.prog X.w (upd H s.heap.objs.size (.tup [.int (i : Nat), .str ⟨#[c]⟩])) h'' s.heap.objs.size (.tup [.int (i : Nat), .str ⟨#[c]⟩]) :=
      ⟨by show 2 ≤ sizeLine; decide, [.int i tk, .str ⟨#[c]⟩ tu], .cons ⟨_, rfl⟩ (.cons ⟨_, rfl⟩ .nil), ⟨_, hT2, rfl, _, rfl⟩⟩
    have I1 : Inv X pins σ (upd H s.heap.objs.size (.tup [.int (i : Nat), .str ⟨#[c]⟩])) { s with heap := h'', toks := tk + 1 } :=
      I.turnedNew (ch := [e, it]) (fun b ob hb q => (sb.2 b (fun z => hb (by simp [z]))).trans (hk b ob (fun z => hb (by simp [z])) (fun z => hb (by simp [z])) q)) hf (Nat.le_refl _) new
    refine ⟨.ref s.heap.objs.size, _, I1, rfl, ⟨_, c, rfl, I.hok.fresh (Nat.le_refl _), hcx, rfl⟩, ⟨⟨.str ⟨#[c]⟩ tu, ?_⟩, ?_, hne⟩, fun b hb => ?_⟩
    · have e1 : ((i + 1 : Nat) : Int) = (i : Int) + 1 := by omega
      rw [e1]; exact he'
    · obtain ⟨o, q, r⟩ := hit'
      exact ⟨o, (sb.2 it (Ne.symm hne)).trans q, r⟩
    · have hb' : b < s.heap.objs.size := by
        have e' : b = e ∨ b = it := by simpa using hb
        rcases e' with z | z
        · rw [z]; exact hel
        · rw [z]; exact hil
      rw [upd_ne (Nat.ne_of_lt hb')]
      exact (hf b hb).1
  done := by
    intro X hP hw hK hc i pins s σ H E I hf st hg
    subst hP hw hK
    obtain ⟨⟨old, he⟩, hit, hne⟩ := st
    have hg : i = x.cps.size := hg
    subst hg
    obtain ⟨f0, f1, f2, f3, f4, f5⟩ := hf it (by simp)
    have D : Draws X.prog X.w X.A.in1 it [it] x.cps.size (fun i v => ∃ c u, x.cps[i]? = some c ∧ v = .str ⟨#[c]⟩ u) (fun i h => h.IsStrIter it ty x t i) := by
      rcases hty with z | z
      · rw [z]; exact Draws.strAscii (A := X.A.in1) (I.ok.hd hc) it x t
      · rw [z]; exact Draws.strWide (A := X.A.in1) (I.ok.hd hc) it x t
    exact wpAny_pyNext_enum_endD D he hit fun h' eb => ⟨rfl, I.turned (t' := s.toks) (fun b o hb q => eb b o hb q) f0 f1 f3 f4 f5⟩
  self := fun A i s Q E st h => let ⟨⟨_, he⟩, _⟩ := st; wpAny_pyIter_enum he h
def iEnumS (ta : TA) : TI := fun σ H R => ta σ H fun vs H1 => ∃ x, vs = [.str x] ∧ R (Ites x) H1
theorem pi_enumS {X : Cx} {e : Expr} {ta : TA} {p pos tpos : Pos} {elts : List Expr} {kk : Nat} (hg : Gl X "enumerate") (hm : X.mg "enumerate" = none) (ha : PA X [e] ta) (hs : starEach [e] X.env = [(false, eval e X.env)] := by rfl) :
    PI X (.Tuple elts kk tpos) (.Call (.Name "enumerate" p) [e] [] pos) (iEnumS ta) := by
  intro pins s σ H R I h
  refine Call_ (ld_blt I hg hm boot_enumerate (PyProof.Rows.callWith_type1 (thn (ha pos pins s σ H _ I h) fun us s1 ⟨vs, H1, I1, r1, q1⟩ => ?_) hs rfl))
  obtain ⟨x, ex, q⟩ := q1
  subst ex
  cases r1 with
  | cons r rr =>
    cases rr
    obtain ⟨t, rfl⟩ := r
    refine call_enumerate_str fun h' he hit hsz hk => wpAny_pyIter_enum he ?_
    have I2 : Inv X pins σ H1 { s1 with heap := h' } := I1.kept (t' := s1.toks) hk
    have hty : strIterType x = "str_ascii_iterator" ∨ strIterType x = "str_iterator" := by
      unfold strIterType
      split
      · exact .inl rfl
      · exact .inr rfl
    refine ⟨s1.heap.objs.size + 1, [s1.heap.objs.size + 1, s1.heap.objs.size], _, _, H1, rfl, I2, turn_enumS x t (s1.heap.objs.size + 1) s1.heap.objs.size (strIterType x) hty, ⟨⟨.none, he⟩, hit, Nat.succ_ne_self _⟩, fun b hb => ?_, q⟩
    have e' : b = s1.heap.objs.size + 1 ∨ b = s1.heap.objs.size := by simpa using hb
    have hle : s1.heap.objs.size ≤ b := by
      rcases e' with z | z
      · rw [z]; exact Nat.le_add_right _ _
      · rw [z]; exact Nat.le_refl _
    exact I1.fpOk hle (I1.hok.fresh hle)
theorem lc_enumS {x : Str} {g : TG} {tt : TT} {te : TE} {vs : List Nat} {σ : St} {H1 : Hp} {D : Addr} {Qd : Hp → Prop} (Pv : Nat → Hp → Prop) (h0 : Pv 0 (upd H1 D (.lst [])))
    (hs : ∀ i c T H, x.cps[i]? = some c → Pv i H → H T = none → g (.ref T) (wipe σ vs) (upd H T (.tup [.int (i : Nat), .str ⟨#[c]⟩])) fun σ2 H2 => wipe σ2 vs = wipe σ vs ∧ tt σ2 H2 fun b H3 =>
      if b = true then te σ2 H3 fun y H4 => ∃ acc, H4 D = some (.lst acc) ∧ acc.length < sizeLine ∧ Pv (i + 1) (upd H4 D (.lst (acc ++ [y]))) else Pv (i + 1) H3) (hd : ∀ H, Pv x.cps.size H → Qd H) :
    ∃ W : Nat → Nat → Hp → Prop, (∃ m, W 0 m (upd H1 D (.lst []))) ∧ ∀ i m H, W i m H →
      ((Ites x).stop i H ∧ Qd H) ∨ ((Ites x).go i H ∧ ∃ Nx : Hp → Prop, (∀ H', Nx H' → ∃ m', m' < m ∧ W (i + 1) m' H') ∧ ∀ y H', (Ites x).yld i H y H' → g y (wipe σ vs) H' fun σ2 H2 => wipe σ2 vs = wipe σ vs ∧ tt σ2 H2 fun b H3 =>
        if b = true then te σ2 H3 fun y H4 => ∃ acc, H4 D = some (.lst acc) ∧ acc.length < sizeLine ∧ Nx (upd H4 D (.lst (acc ++ [y]))) else Nx H3) := by
  refine ⟨fun i m H => m = x.cps.size - i ∧ i ≤ x.cps.size ∧ Pv i H, ⟨x.cps.size, by simp, Nat.zero_le _, h0⟩, ?_⟩
  rintro i m H ⟨rfl, hi, p⟩
  by_cases hlt : i < x.cps.size
  · refine .inr ⟨hlt, Pv (i + 1), fun H' p' => ⟨x.cps.size - (i + 1), by omega, rfl, hlt, p'⟩, fun y H' z => ?_⟩
    obtain ⟨T, c, e1, e2, e3, e4⟩ := z
    subst e1 e4
    exact hs i c T _ e3 p e2
  · have e : i = x.cps.size := by omega
    subst e
    exact .inl ⟨rfl, hd H p⟩
end L2

set_option Elab.async false
set_option linter.all false
set_option maxRecDepth 100000
set_option maxHeartbeats 4000000
namespace L2
open PySem PyProof.Rows
section
variable {X : Cx}
/-- a callee that may raise, called where it doesn't -/
theorem pass10 {P : Program} {w : World} : Passes (CX1 P w) X E0 := by
  intro pins σ H s e s' I q
  obtain ⟨x, C, T, H1, _, _, _, _, _, _, _, _, _, _, hE⟩ := q
  exact hE.elim
/-! text * n -/
/-! a or b, a text -/
def tOrS (K : PySem.W.Frag) (ta tb : TE) : TE := fun σ H Q => ta σ H fun x H1 => ∃ k, TruV K x H1 k ∧ if k = true then Q x H1 else tb σ H1 Q
/-! list(text) -/
/-! min of a list of texts -/
def rMinS (K : PySem.W.Frag) : List V → Hp → VK → Prop := fun vs H Q => ∃ (a : Addr) (xs : List Str), vs = [V.ref a] ∧ SqL K H a (xs.map V.str) ∧ 0 < xs.length ∧ ∀ m, m ∈ xs → (∀ y, y ∈ xs → ¬ y.cps.toList < m.cps.toList) → Q (.str m) H
end
end L2

set_option Elab.async false
set_option linter.all false
namespace WM
def rots (l : List Nat) : List (List Nat) := (List.range l.length).map fun k => turnL l (k : Nat)
def IsMin (xs : List (List Nat)) (m : List Nat) : Prop := m ∈ xs ∧ ∀ y, y ∈ xs → ¬ y < m
def orb (l : List Nat) : List (List Nat) := rots l ++ rots (glassL l)
/-! the first place of a text in a list -/
def ix (xs : List (List Nat)) (o : List Nat) : Option Nat := xs.findIdx? fun m => m == o
def led (l o : List Nat) : Option (Bool × Nat) := match ix (rots l) o with
  | some j => some (false, j)
  | none => match ix (rots (glassL l)) o with
    | some j => some (true, j)
    | none => none
end WM

set_option Elab.async false
set_option linter.all false
namespace WM
open PySem L2
end WM

set_option Elab.async false
set_option linter.all false
set_option maxRecDepth 100000
set_option maxHeartbeats 4000000
namespace W
open PySem L2 WM
structure Txt (mg : Str → Option Value) : Prop where
  len : mg "len" = none
  str : mg "str" = none
  int : mg "int" = none
  bool : mg "bool" = none
  tuple : mg "tuple" = none
  list : mg "list" = none
  dict : mg "dict" = none
  set : mg "set" = none
  enum : mg "enumerate" = none
  isi : mg "isinstance" = none
  all : mg "all" = none
  any : mg "any" = none
  range : mg "range" = none
  min : mg "min" = none
  max : mg "max" = none
  sum : mg "sum" = none
  abs : mg "abs" = none
  sorted : mg "sorted" = none
  zip : mg "zip" = none
  reversed : mg "reversed" = none
  ve : mg "ValueError" = none
/-- a module's constant -/
def GInt (mg : Str → Option Value) (x : Str) (v : Int) : Prop := ∃ t, mg x = some (.int v t)
theorem pe_gint {X : Cx} {x : Str} {v : Int} {pos : Pos} (hg : Gl X x) (h : GInt X.mg x v) (hd : (x == ("__debug__" : Str)) = false := by decide) : PE X (.Name x pos) (tC (.int v)) := by
  obtain ⟨t, m⟩ := h
  exact pe_glob hg m ⟨t, rfl⟩ hd
/-- a def of the text -/
def Def (K : PySem.W.Frag) (mg : Str → Option Value) (name : Str) (st : Stmt) (ps : List Str) : Prop := ∃ f fd, Fun K name name st f fd ∧ mg name = some (.ref f) ∧ Binds K fd ps []
/-- a def that may be called -/
def Cal (P : Program) (w : World) (K : PySem.W.Frag) (mg : Str → Option Value) (base : Heap) (CX : CXT) (k : Nat) (name : Str) (ps : List Str) (sp : Sp) : Prop :=
  ∃ f fd, FnOk P w K mg base CX k f fd ps sp ∧ PySem.W.keepIn K (.ref f) = true ∧ Binds K fd ps [] ∧ mg name = some (.ref f)
theorem cal_mk {P : Program} {w : World} {K : PySem.W.Frag} {mg : Str → Option Value} {base : Heap} {CX : CXT} {k : Nat} {name : Str} {st : Stmt} {ps : List Str} {sp : Sp} (D : Def K mg name st ps) (h : ∀ f fd, Fun K name name st f fd → FnOk P w K mg base CX k f fd ps sp) : Cal P w K mg base CX k name ps sp := by
  obtain ⟨f, fd, F, m, b⟩ := D
  exact ⟨f, fd, h f fd F, F.kp, b, m⟩
def CalH (P : Program) (w : World) (K : PySem.W.Frag) (mg : Str → Option Value) (base : Heap) (k : Nat) (name : Str) (ps : List Str) (sp : SpH) : Prop :=
  ∃ f fd, FnOkH P w K mg base k f fd ps sp ∧ PySem.W.keepIn K (.ref f) = true ∧ Binds K fd ps [] ∧ mg name = some (.ref f)
/-- the classes of refusals, in the order in which they are asked -/
structure Cls14 where
  (a0 a1 a2 a3 a4 a5 a6 a7 a8 a9 a10 a11 a12 a13 : Addr)
structure Ref (K : PySem.W.Frag) (mg : Str → Option Value) (c : Cls14) : Prop where
  m0 : mg "Lacks" = some (.ref c.a0)
  m1 : mg "NoBank" = some (.ref c.a1)
  m2 : mg "NoBook" = some (.ref c.a2)
  m3 : mg "NoDeed" = some (.ref c.a3)
  m4 : mg "NoName" = some (.ref c.a4)
  m5 : mg "NoOrder" = some (.ref c.a5)
  m6 : mg "NoPlace" = some (.ref c.a6)
  m7 : mg "NoRow" = some (.ref c.a7)
  m8 : mg "NoSlack" = some (.ref c.a8)
  m9 : mg "NoText" = some (.ref c.a9)
  m10 : mg "NoTurns" = some (.ref c.a10)
  m11 : mg "NoWheel" = some (.ref c.a11)
  m12 : mg "NoWord" = some (.ref c.a12)
  m13 : mg "TooMany" = some (.ref c.a13)
structure Kit (K : PySem.W.Frag) (c : Cls14) (C : Addr) (bs : List Bool) : Prop where
  k : ∃ b0 b1 b2 b3 b4 b5 b6 b7 b8 b9 b10 b11 b12 b13 b14 : Bool, bs = [b0, b1, b2, b3, b4, b5, b6, b7, b8, b9, b10, b11, b12, b13, b14] ∧
    PySem.W.kitOne K (.ref C) (.ref c.a0) = some b0 ∧ PySem.W.kitOne K (.ref C) (.ref c.a1) = some b1 ∧ PySem.W.kitOne K (.ref C) (.ref c.a2) = some b2 ∧ PySem.W.kitOne K (.ref C) (.ref c.a3) = some b3 ∧
    PySem.W.kitOne K (.ref C) (.ref c.a4) = some b4 ∧ PySem.W.kitOne K (.ref C) (.ref c.a5) = some b5 ∧ PySem.W.kitOne K (.ref C) (.ref c.a6) = some b6 ∧ PySem.W.kitOne K (.ref C) (.ref c.a7) = some b7 ∧
    PySem.W.kitOne K (.ref C) (.ref c.a8) = some b8 ∧ PySem.W.kitOne K (.ref C) (.ref c.a9) = some b9 ∧ PySem.W.kitOne K (.ref C) (.ref c.a10) = some b10 ∧ PySem.W.kitOne K (.ref C) (.ref c.a11) = some b11 ∧
    PySem.W.kitOne K (.ref C) (.ref c.a12) = some b12 ∧ PySem.W.kitOne K (.ref C) (.ref c.a13) = some b13 ∧ PySem.W.kitOne K (.ref C) (.type "ValueError") = some b14
  x : L2X.ExcK K C
section
variable {P : Program} {w : World} {K : PySem.W.Frag} {mg : Str → Option Value} {base : Heap}
def spKind (K : PySem.W.Frag) (c : Cls14) : SpH := fun x C vs H Q => ∃ bs : List Bool, vs = [.ref x] ∧ Kit K c C bs ∧ ((sel kinds bs).map (·.length)).sum ≤ 1000 ∧ ∀ H', Same H H' → Q (.str (kindS bs)) H'
theorem Same.new {H : Hp} {l : Addr} {o : HO} (h : H l = none) : Same H (upd H l o) := fun b u e => by rw [upd_ne (ne_of_none e h)]; exact e
theorem boot_isi : PySem.bootBuiltins "isinstance" = some (.builtin "isinstance") := by decide +kernel
def okC (c : Nat) : Bool := decide (97 ≤ c) && decide (c ≤ 122)
theorem lt1 (a b : Nat) : ([a] < [b]) = (a < b) := by
  apply propext
  constructor
  · intro h
    cases h with
    | rel h => exact h
    | cons h => cases h
  · intro h; exact List.Lex.rel h
def isW (l : List Nat) : Bool := decide (l.length ≤ 80) && l.all okC
def NoStr (K : PySem.W.Frag) (H : Hp) (v : V) : Prop := ∃ t, TyOf K H v t ∧ PySem.W.kitOne K t (.type "str") = some false
def isWh (l : List Nat) : Bool := isW l && (decide (1 ≤ l.length) && decide (l.length ≤ 30))
theorem isWh_of {l : List Nat} (h : Wheel l) : isWh l = true := by
  unfold isWh isW
  rw [decide_eq_true (by have := h.le; omega), decide_eq_true h.pos, decide_eq_true h.le]
  have : l.all okC = true := List.all_eq_true.mpr fun c hc => by
    unfold okC
    rw [decide_eq_true (h.low c hc).1, decide_eq_true (h.low c hc).2]; rfl
  rw [this]; rfl
theorem wheel_of {l : List Nat} (h : isWh l = true) : Wheel l := by
  unfold isWh isW at h
  rw [Bool.and_eq_true, Bool.and_eq_true, Bool.and_eq_true] at h
  obtain ⟨⟨_, h2⟩, h3, h4⟩ := h
  refine ⟨of_decide_eq_true h3, of_decide_eq_true h4, fun c hc => ?_⟩
  have := List.all_eq_true.mp h2 c hc
  unfold okC at this
  rw [Bool.and_eq_true] at this
  exact ⟨of_decide_eq_true this.1, of_decide_eq_true this.2⟩
def vts (xs : List (List Nat)) : List V := xs.map fun m => V.str (txt m)
structure Dr (a b c : Int) : Prop where
  a0 : 0 ≤ a
  b0 : 0 ≤ b
  b1 : b < 4294967296
  c0 : 0 < c
  c1 : c < 4294967296
def DrAt (H : Hp) (p : Addr) : Prop := ∃ a b c : Int, H p = some (.lst [.int a, .int b, .int c]) ∧ Dr a b c
def But (p : Addr) (H H' : Hp) : Prop := ∀ q o, H q = some o → q ≠ p → H' q = some o
theorem But.trans {p : Addr} {H H1 H2 : Hp} (a : But p H H1) (b : But p H1 H2) : But p H H2 := fun q o h n => b q o (a q o h n) n
theorem But.upd (p : Addr) (H : Hp) (o : HO) : But p H (upd H p o) := fun q u h n => by rw [upd_ne n]; exact h
theorem But.new {p l : Addr} {H : Hp} {o : HO} (h : H l = none) : But p H (L2.upd H l o) := fun q u e n => by rw [upd_ne (ne_of_none e h)]; exact e
theorem DrAt.new {p l : Addr} {H : Hp} {o : HO} (d : DrAt H p) (h : H l = none) : DrAt (L2.upd H l o) p := by
  obtain ⟨a, b, c, e, r⟩ := d
  exact ⟨a, b, c, by rw [upd_ne (ne_of_none e h)]; exact e, r⟩
theorem DrAt.ne {p l : Addr} {H : Hp} (d : DrAt H p) (h : H l = none) : l ≠ p := by
  obtain ⟨a, b, c, e, r⟩ := d
  exact (ne_of_none e h).symm
theorem join_signs : ∀ l : List Nat, Txt.join (txt []) (l.map fun c => txt [c]) = txt l := by
  intro l
  apply TL.ext_tl
  rw [TL.join_eq, TL.tl_join, List.map_map]
  show TL.joinL [] (l.map fun c => [c]) = l
  induction l with
  | nil => rfl
  | cons a r ih =>
    cases r with
    | nil => rfl
    | cons b r =>
      show [a] ++ ([] ++ TL.joinL [] ((b :: r).map fun c => [c])) = _
      rw [ih]; rfl
def abc : List Nat := [97, 98, 99, 100, 101, 102, 103, 104, 105, 106, 107, 108, 109, 110, 111, 112, 113, 114, 115, 116, 117, 118, 119, 120, 121, 122]
theorem abc_get {z : Int} (h0 : 0 ≤ z) (h1 : z < 26) : atI abc z = some (97 + z.toNat) := by
  obtain ⟨n, rfl⟩ : ∃ n : Nat, z = (n : Int) := ⟨z.toNat, by omega⟩
  have hn : n < 26 := by omega
  have : ∀ n : Nat, n < 26 → abc[n]? = some (97 + n) := by decide
  exact atI_nat (this n hn)
theorem at4 {a b c d : V} {z : Int} (h0 : 0 ≤ z) (h1 : z < 4) : ∃ v, atI [a, b, c, d] z = some v ∧ (v = a ∨ v = b ∨ v = c ∨ v = d) := by
  have : z = 0 ∨ z = 1 ∨ z = 2 ∨ z = 3 := by omega
  rcases this with rfl | rfl | rfl | rfl
  · exact ⟨a, rfl, .inl rfl⟩
  · exact ⟨b, rfl, .inr (.inl rfl)⟩
  · exact ⟨c, rfl, .inr (.inr (.inl rfl))⟩
  · exact ⟨d, rfl, .inr (.inr (.inr rfl))⟩
theorem at3 {a b c : V} {z : Int} (h0 : 0 ≤ z) (h1 : z < 3) : ∃ v, atI [a, b, c] z = some v ∧ (v = a ∨ v = b ∨ v = c) := by
  have : z = 0 ∨ z = 1 ∨ z = 2 := by omega
  rcases this with rfl | rfl | rfl
  · exact ⟨a, rfl, .inl rfl⟩
  · exact ⟨b, rfl, .inr (.inl rfl)⟩
  · exact ⟨c, rfl, .inr (.inr rfl)⟩
def primes : List V := [.int 2147483647, .int 2147483629, .int 2147483587, .int 2147483579, .int 2147483563, .int 2147483549, .int 2147483543, .int 2147483497]
theorem primes_at {z : Int} (h0 : 0 ≤ z) (h1 : z < 8) : ∃ c : Int, atI primes z = some (.int c) ∧ 0 < c ∧ c < 4294967296 := by
  have : z = 0 ∨ z = 1 ∨ z = 2 ∨ z = 3 ∨ z = 4 ∨ z = 5 ∨ z = 6 ∨ z = 7 := by omega
  rcases this with rfl | rfl | rfl | rfl | rfl | rfl | rfl | rfl <;> exact ⟨_, rfl, by decide, by decide⟩
theorem int_at {ns : List Int} {z : Int} (h0 : 0 ≤ z) (h1 : z < ns.length) : ∃ y : Int, atI (ns.map V.int) z = some (.int y) := by
  obtain ⟨j, rfl⟩ : ∃ j : Nat, z = (j : Int) := ⟨z.toNat, by omega⟩
  have hj : j < ns.length := by omega
  exact ⟨ns[j], atI_nat (by rw [List.getElem?_map, List.getElem?_eq_getElem hj]; rfl)⟩
theorem big_ok : PySem.IntMulOk ((10 : Int) ^ (60 : Int).toNat) ((10 : Int) ^ (60 : Int).toNat) := by unfold PySem.IntMulOk; decide +kernel
theorem big_pos : (0 : Int) < (10 : Int) ^ (60 : Int).toNat * (10 : Int) ^ (60 : Int).toNat := by decide +kernel
theorem p15 : (0 : Int) < (10 : Int) ^ (15 : Int).toNat := by decide +kernel
def spDraw : Sp := fun vs H Q _ => ∃ (p : Addr) (m : Int), vs = [.ref p, .int m] ∧ DrAt H p ∧ 0 < m ∧ m < 1073741824 ∧ ∀ (r : Int) (H' : Hp), 0 ≤ r → r < m → DrAt H' p → But p H H' → Q (.int r) H'
def spLetters : Sp := fun vs H Q _ => ∃ (p : Addr) (m kd : Int), vs = [.ref p, .int m, .int kd] ∧ DrAt H p ∧ 0 ≤ m ∧ m ≤ 100 ∧ 1 ≤ kd ∧ kd ≤ 26 ∧
  ∀ (l : List Nat) (H' : Hp), l.length = m.toNat → Low l → DrAt H' p → But p H H' → Q (.str (txt l)) H'
def spDraws (K : PySem.W.Frag) : Sp := fun vs H Q _ => ∃ (a : Addr) (ns : List Int) (j : Int), vs = [.ref a, .int j] ∧ SqL K H a (ns.map V.int) ∧ ns.length ≤ 63 ∧ 0 ≤ j ∧ j ≤ 63 ∧
  ∀ (p : Addr) (H' : Hp), H p = none → DrAt H' p → Same H H' → Q (.ref p) H'
def spLWheel : Sp := fun vs H Q _ => ∃ (p : Addr) (m : Int), vs = [.ref p, .int m] ∧ DrAt H p ∧ 1 ≤ m ∧ m ≤ 30 ∧
  ∀ (l : List Nat) (H' : Hp), Wheel l → l.length ≤ m.toNat → DrAt H' p → But p H H' → Q (.str (txt l)) H'
def spFigures : Sp := fun vs H Q _ => ∃ (p : Addr) (m : Int), vs = [.ref p, .int m] ∧ DrAt H p ∧ 1 ≤ m ∧ m ≤ 1000 ∧ ∀ (n : Int) (H' : Hp), DrAt H' p → But p H H' → Q (.int n) H'
def spSign : Sp := fun vs H Q _ => ∃ c : Nat, vs = [.str (txt [c])] ∧ Q (.bl (okC c)) H
def spWord (K : PySem.W.Frag) : Sp := fun vs H Q _ => (∃ l : List Nat, vs = [.str (txt l)] ∧ l.length ≤ 1000 ∧ ∀ H', Same H H' → Q (.bl (isW l)) H') ∨ ∃ v, vs = [v] ∧ NoStr K H v ∧ Q (.bl false) H
def spWheel (K : PySem.W.Frag) : Sp := fun vs H Q _ => (∃ l : List Nat, vs = [.str (txt l)] ∧ l.length ≤ 1000 ∧ ∀ H', Same H H' → Q (.bl (isWh l)) H') ∨ ∃ v, vs = [v] ∧ NoStr K H v ∧ Q (.bl false) H
end
/-- the answers of isinstance for the i-th refusal -/
def bsAt (i : Nat) : List Bool := (List.range 15).map fun j => j == i || j == 14
theorem But.set {p L : Addr} {H H' : Hp} {o : HO} (b : But p H H') (h : H L = none) : But p H (L2.upd H' L o) := fun q u e n => by rw [upd_ne (ne_of_none e h)]; exact b q u e n
theorem DrAt.set {p L : Addr} {H : Hp} {o : HO} (d : DrAt H p) (n : L ≠ p) : DrAt (L2.upd H L o) p := by
  obtain ⟨a, b, c, e, r⟩ := d
  exact ⟨a, b, c, by rw [upd_ne n.symm]; exact e, r⟩
end W

set_option Elab.async false
set_option linter.all false
set_option maxRecDepth 100000
set_option maxHeartbeats 4000000
namespace L2
open PySem PySem.Spec PyProof.Rows
/-! items of displays and calls, by their kind: nothing to unfold -/
section
variable {X : Cx} {es : List Expr} {te : TE} {t : TA} {pos : Pos}
theorem pa_cC {c : Const} {j} (ha : PE X (.Constant c j pos) te) (hr : PA X es t) : PA X (.Constant c j pos :: es) (tCons te t) := pa_cons ha hr (by rfl)
theorem pa_cN {x : Str} (ha : PE X (.Name x pos) te) (hr : PA X es t) : PA X (.Name x pos :: es) (tCons te t) := pa_cons ha hr (by rfl)
theorem pa_cL {l : List Expr} (ha : PE X (.List l pos) te) (hr : PA X es t) : PA X (.List l pos :: es) (tCons te t) := pa_cons ha hr (by rfl)
theorem pa_cT {l : List Expr} {b} (ha : PE X (.Tuple l b pos) te) (hr : PA X es t) : PA X (.Tuple l b pos :: es) (tCons te t) := pa_cons ha hr (by rfl)
theorem pa_cB {a b : Expr} {op} (ha : PE X (.BinOp a op b pos) te) (hr : PA X es t) : PA X (.BinOp a op b pos :: es) (tCons te t) := pa_cons ha hr (by rfl)
theorem pa_cU {a : Expr} {op} (ha : PE X (.UnaryOp op a pos) te) (hr : PA X es t) : PA X (.UnaryOp op a pos :: es) (tCons te t) := pa_cons ha hr (by rfl)
theorem pa_cS {a b : Expr} (ha : PE X (.Subscript a b pos) te) (hr : PA X es t) : PA X (.Subscript a b pos :: es) (tCons te t) := pa_cons ha hr (by rfl)
theorem pa_cK {f : Expr} {as ks} (ha : PE X (.Call f as ks pos) te) (hr : PA X es t) : PA X (.Call f as ks pos :: es) (tCons te t) := pa_cons ha hr (by rfl)
theorem pa_cQ {a : Expr} {os bs} (ha : PE X (.Compare a os bs pos) te) (hr : PA X es t) : PA X (.Compare a os bs pos :: es) (tCons te t) := pa_cons ha hr (by rfl)
theorem pa_cG {a : Expr} {gs sc} (ha : PE X (.ListComp a gs sc pos) te) (hr : PA X es t) : PA X (.ListComp a gs sc pos :: es) (tCons te t) := pa_cons ha hr (by rfl)
end
end L2

set_option Elab.async false
set_option linter.all false
set_option maxRecDepth 100000
set_option maxHeartbeats 4000000
namespace L2
open PySem WM
theorem PS.nox {X : Cx} {st : Stmt} {t : TS} (h : PS X.nox st t) : PS X st t := fun pins s σ H D I hw =>
  wpAny_mono (h pins s σ H D (I.wish _) hw) (fun _ _ q => q.unwish) fun _ _ z => False.elim z
/-! comprehensions that change nothing: what they tell is a list of values -/
theorem Same.new' {H : Hp} {l : Addr} {o : HO} (h : H l = none) : Same H (upd H l o) := fun b u e => by rw [upd_ne (ne_of_none e h)]; exact e
theorem Same.upd' {H1 H : Hp} {l : Addr} {o : HO} (s : Same H1 H) (h : H1 l = none) : Same H1 (upd H l o) := fun b u e => by rw [upd_ne (ne_of_none e h)]; exact s b u e
inductive All2 {α β : Type} (R : α → β → Prop) : List α → List β → Prop
  | nil : All2 R [] []
  | cons {a : α} {b : β} {as : List α} {bs : List β} : R a b → All2 R as bs → All2 R (a :: as) (b :: bs)
theorem All2.length {α β : Type} {R : α → β → Prop} {as : List α} {bs : List β} (h : All2 R as bs) : as.length = bs.length := by
  induction h with
  | nil => rfl
  | cons _ _ ih => rw [List.length_cons, List.length_cons, ih]
theorem All2.imp {α β : Type} {R S : α → β → Prop} {as : List α} {bs : List β} (h : All2 R as bs) (f : ∀ a b, a ∈ as → R a b → S a b) : All2 S as bs := by
  induction h with
  | nil => exact .nil
  | cons r _ ih => exact .cons (f _ _ List.mem_cons_self r) (ih fun a b m => f a b (List.mem_cons_of_mem _ m))
theorem All2.snoc {α β : Type} {R : α → β → Prop} {as : List α} {bs : List β} {a : α} {b : β} (h : All2 R as bs) (r : R a b) : All2 R (as ++ [a]) (bs ++ [b]) := by
  induction h with
  | nil => exact .cons r .nil
  | cons r' _ ih => exact .cons r' ih
theorem All2.get {α β : Type} {R : α → β → Prop} {as : List α} {bs : List β} (h : All2 R as bs) : ∀ {i : Nat} {a : α}, as[i]? = some a → ∃ b, bs[i]? = some b ∧ R a b := by
  induction h with
  | nil => intro i a e; cases e
  | cons r _ ih =>
    intro i a e
    cases i with
    | zero => cases e; exact ⟨_, rfl, r⟩
    | succ i => exact ih e
theorem All2.get' {α β : Type} {R : α → β → Prop} {as : List α} {bs : List β} (h : All2 R as bs) : ∀ {i : Nat} {b : β}, bs[i]? = some b → ∃ a, as[i]? = some a ∧ R a b := by
  induction h with
  | nil => intro i a e; cases e
  | cons r _ ih =>
    intro i a e
    cases i with
    | zero => cases e; exact ⟨_, rfl, r⟩
    | succ i => exact ih e
theorem All2.eq_map {α β : Type} {f : α → β} {as : List α} {bs : List β} (h : All2 (fun a b => b = f a) as bs) : bs = as.map f := by
  induction h with
  | nil => rfl
  | cons r _ ih => rw [r, ih, List.map_cons]
theorem filter_take_succ {α : Type} {as : List α} {i : Nat} {x : α} (h : as[i]? = some x) (p : α → Bool) : (as.take (i + 1)).filter p = (as.take i).filter p ++ (if p x = true then [x] else []) := by
  rw [List.take_add_one, h, List.filter_append]
  congr 1
  by_cases e : p x = true
  · rw [if_pos e]; simp [e]
  · rw [if_neg e]; simp [e]
/-- the heap without an address -/
def del (H : Hp) (D : Addr) : Hp := fun b => if b = D then none else H b
theorem del_ne {H : Hp} {D b : Addr} (h : b ≠ D) : del H D b = H b := by unfold del; rw [if_neg h]
theorem del_upd {H : Hp} {D : Addr} {o : HO} : del (upd H D o) D = del H D := by
  funext b
  by_cases h : b = D
  · subst h; unfold del; rw [if_pos rfl, if_pos rfl]
  · rw [del_ne h, del_ne h, upd_ne h]
theorem del_same {H H' : Hp} {D : Addr} (s : Same H H') : Same (del H D) (del H' D) := fun b o e => by
  by_cases h : b = D
  · subst h; unfold del at e; rw [if_pos rfl] at e; cases e
  · rw [del_ne h] at e ⊢; exact s b o e
theorem del_le {H : Hp} {D : Addr} : Same (del H D) H := fun b o e => by
  by_cases h : b = D
  · subst h; unfold del at e; rw [if_pos rfl] at e; cases e
  · rw [del_ne h] at e; exact e
section
variable {K : PySem.W.Frag} {a D : Addr} {g : TG} {tt : TT} {te : TE} {vs : List Nat} {σ : St} {H1 : Hp} {Qd : Hp → Prop} {α : Type}
/-- one turn, a value told: what is asked of it -/
def LcTurnP (g : TG) (tt : TT) (te : TE) (vs : List Nat) (σ : St) (v : V) (H : Hp) (b : Bool) (y : V) : Prop :=
  ∀ (Qy : V → Hp → Prop) (Qn : Hp → Prop), (b = true → ∀ H', Same H H' → Qy y H') → (b = false → ∀ H', Same H H' → Qn H') →
    g v (wipe σ vs) H fun σ2 H2 => wipe σ2 vs = wipe σ vs ∧ tt σ2 H2 fun b H3 => if b = true then te σ2 H3 Qy else Qn H3
/-- one turn, the told thing by a relation (over the heap without the new list) -/
def LcTurnR (D : Addr) (g : TG) (tt : TT) (te : TE) (vs : List Nat) (σ : St) (v : V) (H : Hp) (b : Bool) (R : V → Hp → Prop) : Prop :=
  ∀ (Qy : V → Hp → Prop) (Qn : Hp → Prop), (b = true → ∀ y H', Same H H' → R y (del H' D) → Qy y H') → (b = false → ∀ H', Same H H' → Qn H') →
    g v (wipe σ vs) H fun σ2 H2 => wipe σ2 vs = wipe σ vs ∧ tt σ2 H2 fun b H3 => if b = true then te σ2 H3 Qy else Qn H3
theorem LcTurnP.r {v y : V} {H : Hp} {b : Bool} (h : LcTurnP g tt te vs σ v H b y) : LcTurnR D g tt te vs σ v H b (fun z _ => z = y) := fun Qy Qn ky kn => h Qy Qn (fun e H' s => ky e y H' s rfl) kn
/-- the state of a comprehension between two turns -/
def LcAt (H1 : Hp) (D : Addr) (R : α → V → Hp → Prop) (xs : List α) (H : Hp) : Prop := Same H1 H ∧ ∃ ys, H D = some (.lst ys) ∧ All2 (fun x y => R x y (del H D)) xs ys
theorem LcAt.yes {R : α → V → Hp → Prop} {xs : List α} {x : α} {H H' : Hp} {y : V} (mono : ∀ x y H H', R x y H → Same H H' → R x y H') (hD : H1 D = none) (h : LcAt H1 D R xs H) (hz : xs.length < sizeLine) (s : Same H H') (r : R x y (del H' D)) :
    ∃ acc, H' D = some (.lst acc) ∧ acc.length < sizeLine ∧ LcAt H1 D R (xs ++ [x]) (upd H' D (.lst (acc ++ [y]))) := by
  obtain ⟨s1, ys, hL, ha⟩ := h
  refine ⟨ys, s _ _ hL, by rw [← ha.length]; exact hz, (s1.trans s).upd' hD, _, upd_same, ?_⟩
  rw [del_upd]
  exact (ha.imp fun a b _ q => mono a b _ _ q (del_same s)).snoc r
theorem LcAt.no {R : α → V → Hp → Prop} {xs : List α} {H H' : Hp} (mono : ∀ x y H H', R x y H → Same H H' → R x y H') (h : LcAt H1 D R xs H) (s : Same H H') : LcAt H1 D R xs H' := by
  obtain ⟨s1, ys, hL, ha⟩ := h
  exact ⟨s1.trans s, ys, s _ _ hL, ha.imp fun a b _ q => mono a b _ _ q (del_same s)⟩
theorem lc_turn {as : List α} {i : Nat} {x : α} {v : V} {p : α → Bool} {R : α → V → Hp → Prop} {H : Hp} (mono : ∀ x y H H', R x y H → Same H H' → R x y H') (hD : H1 D = none) (hz : as.length < sizeLine) (hx : as[i]? = some x)
    (hs : (∃ l, H D = some (.lst l)) → Same H1 H → LcTurnR D g tt te vs σ v H (p x) (R x)) (h : LcAt H1 D R ((as.take i).filter p) H) :
    g v (wipe σ vs) H fun σ2 H2 => wipe σ2 vs = wipe σ vs ∧ tt σ2 H2 fun b H3 =>
      if b = true then te σ2 H3 fun y H4 => ∃ acc, H4 D = some (.lst acc) ∧ acc.length < sizeLine ∧ LcAt H1 D R ((as.take (i + 1)).filter p) (upd H4 D (.lst (acc ++ [y]))) else LcAt H1 D R ((as.take (i + 1)).filter p) H3 := by
  have e := filter_take_succ hx p
  refine hs ⟨_, h.2.choose_spec.1⟩ h.1 _ _ (fun ep y H' s r => ?_) (fun ep H' s => ?_)
  · rw [e, if_pos ep]
    refine h.yes mono hD ?_ s r
    have := List.length_filter_le p (as.take i)
    rw [List.length_take] at this
    omega
  · rw [e, if_neg (by rw [ep]; exact Bool.false_ne_true), List.append_nil]
    exact h.no mono s
theorem lc_end {as : List α} {p : α → Bool} {R : α → V → Hp → Prop} (mono : ∀ x y H H', R x y H → Same H H' → R x y H') (hd : ∀ H' ys, Same H1 H' → H' D = some (.lst ys) → All2 (fun x y => R x y H') (as.filter p) ys → Qd H') {n : Nat} (hn : n = as.length) {H : Hp} (h : LcAt H1 D R ((as.take n).filter p) H) : Qd H := by
  obtain ⟨s1, ys, hL, ha⟩ := h
  subst hn
  rw [List.take_length] at ha
  exact hd H ys s1 hL (ha.imp fun a b _ q => mono a b _ _ q del_le)
theorem lc_start {R : α → V → Hp → Prop} (hD : H1 D = none) : LcAt H1 D R ([] : List α) (upd H1 D (.lst [])) := ⟨Same.new' hD, [], upd_same, .nil⟩
/-- over a list, each thing kept by p, the told one related to it -/
theorem lc_listR {as : List α} {vf : α → V} (p : α → Bool) (R : α → V → Hp → Prop) (mono : ∀ x y H H', R x y H → Same H H' → R x y H') (hq : SqL K H1 a (as.map vf)) (hD : H1 D = none) (hz : as.length < sizeLine)
    (hs : ∀ x H, x ∈ as → (∃ l, H D = some (.lst l)) → Same H1 H → LcTurnR D g tt te vs σ (vf x) H (p x) (R x)) (hd : ∀ H' ys, Same H1 H' → H' D = some (.lst ys) → All2 (fun x y => R x y H') (as.filter p) ys → Qd H') :
    ∃ W : Nat → Nat → Hp → Prop, (∃ m, W 0 m (upd H1 D (.lst []))) ∧ ∀ i m H, W i m H →
      ((Itl K a).stop i H ∧ Qd H) ∨ ((Itl K a).go i H ∧ ∃ Nx : Hp → Prop, (∀ H', Nx H' → ∃ m', m' < m ∧ W (i + 1) m' H') ∧ ∀ x H', (Itl K a).yld i H x H' → g x (wipe σ vs) H' fun σ2 H2 => wipe σ2 vs = wipe σ vs ∧ tt σ2 H2 fun b H3 =>
        if b = true then te σ2 H3 fun y H4 => ∃ acc, H4 D = some (.lst acc) ∧ acc.length < sizeLine ∧ Nx (upd H4 D (.lst (acc ++ [y]))) else Nx H3) := by
  refine lc_list (K := K) (a := a) (xs := as.map vf) (fun i H => LcAt H1 D R ((as.take i).filter p) H) (lc_start hD) (fun i H _ h => h.1.seq hq) (fun i v H hv h => ?_) (fun H h => lc_end mono hd (by rw [List.length_map]) h)
  rw [List.getElem?_map] at hv
  cases ex : as[i]? with
  | none => rw [ex] at hv; cases hv
  | some x =>
    rw [ex] at hv
    cases hv
    exact lc_turn mono hD hz ex (hs x H (List.mem_of_getElem? ex)) h
theorem lc_rangeR {lo : Int} {n : Nat} (p : Nat → Bool) (R : Nat → V → Hp → Prop) (mono : ∀ x y H H', R x y H → Same H H' → R x y H') (hD : H1 D = none) (hz : n < sizeLine)
    (hs : ∀ i H, i < n → (∃ l, H D = some (.lst l)) → Same H1 H → LcTurnR D g tt te vs σ (.int (lo + i)) H (p i) (R i)) (hd : ∀ H' ys, Same H1 H' → H' D = some (.lst ys) → All2 (fun x y => R x y H') ((List.range n).filter p) ys → Qd H') :
    ∃ W : Nat → Nat → Hp → Prop, (∃ m, W 0 m (upd H1 D (.lst []))) ∧ ∀ i m H, W i m H →
      ((Itr lo n).stop i H ∧ Qd H) ∨ ((Itr lo n).go i H ∧ ∃ Nx : Hp → Prop, (∀ H', Nx H' → ∃ m', m' < m ∧ W (i + 1) m' H') ∧ ∀ x H', (Itr lo n).yld i H x H' → g x (wipe σ vs) H' fun σ2 H2 => wipe σ2 vs = wipe σ vs ∧ tt σ2 H2 fun b H3 =>
        if b = true then te σ2 H3 fun y H4 => ∃ acc, H4 D = some (.lst acc) ∧ acc.length < sizeLine ∧ Nx (upd H4 D (.lst (acc ++ [y]))) else Nx H3) := by
  refine lc_range (lo := lo) (n := n) (fun i H => LcAt H1 D R (((List.range n).take i).filter p) H) (lc_start hD) (fun i H hi h => ?_) (fun H h => lc_end mono hd (by rw [List.length_range]) h)
  exact lc_turn mono hD (by rw [List.length_range]; exact hz) (List.getElem?_range hi) (hs i H hi) h
theorem lc_strR {l : List Nat} (p : Nat → Bool) (R : Nat → V → Hp → Prop) (mono : ∀ x y H H', R x y H → Same H H' → R x y H') (hD : H1 D = none) (hz : l.length < sizeLine)
    (hs : ∀ c H, c ∈ l → (∃ l, H D = some (.lst l)) → Same H1 H → LcTurnR D g tt te vs σ (.str ⟨#[c]⟩) H (p c) (R c)) (hd : ∀ H' ys, Same H1 H' → H' D = some (.lst ys) → All2 (fun x y => R x y H') (l.filter p) ys → Qd H') :
    ∃ W : Nat → Nat → Hp → Prop, (∃ m, W 0 m (upd H1 D (.lst []))) ∧ ∀ i m H, W i m H →
      ((Its (txt l)).stop i H ∧ Qd H) ∨ ((Its (txt l)).go i H ∧ ∃ Nx : Hp → Prop, (∀ H', Nx H' → ∃ m', m' < m ∧ W (i + 1) m' H') ∧ ∀ x H', (Its (txt l)).yld i H x H' → g x (wipe σ vs) H' fun σ2 H2 => wipe σ2 vs = wipe σ vs ∧ tt σ2 H2 fun b H3 =>
        if b = true then te σ2 H3 fun y H4 => ∃ acc, H4 D = some (.lst acc) ∧ acc.length < sizeLine ∧ Nx (upd H4 D (.lst (acc ++ [y]))) else Nx H3) := by
  refine lc_str (x := txt l) (fun i H => LcAt H1 D R ((l.take i).filter p) H) (lc_start hD) (fun i c H hc h => ?_) (fun H h => lc_end mono hd (by show l.toArray.size = _; simp) h)
  have hc' : l[i]? = some c := by simpa [txt] using hc
  exact lc_turn mono hD hz hc' (hs c H (List.mem_of_getElem? hc')) h
/-! the same with values -/
theorem lc_listP {as : List α} {vf : α → V} (p : α → Bool) (f : α → V) (hq : SqL K H1 a (as.map vf)) (hD : H1 D = none) (hz : as.length < sizeLine)
    (hs : ∀ x H, x ∈ as → Same H1 H → LcTurnP g tt te vs σ (vf x) H (p x) (f x)) (hd : ∀ H', Same H1 H' → H' D = some (.lst ((as.filter p).map f)) → Qd H') :
    ∃ W : Nat → Nat → Hp → Prop, (∃ m, W 0 m (upd H1 D (.lst []))) ∧ ∀ i m H, W i m H →
      ((Itl K a).stop i H ∧ Qd H) ∨ ((Itl K a).go i H ∧ ∃ Nx : Hp → Prop, (∀ H', Nx H' → ∃ m', m' < m ∧ W (i + 1) m' H') ∧ ∀ x H', (Itl K a).yld i H x H' → g x (wipe σ vs) H' fun σ2 H2 => wipe σ2 vs = wipe σ vs ∧ tt σ2 H2 fun b H3 =>
        if b = true then te σ2 H3 fun y H4 => ∃ acc, H4 D = some (.lst acc) ∧ acc.length < sizeLine ∧ Nx (upd H4 D (.lst (acc ++ [y]))) else Nx H3) :=
  lc_listR p (fun x y _ => y = f x) (fun _ _ _ _ h _ => h) hq hD hz (fun x H m _ s => LcTurnP.r (hs x H m s)) fun H' ys s hL ha => hd H' s (by rw [hL, ha.eq_map])
theorem lc_rangeP {lo : Int} {n : Nat} (p : Nat → Bool) (f : Nat → V) (hD : H1 D = none) (hz : n < sizeLine)
    (hs : ∀ i H, i < n → Same H1 H → LcTurnP g tt te vs σ (.int (lo + i)) H (p i) (f i)) (hd : ∀ H', Same H1 H' → H' D = some (.lst (((List.range n).filter p).map f)) → Qd H') :
    ∃ W : Nat → Nat → Hp → Prop, (∃ m, W 0 m (upd H1 D (.lst []))) ∧ ∀ i m H, W i m H →
      ((Itr lo n).stop i H ∧ Qd H) ∨ ((Itr lo n).go i H ∧ ∃ Nx : Hp → Prop, (∀ H', Nx H' → ∃ m', m' < m ∧ W (i + 1) m' H') ∧ ∀ x H', (Itr lo n).yld i H x H' → g x (wipe σ vs) H' fun σ2 H2 => wipe σ2 vs = wipe σ vs ∧ tt σ2 H2 fun b H3 =>
        if b = true then te σ2 H3 fun y H4 => ∃ acc, H4 D = some (.lst acc) ∧ acc.length < sizeLine ∧ Nx (upd H4 D (.lst (acc ++ [y]))) else Nx H3) :=
  lc_rangeR p (fun x y _ => y = f x) (fun _ _ _ _ h _ => h) hD hz (fun x H m _ s => LcTurnP.r (hs x H m s)) fun H' ys s hL ha => hd H' s (by rw [hL, ha.eq_map])
theorem lc_strP {l : List Nat} (p : Nat → Bool) (f : Nat → V) (hD : H1 D = none) (hz : l.length < sizeLine)
    (hs : ∀ c H, c ∈ l → Same H1 H → LcTurnP g tt te vs σ (.str ⟨#[c]⟩) H (p c) (f c)) (hd : ∀ H', Same H1 H' → H' D = some (.lst ((l.filter p).map f)) → Qd H') :
    ∃ W : Nat → Nat → Hp → Prop, (∃ m, W 0 m (upd H1 D (.lst []))) ∧ ∀ i m H, W i m H →
      ((Its (txt l)).stop i H ∧ Qd H) ∨ ((Its (txt l)).go i H ∧ ∃ Nx : Hp → Prop, (∀ H', Nx H' → ∃ m', m' < m ∧ W (i + 1) m' H') ∧ ∀ x H', (Its (txt l)).yld i H x H' → g x (wipe σ vs) H' fun σ2 H2 => wipe σ2 vs = wipe σ vs ∧ tt σ2 H2 fun b H3 =>
        if b = true then te σ2 H3 fun y H4 => ∃ acc, H4 D = some (.lst acc) ∧ acc.length < sizeLine ∧ Nx (upd H4 D (.lst (acc ++ [y]))) else Nx H3) :=
  lc_strR p (fun x y _ => y = f x) (fun _ _ _ _ h _ => h) hD hz (fun x H m _ s => LcTurnP.r (hs x H m s)) fun H' ys s hL ha => hd H' s (by rw [hL, ha.eq_map])
end
end L2

set_option Elab.async false
set_option linter.all false
set_option maxRecDepth 100000
set_option maxHeartbeats 4000000
namespace WM
open PySem
/-! what turns cost -/
def ab (t : Int) : Int := if t < 0 then -t else t
def tc (w t s : Int) : Int := if t * w < 0 then ab t + s else ab t
def wb (w t : Int) : Int := if 0 < t then 1 else if t < 0 then -1 else w
def okS (n : Int) : Bool := decide (0 ≤ n) && decide (n ≤ 9)
def cf (s : Int) (ts : List Int) : Int × Int := ts.foldl (fun p t => (p.1 + tc p.2 t s, wb p.2 t)) (0, 0)
theorem cf_snoc (s : Int) (ts : List Int) (t : Int) : cf s (ts ++ [t]) = ((cf s ts).1 + tc (cf s ts).2 t s, wb (cf s ts).2 t) := by
  unfold cf
  rw [List.foldl_append]
  rfl
theorem snoc_ind {α : Type} {P : List α → Prop} (h0 : P []) (h1 : ∀ l a, P l → P (l ++ [a])) : ∀ l, P l := by
  have : ∀ l : List α, P l.reverse := by
    intro l
    induction l with
    | nil => exact h0
    | cons a l ih => rw [List.reverse_cons]; exact h1 _ _ ih
  intro l
  have := this l.reverse
  rwa [List.reverse_reverse] at this
theorem wb_in {w t : Int} (h : -1 ≤ w ∧ w ≤ 1) : -1 ≤ wb w t ∧ wb w t ≤ 1 := by
  unfold wb
  split
  · omega
  · split <;> omega
theorem cf_way (s : Int) : ∀ ts, -1 ≤ (cf s ts).2 ∧ (cf s ts).2 ≤ 1 := by
  apply snoc_ind
  · show (-1 : Int) ≤ 0 ∧ (0 : Int) ≤ 1
    exact ⟨by decide, by decide⟩
  · intro l t ih
    rw [cf_snoc]
    exact wb_in ih
/-! the same by the turns that are not 0 -/
def gone (ts : List Int) : List Int := ts.filter fun t => decide (t ≠ 0)
def up (g : List Int) (i : Nat) : Bool := decide (0 < g.getD i 0)
def chg (g : List Int) : Nat := ((List.range (g.length - 1)).filter fun i => up g (1 + i) != up g i).length
/-! lists of ints as data -/
def dInts (ts : List Int) : PyData := .list (ts.map .int)
end WM
namespace WM
open PySem
/-! data of few levels: what equality asks -/
structure Sh (n : Nat) (d : PyData) : Prop where
  can : d.canLay0 = true
  dep : d.depth ≤ n
theorem Sh.shaped {n : Nat} {d : PyData} (h : Sh n d) (hn : n ≤ 64 := by decide) : SeqAt.shaped d = true := by
  show (d.canLay0 && decide (d.depth ≤ 64)) = true
  rw [h.can, decide_eq_true (Nat.le_trans h.dep hn)]; rfl
theorem Sh.eqv {n : Nat} {d : PyData} (h : Sh n d) : PyData.eqv d d = true := PySem.SeqAt.eqv_refl _ h.can
theorem Sh.int (i : Int) (n : Nat) : Sh n (.int i) := ⟨rfl, Nat.zero_le _⟩
theorem Sh.all {n : Nat} : ∀ {ds : List PyData}, (∀ d ∈ ds, Sh n d) → PyData.canLayAll0 ds = true ∧ PyData.depthAll ds ≤ n
  | [], _ => ⟨rfl, Nat.zero_le _⟩
  | d :: ds, h => by
    obtain ⟨a, b⟩ := Sh.all (ds := ds) fun e m => h e (List.mem_cons_of_mem _ m)
    have hd := h d List.mem_cons_self
    refine ⟨?_, ?_⟩
    · show (d.canLay0 && PyData.canLayAll0 ds) = true
      rw [hd.can, a]; rfl
    · show max d.depth (PyData.depthAll ds) ≤ n
      exact Nat.max_le.mpr ⟨hd.dep, b⟩
theorem Sh.list {n : Nat} {ds : List PyData} (h : ∀ d ∈ ds, Sh n d) : Sh (n + 1) (.list ds) := by
  obtain ⟨a, b⟩ := Sh.all h
  refine ⟨a, ?_⟩
  show PyData.depthAll ds + 1 ≤ n + 1
  omega
theorem Sh.ints (ts : List Int) : Sh 1 (dInts ts) := Sh.list fun d m => by
  obtain ⟨i, _, rfl⟩ := List.mem_map.mp m
  exact Sh.int i 0
end WM
namespace L2
open PySem WM
theorem Dp.ints {K : PySem.W.Frag} {H : Hp} {a : Addr} {ts : List Int} (h : SqL K H a (ts.map V.int)) : Dp K H (.ref a) (dInts ts) := by
  refine .lst h ?_
  clear h
  induction ts with
  | nil => exact .nil
  | cons t ts ih => exact .cons (.int t) ih
end L2

set_option Elab.async false
set_option linter.all false
set_option maxRecDepth 100000
set_option maxHeartbeats 4000000
namespace L2
open PySem WM
section
variable {K : PySem.W.Frag} {a D : Addr} {g : TG} {tt : TT} {te : TE} {vs : List Nat} {σ : St} {H1 : Hp} {Qd : Hp → Prop} {α : Type}
end
section
variable {K : PySem.W.Frag} {a : Addr} {g : TG} {tb : TS} {D : Ends} {σ : St} {H : Hp}
/-- for over a text -/
theorem for_str {l : List Nat} (Pv : Nat → St → Hp → Prop) (h0 : Pv 0 σ H) (hs : ∀ i c σ H, l[i]? = some c → Pv i σ H → g (.str (txt [c])) σ H fun σ2 H2 => tb { D with nx := Pv (i + 1), ct := Pv (i + 1), bk := D.nx } σ2 H2) (hd : ∀ σ H, Pv l.length σ H → D.nx σ H) :
    ∃ W : Nat → Nat → St → Hp → Prop, (∃ m, W 0 m σ H) ∧ ∀ i m σ H, W i m σ H →
      ((Its (txt l)).stop i H ∧ D.nx σ H) ∨ ((Its (txt l)).go i H ∧ ∃ N : St → Hp → Prop, (∀ σ' H', N σ' H' → ∃ m', m' < m ∧ W (i + 1) m' σ' H') ∧ ∀ x H', (Its (txt l)).yld i H x H' → g x σ H' fun σ2 H2 => tb { D with nx := N, ct := N, bk := D.nx } σ2 H2) := by
  have ez : (txt l).cps.size = l.length := by show l.toArray.size = _; simp
  refine ⟨fun i m σ H => m = l.length - i ∧ i ≤ l.length ∧ Pv i σ H, ⟨l.length, by simp, Nat.zero_le _, h0⟩, ?_⟩
  rintro i m σ H ⟨rfl, hi, p⟩
  by_cases hlt : i < l.length
  · refine .inr ⟨by show i < _; rw [ez]; exact hlt, Pv (i + 1), fun σ' H' p' => ⟨l.length - (i + 1), by omega, rfl, hlt, p'⟩, fun y H' z => ?_⟩
    obtain ⟨e, c, hc, hv⟩ := z
    subst e hv
    have hc' : l[i]? = some c := by simpa [txt] using hc
    exact hs i c σ _ hc' p
  · have e : i = l.length := by omega
    subst e
    exact .inl ⟨by show _ ≤ _; rw [ez]; exact Nat.le_refl _, hd σ H p⟩
end
end L2
namespace WM
open PySem
/-! what turns strike -/
def stk (l : List Nat) (ts : List Int) : Int × List Nat := ts.foldl (fun p t => ((p.1 + t) % (l.length : Int), p.2 ++ [l.getD ((p.1 + t) % (l.length : Int)).toNat 0])) (0, [])
theorem at_getD {l : List Nat} {z : Int} (h0 : 0 ≤ z) (h1 : z < l.length) : L2.atI l z = some (l.getD z.toNat 0) := by
  obtain ⟨n, rfl⟩ : ∃ n : Nat, z = (n : Int) := ⟨z.toNat, by omega⟩
  have hn : n < l.length := by omega
  refine L2.atI_nat ?_
  rw [show ((n : Int)).toNat = n by omega, List.getD_eq_getElem?_getD, List.getElem?_eq_getElem hn]
  rfl
/-- is it a plan -/
def pln (l o : List Nat) (ts : List Int) : Bool := ts.all (fun t => decide (ab t < (l.length : Int))) && decide ((stk l ts).2 = o)
end WM

set_option Elab.async false
set_option linter.all false
set_option maxRecDepth 100000
set_option maxHeartbeats 4000000
namespace W
open PySem L2 WM
def Cp (l : List Nat) : Prop := ∀ c ∈ l, c < 1114112
def dS (c : Nat) : PyData := .str (txt [c])
def spLIsWord : Sp := fun vs H Q _ => ∃ l : List Nat, vs = [.str (txt l)] ∧ l.length ≤ 500 ∧ Cp l ∧ ∀ H', Same H H' → Q (.bl (isW l)) H'
def bad (l : List Nat) : List Nat := l.filter fun c => !okC c
def sgA : Str := " !\"#$&'()*+,-./0123456789:;<=>?@"
def sgB : Str := "ABCDEFGHIJKLMNOPQRSTUVWXYZ[\\]^_`abcdefghijklmnopqrstuvwxyz{|}~\n"
def spBent : Sp := fun vs H Q _ => ∃ (l : List Nat) (p : Addr), vs = [.str (txt l), .ref p] ∧ Cp l ∧ l.length ≤ 200 ∧ DrAt H p ∧ ∀ (m : List Nat) (H' : Hp), Cp m → m.length ≤ l.length + 1 → DrAt H' p → But p H H' → Q (.str (txt m)) H'
theorem at_some {l : List Nat} {z : Int} (h0 : 0 ≤ z) (h1 : z < l.length) : ∃ c, atI l z = some c ∧ c ∈ l := by
  obtain ⟨j, rfl⟩ : ∃ j : Nat, z = (j : Int) := ⟨z.toNat, by omega⟩
  have hj : j < l.length := by omega
  exact ⟨l[j], atI_nat (List.getElem?_eq_getElem hj), List.getElem_mem hj⟩
theorem isW_iff {l : List Nat} : isW l = true ↔ l.length ≤ 80 ∧ Low l := by
  unfold isW
  rw [Bool.and_eq_true, decide_eq_true_iff, List.all_eq_true]
  refine and_congr_right fun _ => forall_congr' fun c => imp_congr_right fun _ => ?_
  unfold okC
  rw [Bool.and_eq_true, decide_eq_true_iff, decide_eq_true_iff]
end W

set_option Elab.async false
set_option linter.all false
set_option maxRecDepth 100000
set_option maxHeartbeats 4000000
namespace W
open PySem L2 WM
/-- a comprehension over a range whose turns draw: each told value has R -/
theorem lc_rangeD {p D : Addr} {g : TG} {tt : TT} {te : TE} {vs : List Nat} {σ : St} {H1 : Hp} {Qd : Hp → Prop} {lo : Int} {n : Nat} (R : V → Prop) (D1 : DrAt H1 p) (hD : H1 D = none) (hz : n < sizeLine)
    (hs : ∀ i H, i < n → DrAt H p → But p H1 H → (∃ l, H D = some (.lst l)) → ∀ (Qy : V → Hp → Prop), (∀ y H', R y → DrAt H' p → But p H H' → Qy y H') →
      g (.int (lo + i)) (wipe σ vs) H fun σ2 H2 => wipe σ2 vs = wipe σ vs ∧ tt σ2 H2 fun b H3 => b = true ∧ te σ2 H3 Qy)
    (hd : ∀ H' ys, ys.length = n → (∀ y ∈ ys, R y) → DrAt H' p → But p H1 H' → H' D = some (.lst ys) → Qd H')
    (mono : ∀ (σ2 : St) (H2 : Hp) (P Q : Bool → Hp → Prop), (∀ b H, P b H → Q b H) → tt σ2 H2 P → tt σ2 H2 Q) (mono2 : ∀ (v : V) (σ2 : St) (H2 : Hp) (P Q : St → Hp → Prop), (∀ s H, P s H → Q s H) → g v σ2 H2 P → g v σ2 H2 Q) :
    ∃ W : Nat → Nat → Hp → Prop, (∃ m, W 0 m (upd H1 D (.lst []))) ∧ ∀ i m H, W i m H →
      ((Itr lo n).stop i H ∧ Qd H) ∨ ((Itr lo n).go i H ∧ ∃ Nx : Hp → Prop, (∀ H', Nx H' → ∃ m', m' < m ∧ W (i + 1) m' H') ∧ ∀ x H', (Itr lo n).yld i H x H' → g x (wipe σ vs) H' fun σ2 H2 => wipe σ2 vs = wipe σ vs ∧ tt σ2 H2 fun b H3 =>
        if b = true then te σ2 H3 fun y H4 => ∃ acc, H4 D = some (.lst acc) ∧ acc.length < sizeLine ∧ Nx (upd H4 D (.lst (acc ++ [y]))) else Nx H3) := by
  have hDp : D ≠ p := D1.ne hD
  refine lc_range (lo := lo) (n := n) (fun i H => i ≤ n ∧ DrAt H p ∧ But p H1 H ∧ ∃ ys : List V, ys.length = i ∧ (∀ y ∈ ys, R y) ∧ H D = some (.lst ys)) ⟨Nat.zero_le _, D1.new hD, But.new hD, [], rfl, (fun y m => by cases m), upd_same⟩ (fun i H hi h => ?_) (fun H h => ?_)
  · obtain ⟨_, dH, bH, ys, hl, hR, hL⟩ := h
    refine mono2 _ _ _ _ _ ?_ (hs i H hi dH bH ⟨_, hL⟩ (fun y H4 => ∃ acc, H4 D = some (.lst acc) ∧ acc.length < sizeLine ∧ (i + 1 ≤ n ∧ DrAt (upd H4 D (.lst (acc ++ [y]))) p ∧ But p H1 (upd H4 D (.lst (acc ++ [y]))) ∧ ∃ ys : List V, ys.length = i + 1 ∧ (∀ y ∈ ys, R y) ∧ (upd H4 D (.lst (acc ++ [y]))) D = some (.lst ys))) ?_)
    · rintro s H2 ⟨e, h2⟩
      refine ⟨e, mono _ _ _ _ ?_ h2⟩
      rintro b H3 ⟨rfl, h3⟩
      rw [if_pos rfl]
      exact h3
    · intro y H' r d' b'
      refine ⟨ys, b' _ _ hL hDp, by omega, hi, d'.set hDp, (bH.trans b').set hD, ys ++ [y], by rw [List.length_append, hl]; rfl, ?_, upd_same⟩
      intro z hz'
      rcases List.mem_append.mp hz' with m | m
      · exact hR z m
      · rw [List.mem_singleton.mp m]; exact r
  · obtain ⟨_, dH, bH, ys, hl, hR, hL⟩ := h
    exact hd H ys hl hR dH bH hL
theorem yes_mono (σ2 : St) (H2 : Hp) (P Q : Bool → Hp → Prop) (h : ∀ b H, P b H → Q b H) (t : tYes σ2 H2 P) : tYes σ2 H2 Q := h _ _ t
theorem name_mono {i : Nat} (v : V) (σ2 : St) (H2 : Hp) (P Q : St → Hp → Prop) (h : ∀ s H, P s H → Q s H) (t : gName i v σ2 H2 P) : gName i v σ2 H2 Q := h _ _ t
end W

set_option Elab.async false
set_option linter.all false
set_option maxRecDepth 100000
set_option maxHeartbeats 4000000
namespace L2
open PySem PySem.Spec PyProof.Rows
/-! sorting tuples of ints and texts -/
def kItem : Key → Int ⊕ List Nat
  | .inl n => .inl n
  | .inr x => .inr x.cps.toList
def Shaped (shape : Nat → Bool) : Nat → List Key → Prop
  | _, [] => True
  | i, .inl _ :: r => shape i = false ∧ Shaped shape (i + 1) r
  | i, .inr _ :: r => shape i = true ∧ Shaped shape (i + 1) r
def kLe (a b : List Key) : Prop := PyProof.Rows.lexLt PyProof.Rows.itemOrd (b.map kItem) (a.map kItem) = false
theorem tup_items {shape : Nat → Bool} : ∀ {ks : List Key} {i : Nat} {its : List Value}, Vals (ks.map kV) its → Shaped shape i ks → PyProof.Rows.tupItems shape i its = some (ks.map kItem)
  | [], i, its, h, _ => by cases h; rfl
  | .inl n :: r, i, its, h, sh => by
    cases h with
    | cons hv hr =>
      obtain ⟨t, rfl⟩ := (show ∃ t, _ = Value.int n t from hv)
      show (if shape i = true then none else (tupItems shape (i + 1) _).map (Sum.inl n :: ·)) = _
      rw [sh.1, if_neg Bool.false_ne_true, tup_items hr sh.2]; rfl
  | .inr x :: r, i, its, h, sh => by
    cases h with
    | cons hv hr =>
      obtain ⟨t, rfl⟩ := (show ∃ t, _ = Value.str x t from hv)
      show (if shape i = true then (tupItems shape (i + 1) _).map (Sum.inr x.cps.toList :: ·) else none) = _
      rw [sh.1, if_pos rfl, tup_items hr sh.2]; rfl
/-- what the raw heap has of a tracked tuple of keys -/
theorem tup_raw {shape : Nat → Bool} {h : Heap} {q : Addr} {ks : List Key} {its : List Value} (rv : Vals (ks.map kV) its) (ht : IsTup h q its.toArray) (sh : Shaped shape 0 ks) (ne : ks ≠ []) :
    PyProof.Rows.G.tupKeyC h shape (.ref q) = some (ks.map kItem) ∧ ∃ f, PyProof.Rows.TupOf h shape (.ref q) f := by
  obtain ⟨o, ho, hc, n, hd⟩ := ht
  have hit := tup_items rv sh
  refine ⟨?_, ?_⟩
  · unfold PyProof.Rows.G.tupKeyC
    have hi : PyProof.Rows.G.isTupObj h (.ref q) = true := by
      unfold PyProof.Rows.G.isTupObj
      simp only [ho, hc]; rfl
    rw [if_pos hi]
    unfold PyProof.Rows.tupKey
    simp only [ho, hd]
    exact hit
  · cases ks with
    | nil => exact absurd rfl ne
    | cons k r =>
      cases rv with
      | cons hv hr =>
        rename_i u us
        refine ⟨u, q, o, _, n, rfl, ho, hc, hd, rfl, fun e => ?_, fun e => ?_⟩
        · cases k with
          | inl m => obtain ⟨t, rfl⟩ := (show ∃ t, _ = Value.int m t from hv); exact ⟨_, _, rfl⟩
          | inr x => rw [sh.1] at e; cases e
        · cases k with
          | inl m => rw [sh.1] at e; cases e
          | inr x => obtain ⟨t, rfl⟩ := (show ∃ t, _ = Value.str x t from hv); exact ⟨_, _, rfl⟩
/-- tuples of keys at addresses -/
def TupsAt (H : Hp) (qs : List Addr) (kss : List (List Key)) : Prop := All2 (fun q ks => H q = some (.tup (ks.map kV))) qs kss
section
variable {X : Cx} {pins : List (Addr × Obj)} {σ : St} {H : Hp} {s : Shared}
theorem tups_raw {shape : Nat → Bool} (I : Inv X pins σ H s) {qs : List Addr} {kss : List (List Key)} (h : TupsAt H qs kss) (sh : ∀ ks ∈ kss, Shaped shape 0 ks ∧ ks ≠ []) :
    (∃ fs, PyProof.Rows.TupsOf s.heap shape (qs.map Value.ref) fs) ∧ ∀ (i : Nat) (q : Addr) (ks : List Key), qs[i]? = some q → kss[i]? = some ks → PyProof.Rows.G.tupKeyC s.heap shape (.ref q) = some (ks.map kItem) := by
  induction h with
  | nil => exact ⟨⟨[], .nil⟩, fun i q ks e => by cases e⟩
  | cons r hr ih =>
    rename_i q ks qs kss
    obtain ⟨⟨fs, hf⟩, hk⟩ := ih fun k m => sh k (List.mem_cons_of_mem _ m)
    obtain ⟨z, its, rv, ht⟩ := I.hok q _ r
    obtain ⟨s1, s2⟩ := sh ks List.mem_cons_self
    obtain ⟨a1, f, a2⟩ := tup_raw (shape := shape) rv ht s1 s2
    refine ⟨⟨f :: fs, .cons a2 hf⟩, fun i q' ks' e1 e2 => ?_⟩
    cases i with
    | zero => cases e1; cases e2; exact a1
    | succ i => exact hk i q' ks' e1 e2
end
theorem refs_vals : ∀ qs : List Addr, Vals (qs.map V.ref) (qs.map Value.ref)
  | [] => .nil
  | q :: qs => .cons rfl (refs_vals qs)
theorem perm_map_inv {α β : Type} {f : α → β} {l m' : List β} (h : l.Perm m') : ∀ {m : List α}, m' = m.map f → ∃ n : List α, n.Perm m ∧ l = n.map f := by
  induction h with
  | nil =>
    intro m e
    cases m with
    | nil => exact ⟨[], .nil, rfl⟩
    | cons a m => cases e
  | cons x h ih =>
    intro m e
    cases m with
    | nil => cases e
    | cons a m =>
      injection e with e1 e2
      obtain ⟨n, hn, rfl⟩ := ih e2
      exact ⟨a :: n, .cons a hn, by rw [List.map_cons, e1]⟩
  | swap x y l =>
    intro m e
    cases m with
    | nil => cases e
    | cons a m =>
      injection e with e1 e2
      cases m with
      | nil => cases e2
      | cons b m =>
        injection e2 with e3 e4
        exact ⟨b :: a :: m, .swap a b m, by rw [List.map_cons, List.map_cons, e1, e3, e4]⟩
  | trans h1 h2 ih1 ih2 =>
    intro m e
    obtain ⟨n, hn, e2⟩ := ih2 e
    obtain ⟨n', hn', e3⟩ := ih1 e2
    exact ⟨n', hn'.trans hn, e3⟩
theorem zip_self {α : Type} : ∀ (qs : List Addr) (kss : List α), qs.length = kss.length → ((qs.map Value.ref).zip (qs.map Value.ref)) = (qs.zip kss).map fun p => (Value.ref p.1, Value.ref p.1)
  | [], [], _ => rfl
  | [], _ :: _, h => by cases h
  | _ :: _, [], h => by cases h
  | q :: qs, k :: kss, h => by
    show _ :: ((qs.map Value.ref).zip (qs.map Value.ref)) = _ :: ((qs.zip kss).map _)
    rw [zip_self qs kss (Nat.succ.inj h)]
/-- what a sort hands back, at the level of keys -/
theorem sort_out {shape : Nat → Bool} {h : Heap} {qs : List Addr} {kss : List (List Key)} (hl : qs.length = kss.length)
    (hk : ∀ (i : Nat) (q : Addr) (ks : List Key), qs[i]? = some q → kss[i]? = some ks → PyProof.Rows.G.tupKeyC h shape (.ref q) = some (ks.map kItem)) {xs : Array Keyed}
    (hp : xs.Perm (pairsOf (qs.map Value.ref))) (hs : SortedToK (PyProof.Rows.G.tupKindC h shape) xs (pairsOf (qs.map Value.ref)).size) :
    ∃ (qk : List (Addr × List Key)), qk.Perm (qs.zip kss) ∧ (xs.map (·.2)).toList = (qk.map (·.1)).map Value.ref ∧ (qk.map (·.2)).Pairwise kLe := by
  have hpl : xs.toList.Perm ((qs.map Value.ref).zip (qs.map Value.ref)) := by
    have := hp.toList
    rwa [pairsOf_toList] at this
  obtain ⟨qk, hq, he⟩ := perm_map_inv (f := fun p : Addr × List Key => (Value.ref p.1, Value.ref p.1)) hpl (zip_self qs kss hl)
  have key : ∀ p ∈ qk, PyProof.Rows.G.tupKeyC h shape (.ref p.1) = some (p.2.map kItem) := by
    intro p hm
    have hm' := hq.mem_iff.mp hm
    obtain ⟨i, hi⟩ := List.getElem?_of_mem hm'
    obtain ⟨h1, h2⟩ := List.getElem?_zip_eq_some.mp hi
    exact hk i _ _ h1 h2
  refine ⟨qk, hq, ?_, ?_⟩
  · rw [Array.toList_map, he, List.map_map, List.map_map]
    rfl
  · rw [List.pairwise_map, List.pairwise_iff_getElem]
    intro i j hi hj hij
    have hsz : (pairsOf (qs.map Value.ref)).size = qk.length := by
      rw [pairsOf_size, List.length_map, hq.length_eq, List.length_zip, ← hl, Nat.min_self]
    have hkk : ∀ (i : Nat) (hi : i < qk.length), KK (PyProof.Rows.G.tupKindC h shape) xs i = (qk[i].2).map kItem := by
      intro i hi
      have e : xs[i]? = some (Value.ref qk[i].1, Value.ref qk[i].1) := by
        rw [← Array.getElem?_toList, he, List.getElem?_map, List.getElem?_eq_getElem hi]; rfl
      unfold KK
      rw [e]
      show (PyProof.Rows.G.tupKeyC h shape (.ref qk[i].1)).getD [] = _
      rw [key _ (List.getElem_mem hi)]
      rfl
    have := hs i j (Nat.le_of_lt hij) (by rw [hsz]; exact hj)
    rw [hkk i hi, hkk j hj] at this
    exact this
theorem TupsAt.of_zip {H : Hp} {qs : List Addr} {kss : List (List Key)} (h : TupsAt H qs kss) : ∀ p ∈ qs.zip kss, H p.1 = some (.tup (p.2.map kV)) := by
  induction h with
  | nil => intro p m; cases m
  | cons r hr ih =>
    intro p m
    rcases List.mem_cons.mp m with rfl | m
    · exact r
    · exact ih p m
theorem TupsAt.zip_of {H : Hp} : ∀ {qk : List (Addr × List Key)}, (∀ p ∈ qk, H p.1 = some (.tup (p.2.map kV))) → TupsAt H (qk.map (·.1)) (qk.map (·.2))
  | [], _ => .nil
  | p :: qk, h => .cons (h p List.mem_cons_self) (TupsAt.zip_of fun q m => h q (List.mem_cons_of_mem _ m))
theorem zip_snd {α β : Type} : ∀ {as : List α} {bs : List β}, as.length = bs.length → (as.zip bs).map (·.2) = bs
  | [], [], _ => rfl
  | [], _ :: _, h => by cases h
  | _ :: _, [], h => by cases h
  | a :: as, b :: bs, h => by
    show b :: (as.zip bs).map (·.2) = _
    rw [zip_snd (Nat.succ.inj h)]
section
variable {X : Cx}
/-- sorted(xs), xs a list of tuples of ints and texts, all of one shape -/
def rSortedT (K : PySem.W.Frag) (shape : Nat → Bool) : List V → Hp → VK → Prop := fun vs H Q => ∃ (a : Addr) (qs : List Addr) (kss : List (List Key)), vs = [V.ref a] ∧ SqL K H a (qs.map V.ref) ∧ TupsAt H qs kss ∧ (∀ ks ∈ kss, Shaped shape 0 ks ∧ ks ≠ []) ∧
  ∀ (qs' : List Addr) (kss' : List (List Key)) (p : Addr), kss'.Perm kss → kss'.Pairwise kLe → TupsAt H qs' kss' → H p = none → Q (.ref p) (upd H p (.lst (qs'.map V.ref)))
end
/-! walks over a dict's keys by a built-in: the raw dict -/
section
variable {prog : Program} {w : World} {A : Around} {E : Value → Shared → Prop} {s : Shared} {d : Addr} {od : Obj} {es : Array DictEntry} {ep : Nat}
theorem walks_raw (hh : A.handled = none) (it : Addr) (hne : d ≠ it) (hdt : od.data = .dict es ep) :
    Walks prog w A it [it, d] [it] es.size (fun i v => ∃ en, es[i]? = some en ∧ v = en.key) (fun i h => h.IsKeyIter it d i es.size ep ∧ h.get? d = some od) where
  sub := fun b hb => by rw [List.mem_singleton.mp hb]; exact List.mem_cons_self
  frame := fun i h h' st k => ⟨st.1.at fun oi e => k it List.mem_cons_self oi e, k d (List.mem_cons_of_mem _ List.mem_cons_self) od st.2⟩
  item := fun i s Q E hi st hQ => by
    obtain ⟨en, hen⟩ : ∃ en, es[i]? = some en := ⟨es[i], Array.getElem?_eq_getElem hi⟩
    refine next_key_item st.1 st.2 hdt rfl hen fun h' st' sb => hQ _ h' s.toks ⟨en, hen, rfl⟩ ⟨st', (sb.2 d hne).trans st.2⟩ fun b o hb e => (sb.2 b (fun z => hb (by rw [z]; exact List.mem_singleton.mpr rfl))).trans e
  done := fun s Q E st hQ => next_key_end hh st.1 st.2 hdt rfl (Nat.le_refl _) fun h' eb => hQ h' s.toks fun b o hb e => eb b o (fun z => hb (by rw [z]; exact List.mem_singleton.mpr rfl)) e
  self := fun i s Q E st h => wpAny_pyIter_keyiter st.1 h
theorem kdl_raw (lo : (d == sysModules) = false) (hx : od.ExactDict) (hdt : od.data = .dict es ep) :
    PySem.W.KdlSrc prog w "dict" d d es.size (fun i v => ∃ en, es[i]? = some en ∧ v = en.key) (fun h => h.get? d = some od) where
  type := fun s hm => ⟨od, hm, hx.1⟩
  there := fun _ hm => ⟨Heap.lt_size hm, Heap.lt_size hm⟩
  keep := fun _ _ hm hk => hk d (.inl rfl) od hm
  notList := by decide
  notTuple := by decide
  hint := fun _ _ _ _ hm hq => PySem.W.kdl_hint_dict ⟨od, hm, hx.1⟩ hq
  iter := fun A s hh hm => ⟨_, _, (fun _ _ hq => iter_keys lo hm hx hdt hq), walks_raw hh _ (Nat.ne_of_lt (Heap.lt_size hm)) hdt, ⟨⟨_, Heap.get?_push_size _ rfl, rfl, rfl⟩, Heap.get?_push_of_some _ hm⟩⟩
end
section
variable {X : Cx} {pins : List (Addr × Obj)} {σ : St} {H : Hp} {s : Shared}
/-- the raw dict of a tracked dict with tuples as keys -/
theorem dT_raw {d : Addr} {kvs : List (List Key × V)} (I : Inv X pins σ H s) (h : H d = some (.dT kvs)) : (d == sysModules) = false ∧ kvs.length ≤ sizeLine ∧ ∃ (od : Obj) (es : Array DictEntry) (ep : Nat) (qs : List Addr),
    s.heap.get? d = some od ∧ od.ExactDict ∧ od.data = .dict es ep ∧ TupsAt H qs (kvs.map (·.1)) ∧ es.toList.map (·.key) = qs.map Value.ref := by
  obtain ⟨z, hs, xs, pr, o, es, ep, ho, hx, hdt, he, _⟩ := I.hok d _ h
  refine ⟨hs, z, o, es, ep, xs.map (·.2.1), ho, hx, hdt, ?_, ?_⟩
  · have : ∀ {kvs : List (List Key × V)} {xs : List (List Key × Addr × Value)}, Paired (fun (p : List Key × V) (q : List Key × Addr × Value) => p.1 = q.1 ∧ H q.2.1 = some (.tup (p.1.map kV)) ∧ RelV p.2 q.2.2) kvs xs → TupsAt H (xs.map (·.2.1)) (kvs.map (·.1)) := by
      intro kvs xs p
      induction p with
      | nil => exact .nil
      | cons r _ ih => exact .cons r.2.1 ih
    exact this pr
  · rw [he, List.map_map, List.map_map]
    rfl
theorem keys_of {es : Array DictEntry} {qs : List Addr} {acc : Array Value} (he : es.toList.map (·.key) = qs.map Value.ref) (ha : ItemsOf (fun i v => ∃ en, es[i]? = some en ∧ v = en.key) acc es.size) : acc.toList = qs.map Value.ref := by
  rw [← he]
  apply List.ext_getElem?
  intro i
  obtain ⟨h1, h2⟩ := ha
  rw [List.getElem?_map, Array.getElem?_toList, Array.getElem?_toList]
  cases e : acc[i]? with
  | none =>
    have hi : es.size ≤ i := by
      have := Array.getElem?_eq_none_iff.mp e
      omega
    rw [Array.getElem?_eq_none_iff.mpr hi]; rfl
  | some v =>
    obtain ⟨en, hen, rfl⟩ := h2 i v e
    rw [hen]; rfl
end
section
variable {X : Cx}
/-- list(d), d a dict with tuples as keys: the keys' own tuples -/
def rListT : List V → Hp → VK → Prop := fun vs H Q => ∃ (d : Addr) (kvs : List (List Key × V)), vs = [V.ref d] ∧ H d = some (.dT kvs) ∧ ∀ (qs : List Addr) (p : Addr), TupsAt H qs (kvs.map (·.1)) → H p = none → Q (.ref p) (upd H p (.lst (qs.map V.ref)))
/-- sorted(d), d a dict with tuples as keys, all of one shape -/
def rSortedDT (shape : Nat → Bool) : List V → Hp → VK → Prop := fun vs H Q => ∃ (d : Addr) (kvs : List (List Key × V)), vs = [V.ref d] ∧ H d = some (.dT kvs) ∧ (∀ kv ∈ kvs, Shaped shape 0 kv.1 ∧ kv.1 ≠ []) ∧
  ∀ (qs' : List Addr) (kss' : List (List Key)) (p : Addr), kss'.Perm (kvs.map (·.1)) → kss'.Pairwise kLe → TupsAt H qs' kss' → H p = none → Q (.ref p) (upd H p (.lst (qs'.map V.ref)))
theorem cr_sortedDT (shape : Nat → Bool) (hc : X.calm = true) : CallR X (.builtin "sorted") (rSortedDT shape) := by
  intro pins s σ H vs us Q I r h
  obtain ⟨d, kvs, rfl, hd, hsh, q⟩ := h
  rw [Vals.ref1 r]
  obtain ⟨lo, hz, od, es, ep, qs, ho, hx, hdt, ht, he⟩ := dT_raw I hd
  have hes : es.size = qs.length := by
    have := congrArg List.length he
    rw [List.length_map, List.length_map, Array.length_toList] at this
    exact this
  have hql : qs.length = kvs.length := by rw [ht.length, List.length_map]
  refine PySem.Calls.call_function_entry PyProof.Rows.kind_sorted PyProof.Rows.plain_sorted PyProof.Rows.entry_sorted (PyProof.Rows.args_sorted1 _) ?_
  unfold Builtin.«sorted»
  refine wpAny_bind (m := checkCount "sorted" 1 1 _) (wpAny_pure ?_)
  refine wpAny_bind (PySem.W.kdu_collect (A := X.A.in1) (kdl_raw lo hx hdt) (I.ok.hd hc) ho (by rw [hes, hql]; exact hz) fun h' tk acc hk ha => ?_)
  have hacc := keys_of he ha
  rw [hacc]
  have hL : (qs.map Value.ref).length ≤ sizeLine := by rw [List.length_map, hql]; exact hz
  refine wpAny_bind (wpAny_newList ?_ hL)
  have I1 : Inv X pins σ H { s with heap := h', toks := tk } := I.kept (t' := tk) hk
  have I2 : Inv X pins σ H { s with heap := h'.push { cls := .type "list", data := .seq (qs.map Value.ref).toArray }, toks := tk } := I1.kept (t' := tk) fun b o e => Heap.get?_push_of_some _ e
  have hsh' : ∀ ks ∈ kvs.map (·.1), Shaped shape 0 ks ∧ ks ≠ [] := fun ks m => by
    obtain ⟨kv, hm, rfl⟩ := List.mem_map.mp m
    exact hsh kv hm
  obtain ⟨⟨fs, hf⟩, hkk⟩ := tups_raw (shape := shape) I2 ht hsh'
  have hoL : (h'.push { cls := .type "list", data := .seq (qs.map Value.ref).toArray }).get? h'.objs.size = some (PyProof.Rows.seqObj "list" (qs.map Value.ref).toArray 0) := Heap.get?_push_size _ rfl
  refine wpAny_bind (wpAny_holding (wpAny_call_entry PyProof.Rows.slot_list_sort ⟨_, hoL, rfl⟩ PyProof.Rows.entry_list_sort (PyProof.Rows.G.list_sort_tups (s := { s with heap := h'.push { cls := .type "list", data := .seq (qs.map Value.ref).toArray }, toks := tk }) hoL hf (fun v hv => ?_) hL fun st' h1 h2 _ => ⟨_, rfl, ?_⟩) (PyProof.Rows.args_list_sort _)))
  · obtain ⟨b, hb, rfl⟩ := List.mem_map.mp hv
    obtain ⟨i, hi⟩ := List.getElem?_of_mem hb
    obtain ⟨ks, hks, _⟩ := ht.get hi
    exact ⟨_, hkk i b ks hi hks⟩
  obtain ⟨qk, hq, he2, hpw⟩ := sort_out ht.length hkk h1 h2
  obtain ⟨ep', he'⟩ := PyProof.Rows.sortedHeap_at (vs := qs.map Value.ref) (out := (arrOf st').map (·.2)) hoL
  have hlen : ((qk.map (·.1)).map V.ref).length ≤ sizeLine := by rw [List.length_map, List.length_map, hq.length_eq, List.length_zip]; omega
  refine wpAny_pure ⟨_, rfl, .ref _, upd H h'.objs.size (.lst ((qk.map (·.1)).map V.ref)), I1.laid (t' := tk) (fun b o e => ?_) (Nat.le_refl _) ⟨hlen, ((arrOf st').map (·.2)).toList, ep', ?_, ?_⟩, rfl, q _ (qk.map (·.2)) _ ?_ hpw (TupsAt.zip_of fun p m => ht.of_zip p (hq.mem_iff.mp m)) (I1.hok.fresh (Nat.le_refl _))⟩
  · have hlt := Heap.lt_size e
    rw [PyProof.Rows.sortedHeap_old (Nat.ne_of_lt hlt) (by rw [PyProof.Rows.size_push']; exact Nat.lt_succ_of_lt hlt)]
    exact Heap.get?_push_of_some _ e
  · rw [he2]; exact refs_vals _
  · rw [he']
  · have := hq.map (·.2)
    rwa [zip_snd ht.length] at this
end
end L2

set_option Elab.async false
set_option linter.all false
set_option maxRecDepth 100000
set_option maxHeartbeats 4000000
namespace L2
open PySem PySem.Spec PyProof.Rows
/-- {k: v}, k a tuple -/
def tDisp1T (tk tv : TE) : TE := fun σ H Q => ∀ p, H p = none → tPairs [(tk, tv)] σ (upd H p (.dT [])) fun ps H2 => ∃ (k : List Key) (b : Addr) (y : V), ps = [(.ref b, y)] ∧ H2 b = some (.tup (k.map kV)) ∧ H2 p = some (.dT []) ∧ Q (.ref p) (upd H2 p (.dT [(k, y)]))
theorem d_set1 {X : Cx} {pins : List (Addr × Obj)} {σ : St} {H : Hp} {s : Shared} {A : Around} {E : Value → Shared → Prop} {a b : Addr} {k : List Key} {kvs : List (List Key × V)} {v : V} {r : Value} {Q : Unit → Shared → Prop} (hu : A.units < cLine) (I : Inv X pins σ H s) (e : H a = some (.dT kvs)) (eb : H b = some (.tup (k.map kV))) (l : kvs.length < sizeLine) (rv : RelV v r)
    (h : ∀ s', Inv X pins σ (upd H a (.dT (putK kvs k v))) s' → Q () s') : wpAny (model X.prog X.w) A (dictSet a (.ref b) r) Q E s := by
  obtain ⟨z, hd, xs, rel, dd⟩ := dt_of I.hok e
  have hz : xs.length ≤ sizeLine := by rw [← Paired.length rel]; exact z
  have hl : (putK kvs k v).length ≤ sizeLine := by have := length_putK kvs k v; omega
  refine wpAny_dictSet_heap (hsz := hz) (knd := tupleKind (mixKind X.prog X.w)) hu (key_of I.hok eb) dd fun h' dd' hs => h _ ?_
  obtain ⟨q, es, ep, hq, h2, h3, h4, _, h5⟩ := dd'
  refine d_write I (by rw [e]; exact True.intro) hs ⟨q, hq⟩ ⟨hl, hd, _, (rel.put k eb rv).keeps fun c ys ec => ?_, q, es, ep, hq, h2, h3, h4, h5⟩
  rw [upd_ne (ne_of ec e (fun z => nomatch z))]
  exact ec
end L2

set_option Elab.async false
set_option linter.all false
set_option maxRecDepth 100000
set_option maxHeartbeats 4000000
namespace WM
open PySem
/-! tables: stands, least costs -/
abbrev Std := Int × Int
/-- the turns that lead from a place to a sign, rising -/
def tts (l : List Nat) (p : Int) (c : Nat) : List Int :=
  ((List.range (2 * l.length - 1)).filter fun i : Nat => decide (l.getD ((p + (1 - (l.length : Int) + (i : Int))) % (l.length : Int)).toNat 0 = c)).map fun i : Nat => 1 - (l.length : Int) + (i : Int)
theorem mem_tts {l : List Nat} {p : Int} {c : Nat} {t : Int} (hp : 1 ≤ l.length) : t ∈ tts l p c ↔ (-(l.length : Int) < t ∧ t < l.length) ∧ l.getD ((p + t) % (l.length : Int)).toNat 0 = c := by
  unfold tts
  rw [List.mem_map]
  constructor
  · rintro ⟨i, hi, rfl⟩
    obtain ⟨h1, h2⟩ := List.mem_filter.mp hi
    have := List.mem_range.mp h1
    exact ⟨by omega, of_decide_eq_true h2⟩
  · rintro ⟨⟨h1, h2⟩, h3⟩
    refine ⟨(t - (1 - (l.length : Int))).toNat, List.mem_filter.mpr ⟨List.mem_range.mpr (by omega), ?_⟩, by omega⟩
    have e : 1 - (l.length : Int) + ((t - (1 - (l.length : Int))).toNat : Int) = t := by omega
    rw [e]
    exact decide_eq_true h3
theorem tts_len (l : List Nat) (p : Int) (c : Nat) : (tts l p c).length ≤ 2 * l.length := by
  unfold tts
  rw [List.length_map]
  have := List.length_filter_le (fun i : Nat => decide (l.getD ((p + (1 - (l.length : Int) + (i : Int))) % (l.length : Int)).toNat 0 = c)) (List.range (2 * l.length - 1))
  rw [List.length_range] at this
  omega
/-- one stand's ways on, each with its cost -/
def cnd1 (l : List Nat) (s : Int) (x : Std × Int) (t : Int) : Std × Int := (((x.1.1 + t) % (l.length : Int), wb x.1.2 t), x.2 + tc x.1.2 t s)
def cnd (l : List Nat) (c : Nat) (s : Int) (x : Std × Int) : List (Std × Int) := (tts l x.1.1 c).map (cnd1 l s x)
def stp (l : List Nat) (c : Nat) (s : Int) (X : List (Std × Int)) : List (Std × Int) := X.flatMap (cnd l c s)
/-- all plans of a word: where they lead, what they cost -/
def Xs (l : List Nat) (s : Int) (o : List Nat) : List (Std × Int) := o.foldl (fun X c => stp l c s X) [((0, 0), 0)]
theorem Xs_nil (l : List Nat) (s : Int) : Xs l s [] = [((0, 0), 0)] := rfl
theorem Xs_snoc (l : List Nat) (s : Int) (o : List Nat) (c : Nat) : Xs l s (o ++ [c]) = stp l c s (Xs l s o) := by
  unfold Xs
  rw [List.foldl_append]
  rfl
/-- the least cost of a stand -/
def Lst (X : List (Std × Int)) (st : Std) (k : Int) : Prop := (st, k) ∈ X ∧ ∀ k', (st, k') ∈ X → k ≤ k'
theorem Lst.uniq {X : List (Std × Int)} {st : Std} {k k' : Int} (h : Lst X st k) (h' : Lst X st k') : k = k' := Int.le_antisymm (h.2 _ h'.1) (h'.2 _ h.1)
theorem lst_ex {X : List (Std × Int)} {st : Std} : ∀ {k : Int}, (st, k) ∈ X → ∃ k0, Lst X st k0 := by
  induction X with
  | nil => intro k h; cases h
  | cons x X ih =>
    intro k h
    by_cases hx : ∃ k1, (st, k1) ∈ X
    · obtain ⟨k1, h1⟩ := hx
      obtain ⟨k0, h0⟩ := ih h1
      by_cases hs : x.1 = st
      · by_cases hlt : x.2 < k0
        · refine ⟨x.2, by rw [← hs]; exact List.mem_cons_self, fun k' h' => ?_⟩
          rcases List.mem_cons.mp h' with e | h'
          · have : k' = x.2 := congrArg (·.2) e
            omega
          · have := h0.2 _ h'
            omega
        · refine ⟨k0, List.mem_cons_of_mem _ h0.1, fun k' h' => ?_⟩
          rcases List.mem_cons.mp h' with e | h'
          · have : k' = x.2 := congrArg (·.2) e
            omega
          · exact h0.2 _ h'
      · refine ⟨k0, List.mem_cons_of_mem _ h0.1, fun k' h' => ?_⟩
        rcases List.mem_cons.mp h' with e | h'
        · exact absurd (congrArg (·.1) e).symm hs
        · exact h0.2 _ h'
    · rcases List.mem_cons.mp h with e | h
      · refine ⟨k, by rw [e]; exact List.mem_cons_self, fun k' h' => ?_⟩
        rcases List.mem_cons.mp h' with e' | h'
        · rw [← e] at e'
          have : k' = k := congrArg (·.2) e'
          omega
        · exact absurd ⟨k', h'⟩ hx
      · exact absurd ⟨k, h⟩ hx
theorem mem_stp {l : List Nat} {c : Nat} {s : Int} {X : List (Std × Int)} {y : Std × Int} : y ∈ stp l c s X ↔ ∃ x ∈ X, ∃ t ∈ tts l x.1.1 c, cnd1 l s x t = y := by
  unfold stp cnd
  rw [List.mem_flatMap]
  constructor
  · rintro ⟨x, hx, h⟩
    obtain ⟨t, ht, e⟩ := List.mem_map.mp h
    exact ⟨x, hx, t, ht, e⟩
  · rintro ⟨x, hx, t, ht, e⟩
    exact ⟨x, hx, List.mem_map.mpr ⟨t, ht, e⟩⟩
/-- the least of the least is the least -/
theorem lst_stp {l : List Nat} {c : Nat} {s : Int} {X r : List (Std × Int)} (h : ∀ st k, (st, k) ∈ r ↔ Lst X st k) (st : Std) (k : Int) : Lst (stp l c s r) st k ↔ Lst (stp l c s X) st k := by
  have sub : ∀ x, x ∈ r → x ∈ X := fun x hx => ((h x.1 x.2).mp hx).1
  have low : ∀ x, x ∈ X → ∃ k0, (x.1, k0) ∈ r ∧ k0 ≤ x.2 := fun x hx => by
    obtain ⟨k0, h0⟩ := lst_ex (X := X) (st := x.1) (k := x.2) hx
    exact ⟨k0, (h _ _).mpr h0, h0.2 _ hx⟩
  have sub2 : ∀ y, y ∈ stp l c s r → y ∈ stp l c s X := fun y hy => by
    obtain ⟨x, hx, t, ht, e⟩ := mem_stp.mp hy
    exact mem_stp.mpr ⟨x, sub x hx, t, ht, e⟩
  have low2 : ∀ st k, (st, k) ∈ stp l c s X → ∃ k0, (st, k0) ∈ stp l c s r ∧ k0 ≤ k := fun st k hy => by
    obtain ⟨x, hx, t, ht, e⟩ := mem_stp.mp hy
    obtain ⟨k0, h0, hle⟩ := low x hx
    refine ⟨(cnd1 l s (x.1, k0) t).2, mem_stp.mpr ⟨(x.1, k0), h0, t, ht, ?_⟩, ?_⟩
    · have e1 : (cnd1 l s x t).1 = st := congrArg (·.1) e
      rw [← e1]
      rfl
    · have e2 : (cnd1 l s x t).2 = k := congrArg (·.2) e
      rw [← e2]
      show k0 + tc x.1.2 t s ≤ x.2 + tc x.1.2 t s
      omega
  constructor
  · rintro ⟨h1, h2⟩
    refine ⟨sub2 _ h1, fun k' hk' => ?_⟩
    obtain ⟨k0, h0, hle⟩ := low2 st k' hk'
    have := h2 _ h0
    omega
  · rintro ⟨h1, h2⟩
    obtain ⟨k0, h0, hle⟩ := low2 st k h1
    have e : k0 = k := Int.le_antisymm hle (h2 _ (sub2 _ h0))
    subst e
    exact ⟨h0, fun k' hk' => h2 _ (sub2 _ hk')⟩
/-! assoc lists by stands -/
section
variable {β : Type}
def lk (m : List (Std × β)) (st : Std) : Option β := (m.find? fun x => decide (x.1 = st)).map (·.2)
def pt (m : List (Std × β)) (st : Std) (k : β) : List (Std × β) :=
  if (m.any fun x => decide (x.1 = st)) = true then m.map (fun x => if x.1 = st then (x.1, k) else x) else m ++ [(st, k)]
theorem lk_any (m : List (Std × β)) (st : Std) : (m.any fun x => decide (x.1 = st)) = (lk m st).isSome := by
  unfold lk
  rw [Option.isSome_map, List.isSome_find?]
theorem lk_none {m : List (Std × β)} {st : Std} : lk m st = none ↔ ∀ x ∈ m, x.1 ≠ st := by
  unfold lk
  rw [Option.map_eq_none_iff, List.find?_eq_none]
  exact ⟨fun h x hx e => h x hx (decide_eq_true e), fun h x hx e => h x hx (of_decide_eq_true e)⟩
theorem lk_mem {m : List (Std × β)} (nd : (m.map (·.1)).Nodup) {st : Std} {k : β} : lk m st = some k ↔ (st, k) ∈ m := by
  induction m with
  | nil => exact ⟨(fun h => by cases h), (fun h => by cases h)⟩
  | cons x m ih =>
    rw [List.map_cons, List.nodup_cons] at nd
    by_cases e : x.1 = st
    · have : lk (x :: m) st = some x.2 := by unfold lk; rw [List.find?_cons_of_pos (p := fun x : Std × β => decide (x.1 = st)) (decide_eq_true e)]; rfl
      rw [this]
      constructor
      · intro h; cases h; rw [← e]; exact List.mem_cons_self
      · intro h
        rcases List.mem_cons.mp h with h | h
        · rw [← h]
        · exact absurd (List.mem_map.mpr ⟨(st, k), h, e.symm⟩) nd.1
    · have : lk (x :: m) st = lk m st := by unfold lk; rw [List.find?_cons_of_neg (p := fun x : Std × β => decide (x.1 = st)) (by simp [e])]
      rw [this, ih nd.2]
      constructor
      · exact List.mem_cons_of_mem _
      · intro h
        rcases List.mem_cons.mp h with h | h
        · rw [← h] at e; exact absurd rfl e
        · exact h
theorem pt_keys (m : List (Std × β)) (st : Std) (k : β) : (pt m st k).map (·.1) = if (lk m st).isSome = true then m.map (·.1) else m.map (·.1) ++ [st] := by
  unfold pt
  rw [lk_any]
  by_cases h : (lk m st).isSome = true
  · rw [if_pos h, if_pos h, List.map_map]
    apply List.map_congr_left
    intro x _
    show (if x.1 = st then (x.1, k) else x).1 = x.1
    split <;> rfl
  · rw [if_neg h, if_neg h, List.map_append]; rfl
theorem pt_nd {m : List (Std × β)} (nd : (m.map (·.1)).Nodup) (st : Std) (k : β) : ((pt m st k).map (·.1)).Nodup := by
  rw [pt_keys]
  split
  · exact nd
  · rename_i h
    rw [List.nodup_append]
    refine ⟨nd, List.nodup_cons.mpr ⟨List.not_mem_nil, List.nodup_nil⟩, fun a ha b hb => ?_⟩
    rw [List.mem_singleton.mp hb]
    intro e
    subst e
    obtain ⟨x, hx, e⟩ := List.mem_map.mp ha
    have : lk m a = none := by
      cases q : lk m a with
      | none => rfl
      | some v => rw [q] at h; exact absurd rfl h
    exact lk_none.mp this x hx e
theorem pt_mem {m : List (Std × β)} (nd : (m.map (·.1)).Nodup) (st : Std) (k : β) (a : Std) (j : β) : (a, j) ∈ pt m st k ↔ (a = st ∧ j = k) ∨ (a ≠ st ∧ (a, j) ∈ m) := by
  unfold pt
  rw [lk_any]
  by_cases h : (lk m st).isSome = true
  · rw [if_pos h, List.mem_map]
    constructor
    · rintro ⟨x, hx, e⟩
      by_cases q : x.1 = st
      · rw [if_pos q] at e
        cases e
        exact .inl ⟨q, rfl⟩
      · rw [if_neg q] at e
        subst e
        exact .inr ⟨q, hx⟩
    · rintro (⟨rfl, rfl⟩ | ⟨q, hx⟩)
      · obtain ⟨v, hv⟩ := Option.isSome_iff_exists.mp h
        exact ⟨(a, v), (lk_mem nd).mp hv, if_pos rfl⟩
      · exact ⟨(a, j), hx, if_neg q⟩
  · rw [if_neg h, List.mem_append, List.mem_singleton]
    have hn : lk m st = none := by
      cases q : lk m st with
      | none => rfl
      | some v => rw [q] at h; exact absurd rfl h
    constructor
    · rintro (hx | e)
      · exact .inr ⟨lk_none.mp hn _ hx, hx⟩
      · cases e; exact .inl ⟨rfl, rfl⟩
    · rintro (⟨rfl, rfl⟩ | ⟨q, hx⟩)
      · exact .inr rfl
      · exact .inl hx
end
/-- m has the least costs of what was gone through -/
structure MinOf (m xs : List (Std × Int)) : Prop where
  nd : (m.map (·.1)).Nodup
  mem : ∀ st k, (st, k) ∈ m ↔ Lst xs st k
theorem MinOf.nil : MinOf [] [] := ⟨List.nodup_nil, fun st k => ⟨(fun h => by cases h), (fun h => by cases h.1)⟩⟩
theorem MinOf.put {m xs : List (Std × Int)} (h : MinOf m xs) {st : Std} {k : Int} (hk : ∀ k0, lk m st = some k0 → k < k0) : MinOf (pt m st k) (xs ++ [(st, k)]) := by
  refine ⟨pt_nd h.nd st k, fun a j => ?_⟩
  rw [pt_mem h.nd]
  have key : ∀ k', (st, k') ∈ xs → k ≤ k' := fun k' hm => by
    obtain ⟨k0, h0⟩ := lst_ex hm
    have := hk k0 ((lk_mem h.nd).mpr ((h.mem _ _).mpr h0))
    have := h0.2 _ hm
    omega
  constructor
  · rintro (⟨rfl, rfl⟩ | ⟨q, hm⟩)
    · refine ⟨List.mem_append.mpr (.inr (List.mem_singleton.mpr rfl)), fun k' hm => ?_⟩
      rcases List.mem_append.mp hm with hm | hm
      · exact key k' hm
      · have := congrArg (·.2) (List.mem_singleton.mp hm)
        have : k' = j := this
        omega
    · obtain ⟨h1, h2⟩ := (h.mem _ _).mp hm
      refine ⟨List.mem_append.mpr (.inl h1), fun k' hm' => ?_⟩
      rcases List.mem_append.mp hm' with hm' | hm'
      · exact h2 _ hm'
      · exact absurd (congrArg (·.1) (List.mem_singleton.mp hm')) q
  · rintro ⟨h1, h2⟩
    by_cases q : a = st
    · subst q
      refine .inl ⟨rfl, ?_⟩
      have hle := h2 k (List.mem_append.mpr (.inr (List.mem_singleton.mpr rfl)))
      rcases List.mem_append.mp h1 with h1 | h1
      · have := key j h1; omega
      · exact congrArg (·.2) (List.mem_singleton.mp h1)
    · refine .inr ⟨q, (h.mem _ _).mpr ⟨?_, fun k' hm' => h2 _ (List.mem_append.mpr (.inl hm'))⟩⟩
      rcases List.mem_append.mp h1 with h1 | h1
      · exact h1
      · exact absurd (congrArg (·.1) (List.mem_singleton.mp h1)) q
theorem MinOf.skip {m xs : List (Std × Int)} (h : MinOf m xs) {st : Std} {k k0 : Int} (e : lk m st = some k0) (hk : k0 ≤ k) : MinOf m (xs ++ [(st, k)]) := by
  have h0 := (h.mem _ _).mp ((lk_mem h.nd).mp e)
  refine ⟨h.nd, fun a j => ?_⟩
  rw [h.mem]
  constructor
  · rintro ⟨h1, h2⟩
    refine ⟨List.mem_append.mpr (.inl h1), fun k' hm => ?_⟩
    rcases List.mem_append.mp hm with hm | hm
    · exact h2 _ hm
    · have e1 := List.mem_singleton.mp hm
      cases e1
      have := h0.uniq ⟨h1, h2⟩
      omega
  · rintro ⟨h1, h2⟩
    have h2' : ∀ k', (a, k') ∈ xs → j ≤ k' := fun k' hm => h2 _ (List.mem_append.mpr (.inl hm))
    rcases List.mem_append.mp h1 with h1 | h1
    · exact ⟨h1, h2'⟩
    · have e1 := List.mem_singleton.mp h1
      cases e1
      have := h2' _ h0.1
      have ek : k = k0 := by omega
      rw [ek]
      exact h0
/-! rows, sorted -/
def sLt (a b : Std) : Prop := a.1 < b.1 ∨ (a.1 = b.1 ∧ a.2 < b.2)
theorem sLt_asymm {a b : Std} (h : sLt a b) : ¬ sLt b a := by unfold sLt at *; omega
theorem sLt_tri {a b : Std} (h : a ≠ b) : sLt a b ∨ sLt b a := by
  unfold sLt
  obtain ⟨a1, a2⟩ := a
  obtain ⟨b1, b2⟩ := b
  by_cases e : a1 = b1
  · subst e
    have : a2 ≠ b2 := fun e => h (by rw [e])
    dsimp only
    omega
  · dsimp only; omega
structure IsRow (X row : List (Std × Int)) : Prop where
  srt : row.Pairwise fun a b => sLt a.1 b.1
  mem : ∀ st k, (st, k) ∈ row ↔ Lst X st k
theorem IsRow.nd {X r : List (Std × Int)} (h : IsRow X r) : (r.map (·.1)).Nodup := by
  unfold List.Nodup
  rw [List.pairwise_map]
  exact h.srt.imp fun {a b} q e => by rw [e] at q; exact sLt_asymm q q
theorem IsRow.stp {l : List Nat} {c : Nat} {s : Int} {X r r' : List (Std × Int)} (h : IsRow X r) (h' : IsRow (stp l c s r) r') : IsRow (stp l c s X) r' := ⟨h'.srt, fun st k => by rw [h'.mem, lst_stp h.mem]⟩
theorem IsRow.first (l : List Nat) (s : Int) : IsRow (Xs l s []) [((0, 0), 0)] := by
  refine ⟨List.pairwise_singleton _ _, fun st k => ?_⟩
  rw [Xs_nil]
  constructor
  · intro h
    refine ⟨h, fun k' h' => ?_⟩
    have e1 := List.mem_singleton.mp h
    have e2 := List.mem_singleton.mp h'
    cases e1; cases e2
    exact Int.le_refl _
  · exact fun h => h.1
/-! where plans lead -/
structure InW (n : Nat) (st : Std) : Prop where
  p0 : 0 ≤ st.1
  p1 : st.1 < n
  w0 : -1 ≤ st.2
  w1 : st.2 ≤ 1
theorem Xs_in {l : List Nat} {s : Int} (hp : 1 ≤ l.length) : ∀ o x, x ∈ Xs l s o → InW l.length x.1 := by
  intro o
  refine snoc_ind (P := fun o => ∀ x, x ∈ Xs l s o → InW l.length x.1) ?_ ?_ o
  · intro x h
    rw [List.mem_singleton.mp h]
    exact ⟨Int.le_refl _, by show (0 : Int) < l.length; omega, by show (-1 : Int) ≤ 0; decide, by show (0 : Int) ≤ 1; decide⟩
  · intro o c ih x h
    rw [Xs_snoc] at h
    obtain ⟨y, hy, t, _, rfl⟩ := mem_stp.mp h
    have := ih y hy
    obtain ⟨q1, q2⟩ := wb_in (t := t) ⟨this.w0, this.w1⟩
    exact ⟨Int.emod_nonneg _ (by omega), Int.emod_lt_of_pos _ (by omega), q1, q2⟩
theorem nodup_lt : ∀ (n : Nat) {l : List Nat}, l.Nodup → (∀ x ∈ l, x < n) → l.length ≤ n
  | 0, l, _, h => by
    cases l with
    | nil => exact Nat.le_refl _
    | cons a l => exact absurd (h a List.mem_cons_self) (Nat.not_lt_zero _)
  | n + 1, l, nd, h => by
    have h1 := nodup_lt n (l := l.erase n) (nd.erase n) fun x hx => by
      have hx' := (List.Nodup.mem_erase_iff nd).mp hx
      have := h x hx'.2
      omega
    have := List.length_erase (l := l) (a := n)
    by_cases hm : n ∈ l
    · rw [if_pos hm] at this; omega
    · rw [if_neg hm] at this; omega
def code (st : Std) : Nat := (st.1 * 3 + st.2 + 1).toNat
theorem few {n : Nat} {l : List Std} (nd : l.Nodup) (h : ∀ st ∈ l, InW n st) : l.length ≤ 3 * n := by
  have e : (l.map code).length = l.length := List.length_map ..
  rw [← e]
  refine nodup_lt (3 * n) ?_ fun x hx => ?_
  · unfold List.Nodup
    rw [List.pairwise_map]
    refine List.Pairwise.imp_of_mem ?_ nd
    intro a b ha hb hne he
    have h1 := h a ha
    have h2 := h b hb
    have p0 := h1.p0; have p1 := h1.p1; have w0 := h1.w0; have w1 := h1.w1
    have q0 := h2.p0; have q1 := h2.p1; have v0 := h2.w0; have v1 := h2.w1
    unfold code at he
    apply hne
    obtain ⟨a1, a2⟩ := a
    obtain ⟨b1, b2⟩ := b
    dsimp only at *
    have : a1 = b1 := by omega
    have : a2 = b2 := by omega
    congr
  · obtain ⟨st, hs, rfl⟩ := List.mem_map.mp hx
    have h1 := h st hs
    have p0 := h1.p0; have p1 := h1.p1; have w0 := h1.w0; have w1 := h1.w1
    unfold code
    omega
/-- the table -/
def Rows (l : List Nat) (s : Int) (o : List Nat) (rows : List (List (Std × Int))) : Prop := rows.length = o.length + 1 ∧ ∀ i row, rows[i]? = some row → IsRow (Xs l s (o.take i)) row
end WM

set_option Elab.async false
set_option linter.all false
set_option maxRecDepth 100000
set_option maxHeartbeats 4000000
namespace W
open PySem L2 WM
/-! tables in the heap -/
def key (st : Std) : List Key := [.inl st.1, .inl st.2]
theorem key_inj {a b : Std} (h : key a = key b) : a = b := by
  unfold key at h
  injection h with h1 h2
  injection h2 with h3 _
  injection h1 with h1
  injection h3 with h3
  obtain ⟨a1, a2⟩ := a
  obtain ⟨b1, b2⟩ := b
  dsimp only at *
  rw [h1, h3]
theorem key_sh (st : Std) : Shaped (fun _ => false) 0 (key st) ∧ key st ≠ [] := ⟨⟨rfl, rfl, trivial⟩, by intro h; cases h⟩
theorem all2_val {β : Type} {R : Std × β → List Key × V → Prop} (hk : ∀ x kv, R x kv → kv.1 = key x.1) {m : List (Std × β)} {kvs : List (List Key × V)} (h : All2 R m kvs) (st : Std) :
    (lk m st = none ∧ valV kvs (key st) = none) ∨ ∃ k v, lk m st = some k ∧ valV kvs (key st) = some v ∧ R (st, k) (key st, v) := by
  induction h with
  | nil => exact .inl ⟨rfl, rfl⟩
  | @cons x kv m kvs r _ ih =>
    have e := hk _ _ r
    by_cases hs : x.1 = st
    · refine .inr ⟨x.2, kv.2, ?_, valV_pos (by rw [e, hs]), ?_⟩
      · unfold lk
        rw [List.find?_cons_of_pos (p := fun x : Std × β => decide (x.1 = st)) (decide_eq_true hs)]; rfl
      · have e1 : (st, x.2) = x := by rw [← hs]
        have e2 : (key st, kv.2) = kv := by rw [← hs, ← e]
        rw [e1, e2]; exact r
    · have e1 : lk (x :: m) st = lk m st := by unfold lk; rw [List.find?_cons_of_neg (p := fun x : Std × β => decide (x.1 = st)) (by simp [hs])]
      have e2 : valV (kv :: kvs) (key st) = valV kvs (key st) := valV_neg (fun q => hs (key_inj (e.symm.trans q)))
      rw [e1, e2]
      exact ih
theorem all2_put {β : Type} {R : Std × β → List Key × V → Prop} (hk : ∀ x kv, R x kv → kv.1 = key x.1) {m : List (Std × β)} {kvs : List (List Key × V)} (h : All2 R m kvs) {st : Std} {k : β} {v : V} (r : R (st, k) (key st, v)) :
    All2 R (pt m st k) (putK kvs (key st) v) := by
  unfold pt putK
  rw [lk_any, valV_any]
  have hm : ∀ {m : List (Std × β)} {kvs : List (List Key × V)}, All2 R m kvs → All2 R (m.map fun x => if x.1 = st then (x.1, k) else x) (kvs.map fun kv => if kv.1 = key st then (kv.1, v) else kv) := by
    intro m kvs h
    induction h with
    | nil => exact .nil
    | @cons x kv m kvs r' _ ih =>
      have e := hk _ _ r'
      refine .cons ?_ ih
      dsimp only
      by_cases hs : x.1 = st
      · rw [if_pos hs, if_pos (by rw [e, hs])]
        have e2 : (kv.1, v) = (key st, v) := by rw [e, hs]
        rw [hs, e2]; exact r
      · rw [if_neg hs, if_neg (fun q => hs (key_inj (e.symm.trans q)))]
        exact r'
  rcases all2_val hk h st with ⟨e1, e2⟩ | ⟨k', v', e1, e2, _⟩
  · rw [e1, e2, if_neg (by intro z; cases z), if_neg (by intro z; cases z)]
    exact h.snoc r
  · rw [e1, e2, if_pos (show (some k').isSome = true from rfl), if_pos (show (some v').isSome = true from rfl)]
    exact hm h
theorem kLe_key {a b : Std} : kLe (key a) (key b) ↔ ¬ sLt b a := by
  unfold kLe
  show PyProof.Rows.lexLt PyProof.Rows.itemOrd [Sum.inl b.1, Sum.inl b.2] [Sum.inl a.1, Sum.inl a.2] = false ↔ _
  rw [PyProof.Rows.lex_cons, PyProof.Rows.lex_cons]
  show (decide (b.1 < a.1) || (!decide (a.1 < b.1) && (decide (b.2 < a.2) || (!decide (a.2 < b.2) && false)))) = false ↔ _
  unfold sLt
  by_cases h1 : b.1 < a.1
  · simp [h1]
  · by_cases h2 : a.1 < b.1
    · simp [h1, h2]; omega
    · have e : b.1 = a.1 := by omega
      by_cases h3 : b.2 < a.2
      · simp [e, h3]
      · simp [e, h3]
/-- what sorting the keys of a dict tells -/
theorem stds_of {β : Type} {m : List (Std × β)} (nd : (m.map (·.1)).Nodup) {kss : List (List Key)} (hp : kss.Perm ((m.map (·.1)).map key)) (hs : kss.Pairwise kLe) : ∃ sts : List Std, kss = sts.map key ∧ sts.Perm (m.map (·.1)) ∧ sts.Pairwise sLt := by
  obtain ⟨sts, h1, rfl⟩ := perm_map_inv hp rfl
  refine ⟨sts, rfl, h1, ?_⟩
  rw [List.pairwise_map] at hs
  have nd' : sts.Nodup := h1.nodup_iff.mpr nd
  refine List.Pairwise.imp₂ (R := fun a b => a ≠ b) (S := fun a b => kLe (key a) (key b)) ?_ nd' hs
  intro a b hne hle
  rcases sLt_tri hne with h | h
  · exact h
  · exact absurd h (kLe_key.mp hle)
def rowOf (m : List (Std × Int)) (sts : List Std) : List (Std × Int) := sts.map fun st => (st, (lk m st).getD 0)
theorem row_of {m xs : List (Std × Int)} (h : MinOf m xs) {sts : List Std} (hp : sts.Perm (m.map (·.1))) (hs : sts.Pairwise sLt) : IsRow xs (rowOf m sts) := by
  refine ⟨?_, fun st k => ?_⟩
  · unfold rowOf
    rw [List.pairwise_map]
    exact hs
  · unfold rowOf
    rw [List.mem_map]
    constructor
    · rintro ⟨a, ha, e⟩
      cases e
      obtain ⟨x, hx, rfl⟩ := List.mem_map.mp (hp.mem_iff.mp ha)
      have : lk m x.1 = some x.2 := (lk_mem h.nd).mpr hx
      rw [this]
      exact (h.mem _ _).mp hx
    · intro hl
      have hx := (h.mem _ _).mpr hl
      refine ⟨st, hp.mem_iff.mpr (List.mem_map.mpr ⟨_, hx, rfl⟩), ?_⟩
      have : lk m st = some k := (lk_mem h.nd).mpr hx
      rw [this]; rfl
theorem lk_some {m xs : List (Std × Int)} (h : MinOf m xs) {sts : List Std} (hp : sts.Perm (m.map (·.1))) {st : Std} (hs : st ∈ sts) : ∃ k, lk m st = some k ∧ (lk m st).getD 0 = k := by
  obtain ⟨x, hx, rfl⟩ := List.mem_map.mp (hp.mem_iff.mp hs)
  have : lk m x.1 = some x.2 := (lk_mem h.nd).mpr hx
  exact ⟨_, this, by rw [this]; rfl⟩
/-- a row of a table in the heap -/
def Tr3 (H : Hp) (q : Addr) (x : Std × Int) : Prop := H q = some (.tup [.int x.1.1, .int x.1.2, .int x.2])
def RowAt (H : Hp) (a : Addr) (row : List (Std × Int)) : Prop := ∃ qs : List Addr, H a = some (.lst (qs.map V.ref)) ∧ All2 (Tr3 H) qs row
theorem RowAt.same {H H' : Hp} {a : Addr} {row : List (Std × Int)} (s : Same H H') (h : RowAt H a row) : RowAt H' a row := by
  obtain ⟨qs, h1, h2⟩ := h
  exact ⟨qs, s _ _ h1, h2.imp fun q x _ e => s _ _ e⟩
/-- a table in the heap -/
def TabAt (H : Hp) (r : Addr) (rows : List (List (Std × Int))) (as : List Addr) : Prop := H r = some (.lst (as.map V.ref)) ∧ All2 (RowAt H) as rows
/-! as data -/
def d3 (x : Std × Int) : PyData := .tuple [.int x.1.1, .int x.1.2, .int x.2]
def dRow (row : List (Std × Int)) : PyData := .list (row.map d3)
def dTab (rows : List (List (Std × Int))) : PyData := .list (rows.map dRow)
/-- which refusal is due -/
def tsk (l o : List Nat) (s : Int) : Nat := if isWh l = false then 11 else if isW o = false then 12 else if okS s = false then 8 else if o.all (fun c => decide (c ∈ l)) = false then 0 else 99
theorem tsk_ok {l o : List Nat} {s : Int} (h : tsk l o s = 99) : isWh l = true ∧ isW o = true ∧ okS s = true ∧ ∀ c ∈ o, c ∈ l := by
  unfold tsk at h
  cases h1 : isWh l with
  | false => rw [h1, if_pos rfl] at h; cases h
  | true =>
    cases h2 : isW o with
    | false => rw [h1, h2, if_neg (by decide), if_pos rfl] at h; cases h
    | true =>
      cases h3 : okS s with
      | false => rw [h1, h2, h3, if_neg (by decide), if_neg (by decide), if_pos rfl] at h; cases h
      | true =>
        cases h4 : o.all (fun c => decide (c ∈ l)) with
        | false => rw [h1, h2, h3, h4, if_neg (by decide), if_neg (by decide), if_neg (by decide), if_pos rfl] at h; cases h
        | true => exact ⟨rfl, rfl, rfl, fun c hc => of_decide_eq_true (List.all_eq_true.mp h4 c hc)⟩
end W

set_option Elab.async false
set_option linter.all false
set_option maxRecDepth 100000
set_option maxHeartbeats 4000000
namespace W
open PySem L2 WM
theorem cnd1_in {l : List Nat} {s : Int} {x : Std × Int} {t : Int} (hp : 1 ≤ l.length) (h : InW l.length x.1) : InW l.length (cnd1 l s x t).1 := by
  obtain ⟨q1, q2⟩ := wb_in (t := t) ⟨h.w0, h.w1⟩
  exact ⟨Int.emod_nonneg _ (by omega), Int.emod_lt_of_pos _ (by omega), q1, q2⟩
theorem stp_in {l : List Nat} {c : Nat} {s : Int} {X : List (Std × Int)} (hp : 1 ≤ l.length) (h : ∀ x ∈ X, InW l.length x.1) : ∀ x ∈ stp l c s X, InW l.length x.1 := fun y hy => by
  obtain ⟨x, hx, t, _, rfl⟩ := mem_stp.mp hy
  exact cnd1_in hp (h x hx)
theorem min_len {n : Nat} {m xs : List (Std × Int)} (h : MinOf m xs) (hx : ∀ x ∈ xs, InW n x.1) : m.length ≤ 3 * n := by
  have := few (l := m.map (·.1)) h.nd fun st hst => by
    obtain ⟨x, hm, rfl⟩ := List.mem_map.mp hst
    exact hx _ ((h.mem _ _).mp hm).1
  rwa [List.length_map] at this
theorem stp_take {l : List Nat} {c : Nat} {s : Int} {row : List (Std × Int)} {i : Nat} {x : Std × Int} (h : row[i]? = some x) : stp l c s (row.take (i + 1)) = stp l c s (row.take i) ++ cnd l c s x := by
  unfold stp
  rw [List.take_add_one, h, List.flatMap_append]
  simp
theorem refs_of {α β : Type} {R : Addr → β → Prop} {f : α → β} {as : List α} {ys : List V} (h : All2 (fun x y => ∃ q, y = V.ref q ∧ R q (f x)) as ys) : ∃ qs : List Addr, ys = qs.map V.ref ∧ All2 R qs (as.map f) := by
  induction h with
  | nil => exact ⟨[], rfl, .nil⟩
  | cons r _ ih =>
    obtain ⟨q, rfl, hq⟩ := r
    obtain ⟨qs, rfl, hqs⟩ := ih
    exact ⟨q :: qs, rfl, .cons hq hqs⟩
theorem zip_refs : ∀ {qs : List Addr} {sts : List Std}, qs.length = sts.length → (qs.zip sts).map (fun x => V.ref x.1) = qs.map V.ref
  | [], [], _ => rfl
  | [], _ :: _, h => by cases h
  | _ :: _, [], h => by cases h
  | q :: qs, s :: sts, h => by
    show V.ref q :: (qs.zip sts).map (fun x => V.ref x.1) = _
    rw [zip_refs (Nat.succ.inj h)]; rfl
theorem RowAt.upd {H : Hp} {a r : Addr} {row : List (Std × Int)} {o : HO} {xs : List V} (h : RowAt H a row) (n : a ≠ r) (hr : H r = some (.lst xs)) : RowAt (L2.upd H r o) a row := by
  obtain ⟨qs, h1, h2⟩ := h
  refine ⟨qs, by rw [upd_ne n]; exact h1, h2.imp fun q x _ e => ?_⟩
  unfold Tr3
  rw [upd_ne (ne_of e hr (fun z => nomatch z))]
  exact e
/-- the program's dict of least costs -/
def RI (x : Std × Int) (kv : List Key × V) : Prop := kv = (key x.1, .int x.2)
theorem RI.k (x : Std × Int) (kv : List Key × V) (h : RI x kv) : kv.1 = key x.1 := by rw [h]
theorem RI.keys {m : List (Std × Int)} {kvs : List (List Key × V)} (h : All2 RI m kvs) : kvs.map (·.1) = (m.map (·.1)).map key := by
  induction h with
  | nil => rfl
  | cons r _ ih => rw [List.map_cons, List.map_cons, List.map_cons, ih, r]
end W

set_option Elab.async false
set_option linter.all false
set_option maxRecDepth 100000
set_option maxHeartbeats 4000000
namespace WM
open PySem
/-! least costs with how many plans have them -/
abbrev Wt := (Std × Int) × Int
/-- how much a stand and a cost weigh -/
def wc (xs : List Wt) (y : Std × Int) : Int := (xs.map fun x => if x.1 = y then x.2 else 0).sum
structure MinC (m : List (Std × (Int × Int))) (xs : List Wt) : Prop where
  nd : (m.map (·.1)).Nodup
  mem : ∀ st k c, (st, (k, c)) ∈ m ↔ Lst (xs.map (·.1)) st k ∧ c = wc xs (st, k)
/-- one sign on, with weights -/
def cndW (l : List Nat) (c : Nat) (s : Int) (x : Std × (Int × Int)) : List Wt := (cnd l c s (x.1, x.2.1)).map fun y => (y, x.2.2)
def stpW (l : List Nat) (c : Nat) (s : Int) (r : List (Std × (Int × Int))) : List Wt := r.flatMap (cndW l c s)
/-- how many plans lead to a stand at a cost -/
def cn (X : List (Std × Int)) (y : Std × Int) : Int := (X.count y : Nat)
/-- a dict of least costs and counts of all plans that were gone through -/
structure IsC (m : List (Std × (Int × Int))) (X : List (Std × Int)) : Prop where
  nd : (m.map (·.1)).Nodup
  mem : ∀ st k c, (st, (k, c)) ∈ m ↔ Lst X st k ∧ c = cn X (st, k)
/-- plans from a place -/
def Xf (l : List Nat) (s : Int) (p : Int) (o : List Nat) : List (Std × Int) := o.foldl (fun X c => stp l c s X) [((p, 0), 0)]
theorem Xf_zero (l : List Nat) (s : Int) (o : List Nat) : Xf l s 0 o = Xs l s o := rfl
/-! all plans, as lists of turns -/
def Pl (l : List Nat) (o : List Nat) : List (List Int × Int) := o.foldl (fun X c => X.flatMap fun x => (tts l x.2 c).map fun t => (x.1 ++ [t], (x.2 + t) % (l.length : Int))) [([], 0)]
def plX (s : Int) (x : List Int × Int) : Std × Int := ((x.2, (cf s x.1).2), (cf s x.1).1)
end WM

set_option Elab.async false
set_option linter.all false
set_option maxRecDepth 100000
set_option maxHeartbeats 4000000
namespace L2
open PySem WM
section
variable {g : TG} {tb : TS} {D : Ends} {σ : St} {H : Hp}
end
end L2

set_option Elab.async false
set_option linter.all false
set_option maxRecDepth 100000
set_option maxHeartbeats 4000000
namespace W
open PySem L2 WM
/-! plans in the heap -/
def plS (l : List Nat) (c : Nat) (x : List Int × Int) : List (List Int × Int) := (tts l x.2 c).map fun t => (x.1 ++ [t], (x.2 + t) % (l.length : Int))
def PlanAt (H : Hp) (q : Addr) (x : List Int × Int) : Prop := ∃ a, H q = some (.tup [.ref a, .int x.2]) ∧ H a = some (.lst (x.1.map V.int))
end W

set_option Elab.async false
set_option linter.all false
set_option maxRecDepth 100000
set_option maxHeartbeats 4000000
namespace W
open PySem L2 WM
/-! the law's dicts of least costs and counts -/
def RC (H : Hp) (x : Std × (Int × Int)) (kv : List Key × V) : Prop := kv.1 = key x.1 ∧ ∃ q, kv.2 = .ref q ∧ H q = some (.tup [.int x.2.1, .int x.2.2])
theorem RC.k (H : Hp) (x : Std × (Int × Int)) (kv : List Key × V) (h : RC H x kv) : kv.1 = key x.1 := h.1
theorem RC.same {H H' : Hp} {x : Std × (Int × Int)} {kv : List Key × V} (s : ∀ q xs, H q = some (.tup xs) → H' q = some (.tup xs)) (h : RC H x kv) : RC H' x kv := by
  obtain ⟨h1, q, h2, h3⟩ := h
  exact ⟨h1, q, h2, s _ _ h3⟩
def DicAt (H : Hp) (d : Addr) (m : List (Std × (Int × Int))) : Prop := ∃ kvs, H d = some (.dT kvs) ∧ All2 (RC H) m kvs
theorem DicAt.same {H H' : Hp} {d : Addr} {m : List (Std × (Int × Int))} (s : Same H H') (h : DicAt H d m) : DicAt H' d m := by
  obtain ⟨kvs, h1, h2⟩ := h
  exact ⟨kvs, s _ _ h1, h2.imp fun x kv _ e => e.same fun q xs e => s _ _ e⟩
theorem DicAt.updL {H : Hp} {d r : Addr} {m : List (Std × (Int × Int))} {o : HO} {xs : List V} (h : DicAt H d m) (hr : H r = some (.lst xs)) : DicAt (L2.upd H r o) d m := by
  obtain ⟨kvs, h1, h2⟩ := h
  refine ⟨kvs, by rw [upd_ne (ne_of h1 hr (fun z => nomatch z))]; exact h1, h2.imp fun x kv _ e => e.same fun q ys e => ?_⟩
  rw [upd_ne (ne_of e hr (fun z => nomatch z))]
  exact e
/-- rows as the law reckons them -/
def RowsC (l : List Nat) (s p : Int) (o : List Nat) (ms : List (List (Std × (Int × Int)))) : Prop := ms.length = o.length + 1 ∧ ∀ i m, ms[i]? = some m → IsC m (Xf l s p (o.take i))
theorem last_at {as : List Addr} {i : Nat} {b : Addr} (hl : as.length = i + 1) (hb : as[i]? = some b) : atI (as.map V.ref) (-1) = some (.ref b) := by
  have e : as.map V.ref = (as.map V.ref).take i ++ [V.ref b] := by
    have := List.take_add_one (l := as.map V.ref) (i := i)
    rw [List.getElem?_map, hb] at this
    have e2 : (as.map V.ref).take (i + 1) = as.map V.ref := List.take_of_length_le (by rw [List.length_map]; omega)
    rw [e2] at this
    exact this
  rw [e]
  exact atI_last _ _
end W

set_option Elab.async false
set_option linter.all false
set_option maxRecDepth 100000
set_option maxHeartbeats 4000000
namespace L2
open PySem WM
section
variable {K : PySem.W.Frag} {a D : Addr} {g : TG} {tt : TT} {te : TE} {vs : List Nat} {σ : St} {H1 : Hp} {Qd : Hp → Prop} {α : Type}
end
end L2
namespace W
open PySem L2 WM
theorem signs_of_vs {l : List Nat} {ys : List V} (h : ∀ y ∈ ys, ∃ c ∈ l, y = V.str (txt [c])) : ∃ o : List Nat, ys = (o.map fun c => txt [c]).map V.str ∧ o.length = ys.length ∧ ∀ c ∈ o, c ∈ l := by
  induction ys with
  | nil => exact ⟨[], rfl, rfl, fun c hc => by cases hc⟩
  | cons y ys ih =>
    obtain ⟨c, hc, rfl⟩ := h y List.mem_cons_self
    obtain ⟨o, h1, h2, h3⟩ := ih fun z m => h z (List.mem_cons_of_mem _ m)
    refine ⟨c :: o, by rw [h1]; rfl, by rw [List.length_cons, List.length_cons, h2], fun d hd => ?_⟩
    rcases List.mem_cons.mp hd with rfl | hd
    · exact hc
    · exact h3 d hd
theorem sum_ones (l : List Nat) : ((l.map fun c => txt [c]).map fun x : Str => x.length).sum = l.length := by
  induction l with
  | nil => rfl
  | cons a r ih =>
    rw [List.map_cons, List.map_cons, List.sum_cons, ih, txt_length]
    show 1 + r.length = r.length + 1
    omega
theorem tsk_99 {l o : List Nat} {s : Int} (hW : Wheel l) (ho : o.length ≤ 80) (hin : ∀ c ∈ o, c ∈ l) (s0 : 0 ≤ s) (s9 : s ≤ 9) : tsk l o s = 99 := by
  unfold tsk
  have h1 : isWh l = true := isWh_of hW
  have h2 : isW o = true := isW_iff.mpr ⟨ho, fun c hc => hW.low c (hin c hc)⟩
  have h3 : okS s = true := by unfold okS; rw [decide_eq_true s0, decide_eq_true s9]; rfl
  have h4 : o.all (fun c => decide (c ∈ l)) = true := List.all_eq_true.mpr fun c hc => decide_eq_true (hin c hc)
  rw [h1, h2, h3, h4, if_neg (by decide), if_neg (by decide), if_neg (by decide), if_neg (by decide)]
end W

set_option Elab.async false
set_option linter.all false
set_option maxRecDepth 100000
set_option maxHeartbeats 4000000
namespace L2
open PySem PySem.Spec PyProof.Rows
/-- a dict's entry is set -/
theorem d_putS {X : Cx} {pins : List (Addr × Obj)} {σ : St} {H H' : Hp} {s : Shared} {A : Around} {E : Value → Shared → Prop} {a : Addr} {y v : V} {u r : Value} {Q : Unit → Shared → Prop} (hu : A.units < cLine) (I : Inv X pins σ H s) (g : DPut H a y v H') (ry : RelV y u) (rv : RelV v r)
    (h : ∀ s', Inv X pins σ H' s' → Q () s') : wpAny (model X.prog X.w) A (dictSet a u r) Q E s := by
  rcases g with ⟨kvs, k, e, ey, l, eH⟩ | ⟨kvs, k, b, e, ey, eb, l, eH⟩
  · subst ey eH
    obtain ⟨z, hd, vs, rel, dd⟩ := dk_of I.hok e
    have hz : vs.length ≤ sizeLine := by rw [← rel.length]; exact z
    have hl : (putK kvs k v).length ≤ sizeLine := by have := length_putK kvs k v; omega
    refine wpAny_dictSet_pairs (hsz := hz) (kV_is ry) dd fun h' dd' hs => h _ ?_
    have he : ∃ q, h'.get? a = some q := let ⟨q, _, _, hq, _⟩ := dd'; ⟨q, hq⟩
    exact d_write I (by rw [e]; exact True.intro) hs he (dk_new hl hd (rel.put k rv) dd')
  · subst ey eH
    cases (show u = Value.ref b from ry)
    exact d_set1 hu I e eb l rv h
def NewD (e : HO) : Prop := e = .dT [] ∨ e = .dK []
theorem NewD.ok {P : Program} {w : World} {H : Hp} {e : HO} (n : NewD e) (h : Heap) (hb : sysModules < h.objs.size) : ObjOk P w H (h.push { cls := .type "dict", data := .dict #[] }) h.objs.size e := by
  rcases n with rfl | rfl
  · exact dt_empty h hb
  · exact dk_empty h hb
theorem compLoop_anyD {prog : Program} {w : World} {A : Around} {R : Result → Shared → Prop} {s : Shared} {kx elt target iter : Expr} {ifs : List Expr} {scope : Scope} {pos : Pos} {it : Value} {acc : Addr} {env : Env} (I : Nat → Shared → Prop)
    (turn : ∀ n s, I n s → wpAny (model prog w) A (pyNext it) (fun r s₁ => match r with
      | none => R (.ok .next) s₁
      | some v => wpAny (model prog w) A (letOwnedTupleGo target it v) (fun _ s₁' => wpAny (model prog w) A (assign target env v) (fun _ s₂ =>
          wpAny (model prog w) A (forIn ifs true fun c r => if r = true then do let ok ← isTrue c env (eval c env); pure (ForInStep.yield ok) else pure (ForInStep.yield r)) (fun ok s₃ =>
            if ok = true then wpAny (model prog w) A (eval kx env) (fun kv s₄ => wpAny (model prog w) A (eval elt env) (fun vv s₅ =>
              wpAny (model prog w) A (dictSet acc kv vv) (fun _ s₆ => ∃ m, m < n ∧ I m s₆) (notedBy (model prog w) A env fun e s' => R (.error e) s') s₅) (notedBy (model prog w) A env fun e s' => R (.error e) s') s₄) (notedBy (model prog w) A env fun e s' => R (.error e) s') s₃
            else ∃ m, m < n ∧ I m s₃) (notedBy (model prog w) A env fun e s' => R (.error e) s') s₂) (notedBy (model prog w) A env fun e s' => R (.error e) s') s₁') (notedBy (model prog w) A env fun e s' => R (.error e) s') s₁) (notedBy (model prog w) A env fun e s' => R (.error e) s') s)
    (n : Nat) (h : I n s) :
    codeAny (model prog w) A (.compLoop (.DictComp kx elt [⟨target, iter, ifs, 0⟩] scope pos) 0 it (.ref acc) env) R s := by
  refine codeAny_loop rfl I (fun n s hI => ?_) n h
  show wpAny _ A ((compTurn (.DictComp kx elt [⟨target, iter, ifs, 0⟩] scope pos) 0 it (.ref acc) env).onRaise (fun x => do noteFrame x env; theTreesLotGoes x)) _ _ s
  refine wpAny_noted ?_
  rw [compTurn_dict]
  refine wpAny_bind (wpAny_standAt (wpAny_bind (wpAny_mono (turn n s hI) (fun r s₁ h₁ => ?_) fun _ _ h' => h')))
  cases r with
  | none => exact wpAny_pure h₁
  | some v =>
    refine wpAny_bind (wpAny_mono h₁ (fun _ s₁' h₁' => ?_) fun _ _ h' => h')
    refine wpAny_bind (wpAny_mono h₁' (fun _ s₂ h₂ => wpAny_bind (wpAny_mono h₂ (fun ok s₃ h₃ => ?_) fun _ _ h' => h')) fun _ _ h' => h')
    cases ok with
    | false => exact wpAny_pure ⟨rfl, h₃⟩
    | true =>
      exact wpAny_bind (wpAny_bind (wpAny_mono h₃ (fun kv s₄ h₄ => wpAny_bind (wpAny_holding (wpAny_mono h₄ (fun vv s₅ h₅ => wpAny_bind (wpAny_standAt (wpAny_holding (wpAny_mono h₅ (fun _ s₆ h₆ => wpAny_pure ⟨rfl, h₆⟩) fun _ _ h' => h')))) fun _ _ h' => h'))) fun _ _ h' => h'))

section
variable {X : Cx}
def tDc (e0 : HO) (wi : TI) (g : TG) (tt : TT) (tk te : TE) (vs : List Nat) : TE := fun σ H Q => wi σ H fun J H1 => ∀ D, H1 D = none → ∃ W : Nat → Nat → Hp → Prop, (∃ m, W 0 m (upd H1 D e0)) ∧ ∀ i m H, W i m H →
  (J.stop i H ∧ Q (.ref D) H) ∨ (J.go i H ∧ ∃ Nx : Hp → Prop, (∀ H', Nx H' → ∃ m', m' < m ∧ W (i + 1) m' H') ∧ ∀ x H', J.yld i H x H' → g x (wipe σ vs) H' fun σ2 H2 => wipe σ2 vs = wipe σ vs ∧ tt σ2 H2 fun b H3 =>
    if b = true then tk σ2 H3 fun x H4 => te σ2 H4 fun y H5 => ∃ H6, DPut H5 D x y H6 ∧ Nx H6 else Nx H3)
theorem dc_core {pins : List (Addr × Obj)} {s : Shared} {σ : St} {H : Hp} {Q : VK} {kx elt tg iter : Expr} {ifs : List Expr} {scope : Scope} {own : List (Str × Nat)} {pos pos' : Pos} {wi : TI} {g : TG} {tt : TT} {tk te : TE} {e0 : HO} {use : Option (Value → Sem Unit)} {Qf : Value → Shared → Prop}
    (hc : X.calm = true) (hu : X.A.units < cLine) (hd0 : NewD e0) (hN : X.N.Nodup) (I : Inv X pins σ H s) (hi : PI X tg iter wi) (ok : BlkOk X.N X.env.scope scope own)
    (hg : ∀ (s : Shared) (H : Hp) (C : Addr) (cl : List (Str × Addr)) (fp : List Addr), PG (X.blk s H scope (compEnvC scope cl C X.env) fp) tg g) (ht : ∀ (s : Shared) (H : Hp) (C : Addr) (cl : List (Str × Addr)) (fp : List Addr), PTs (X.blk s H scope (compEnvC scope cl C X.env) fp) ifs tt)
    (hk : ∀ (s : Shared) (H : Hp) (C : Addr) (cl : List (Str × Addr)) (fp : List Addr), PE (X.blk s H scope (compEnvC scope cl C X.env) fp) kx tk) (he : ∀ (s : Shared) (H : Hp) (C : Addr) (cl : List (Str × Addr)) (fp : List Addr), PE (X.blk s H scope (compEnvC scope cl C X.env) fp) elt te) (hs : ∀ x, foldedSetIterable iter X.env x = pure x)
    (h : tDc e0 wi g tt tk te (own.map (·.2)) σ H Q)
    (hRR : ∀ D C s' m H', Inv X pins σ H' s' → Q (.ref D) H' → s'.heap.Ns C m → FpOk X pins H' C → compPost (model X.prog X.w) X.A X.xe use Qf (.ref D) C (.ok .next) s') :
    wpAny (model X.prog X.w) X.A (comprehension (.DictComp kx elt [⟨tg, iter, ifs, 0⟩] scope pos) scope X.env pos' (newDict) false (eval iter X.env) use) Qf X.xe s := by
  have hfree : ∀ y ∈ scope.names, y.2 = .free → ∃ c, X.env.cells.lookup y.1 = some c := fun y hy e => by
    rcases ok.free y hy e with k | k
    · exact I.ok.has _ (.inl k)
    · exact I.ok.has _ (.inr k)
  refine wpAny_comprehension_free (use := use) rfl hs (closure_ok hfree) ok.kind (fun y hy e => by rw [ok.uniq y hy, e])
    (thn (hi pins s σ H _ I h) fun xv s1 hx => thn hx fun itv s2 h2 => ?_)
  obtain ⟨it, fp, tn, J, H2, e, I2, T, st2, f2, q⟩ := h2
  subst e
  refine wpAny_newObj_type (newEnv_comp ?_)
  generalize hD : s2.heap.objs.size = D
  have hDn : H2 D = none := I2.hok.fresh (Nat.le_of_eq hD)
  obtain ⟨W, ⟨m0, w0⟩, turn⟩ := q D hDn
  -- the new list
  generalize hs3 : ({ s2 with heap := s2.heap.push { cls := .type "dict", data := .dict #[] } } : Shared) = s3
  have I3 : Inv X pins σ (upd H2 D e0) s3 := by
    rw [← hs3]
    refine I2.laid (t' := s2.toks) (fun b o e => Heap.get?_push_of_some _ e) (Nat.le_of_eq hD) ?_
    rw [← hD]
    exact hd0.ok _ I2.big
  have h3 : s3.heap = s2.heap.push { cls := .type "dict", data := .dict #[] } := by rw [← hs3]
  have sz : ∀ b ∈ fp, b < s2.heap.objs.size := fun b hb => by
    obtain ⟨o, e, _⟩ := T.obj _ _ st2 b hb
    exact Heap.lt_size e
  have f3 : ∀ b ∈ fp, FpOk X pins (upd H2 D e0) b ∧ b < s3.heap.objs.size := fun b hb => by
    have hlt := sz b hb
    refine ⟨⟨?_, (f2 b hb).2⟩, by rw [h3, Heap.size_push]; exact Nat.lt_succ_of_lt hlt⟩
    rw [upd_ne (by rw [← hD]; exact Nat.ne_of_lt hlt)]
    exact (f2 b hb).1
  have st3 : tn 0 s3.heap := T.keep _ _ _ st2 fun b _ o e => by rw [h3]; exact Heap.get?_push_of_some _ e
  have I4 := block_start I3 ok hN f3
  have pg := hg s3 (upd H2 D e0) s3.heap.objs.size (cellsFrom (s3.heap.objs.size + 1) scope.names (cloFrom X.env.cells scope.names [])) fp
  have pt := ht s3 (upd H2 D e0) s3.heap.objs.size (cellsFrom (s3.heap.objs.size + 1) scope.names (cloFrom X.env.cells scope.names [])) fp
  have pk := hk s3 (upd H2 D e0) s3.heap.objs.size (cellsFrom (s3.heap.objs.size + 1) scope.names (cloFrom X.env.cells scope.names [])) fp
  have pe := he s3 (upd H2 D e0) s3.heap.objs.size (cellsFrom (s3.heap.objs.size + 1) scope.names (cloFrom X.env.cells scope.names [])) fp
  show codeAny _ _ (.compStart (.DictComp kx elt [⟨tg, iter, ifs, 0⟩] scope pos) 0 (.ref it) (.ref D) (compEnvC scope (cellsFrom (s3.heap.objs.size + 1) scope.names (cloFrom X.env.cells scope.names [])) s3.heap.objs.size X.env)) (compPost (model X.prog X.w) X.A X.xe use Qf (.ref D) s3.heap.objs.size) { s3 with heap := pushCells (s3.heap.push { cls := .type "dict", data := .dict #[] }) scope.names }
  have nfp : ∀ b ∈ fp, (upd H2 D e0) b = none := fun b hb => (f3 b hb).1.1
  generalize hce : compEnvC scope (cellsFrom (s3.heap.objs.size + 1) scope.names (cloFrom X.env.cells scope.names [])) s3.heap.objs.size X.env = ce at I4 pg pt pk pe ⊢
  have cL : ce.locals = s3.heap.objs.size := by subst hce; rfl
  generalize hH3 : upd H2 D e0 = H3 at I3 I4 pg pt pk pe w0 nfp f3
  generalize hs4 : ({ s3 with heap := pushCells (s3.heap.push { cls := .type "dict", data := .dict #[] }) scope.names } : Shared) = s4 at I4 ⊢
  have st4 : tn 0 s4.heap := T.keep _ _ _ st3 fun b _ o e => by rw [← hs4]; exact pushCells_keeps _ _ _ _ (Heap.get?_push_of_some _ e)
  have stat : ∀ {σ' : St} {H' : Hp} {s' : Shared}, Inv (X.blk s3 H3 scope ce fp) [] σ' H' s' → (∀ b ∈ fp, H' b = none) → ∀ b ∈ fp, FpOk (X.blk s3 H3 scope ce fp) [] H' b := fun {σ' H' s'} I' hn b hb =>
    ⟨hn b hb, (I'.ok.exf b hb).1, I'.ok.exfs b hb, .inl hb, fun x c e => (I'.ok.exf b hb).2 x c e, fun p hp => absurd (show p ∈ ([] : List (Addr × Obj)) ++ [] from hp) (by simp)⟩
  have loop : codeAny (model X.prog X.w) X.A (.compLoop (.DictComp kx elt [⟨tg, iter, ifs, 0⟩] scope pos) 0 (.ref it) (.ref D) ce) (compPost (model X.prog X.w) X.A X.xe use Qf (.ref D) s3.heap.objs.size) s4 := by
    refine compLoop_anyD (fun n s' => ∃ i H', Inv (X.blk s3 H3 scope ce fp) [] (wipe σ (own.map (·.2))) H' s' ∧ tn i s'.heap ∧ (∀ b ∈ fp, H' b = none) ∧ W i n H') ?_ m0 ⟨0, H3, I4, st4, nfp, w0⟩
    rintro n s5 ⟨i, H5, I5, st5, n5, w5⟩
    rcases turn i n H5 w5 with ⟨stop, qq⟩ | ⟨go, Nx, hNx, step⟩
    · have td := T.done (X.blk s3 H3 scope ce fp) rfl rfl rfl hc i [] s5 _ H5 (fun _ _ => False) I5 (stat I5 n5) st5 stop
      refine thnF td fun r s6 ⟨hr, I6⟩ => ?_
      subst hr
      -- back in the def's context
      have I7 : Inv X pins σ H5 s6 := I3.call' (ch := fp) I6.os I6.base I6.hok I6.bare fun b hb => ⟨(f3 b hb).1.2.2.2.1, (f3 b hb).1.2.1, (f3 b hb).1.2.2.2.2.1, (f3 b hb).1.2.2.2.2.2⟩
      have nC : H5 s3.heap.objs.size = none := by
        have z : H5 ce.locals = none := I6.free
        rw [cL] at z
        exact z
      obtain ⟨m, hn, _⟩ := I6.loc
      have hn : s6.heap.Ns ce.locals m := hn
      rw [cL] at hn
      exact hRR D s3.heap.objs.size s6 m H5 I7 qq hn (I3.fpOk (Nat.le_refl _) nC)
    · have ti := T.item (X.blk s3 H3 scope ce fp) rfl rfl rfl hc i [] s5 _ H5 (fun _ _ => False) I5 (stat I5 n5) st5 go
      refine thnF ti fun r s6 ⟨u, hr, h6⟩ => ?_
      subst hr
      refine thnF h6 fun _ s7 ⟨x, H7, I7, r7, y7, st7, n7⟩ => ?_
      have I7' := I7.pinned (stat I7 n7) (T.obj _ _ st7)
      refine thnF (pg _ s7 _ H7 x u _ I7' r7 (step x H7 y7)) fun _ s8 ⟨σ8, H8, I8, hw8, q8⟩ => ?_
      refine thnF (pt _ s8 σ8 H8 _ I8 q8) fun b s9 ⟨H9, I9, q9⟩ => ?_
      -- the turn's end
      have fin : ∀ {s' : Shared} {H' : Hp}, Inv (X.blk s3 H3 scope ce fp) ([] ++ pinsAt fp s7.heap) σ8 H' s' → Nx H' → ∃ m, m < n ∧ ∃ i H', Inv (X.blk s3 H3 scope ce fp) [] (wipe σ (own.map (·.2))) H' s' ∧ tn i s'.heap ∧ (∀ b ∈ fp, H' b = none) ∧ W i m H' := fun {s' H'} I' nx => by
        obtain ⟨m', hm, w'⟩ := hNx H' nx
        have pin' : ∀ b ∈ fp, ∀ o, s7.heap.get? b = some o → s'.heap.get? b = some o ∧ H' b = none := fun b hb o e =>
          let z := I'.pin (b, o) (List.mem_append_right _ (List.mem_append_right _ (mem_pinsAt hb e)))
          ⟨z.1, z.2.1⟩
        have hl : (wipe σ (own.map (·.2))).length = σ8.length := by rw [← hw8, wipe_length]
        refine ⟨m', hm, i + 1, H', (I'.unpinned (pins := [])).weak hl (fun j v e => ?_), T.keep _ _ _ st7 fun b hb o e => (pin' b hb o e).1, fun b hb => ?_, w'⟩
        · rw [← hw8] at e
          exact (wipe_some e).1
        · obtain ⟨o, e, _⟩ := T.obj _ _ st7 b hb
          exact (pin' b hb o e).2
      cases b with
      | false =>
        simp only [Bool.false_eq_true, if_false] at q9 ⊢
        exact fin I9 q9
      | true =>
        simp only [if_true] at q9 ⊢
        refine thnF (pk _ s9 σ8 H9 _ I9 q9) fun zk s10 ⟨xv, H10, I10, r10, q10⟩ => ?_
        refine thnF (pe _ s10 σ8 H10 _ I10 q10) fun z s11 ⟨yv, H11, I11, r11, H12, g12, nx⟩ => ?_
        exact d_putS (X := X.blk s3 H3 scope ce fp) hu I11 g12 r10 r11 fun s12 I12 => fin I12 nx
  exact codeAny_compStart_dict loop (T.self X.A 0 _ _ _ st4 loop)
end
theorem compTurn2_outD (kx elt t0 i0 t1 i1 : Expr) (ifs0 ifs1 : List Expr) (scope : Scope) (pos : Pos) (it : Value) (acc : Addr) (env : Env) :
    compTurn (.DictComp kx elt [⟨t0, i0, ifs0, 0⟩, ⟨t1, i1, ifs1, 0⟩] scope pos) 0 it (.ref acc) env = (do
      standAt i0.pos
      match ← pyNext it with
      | none => pure (.done .next)
      | some v =>
        letOwnedTupleGo t0 it v
        assign t0 env v
        let mut ok := true
        for c in ifs0 do
          if ok then ok ← isTrue c env (eval c env)
        if ok then
          let x ← eval i1 env
          standAt i1.pos
          let x ← foldedSetIterable i1 env x
          let _ ← runOwn (.compStart (.DictComp kx elt [⟨t0, i0, ifs0, 0⟩, ⟨t1, i1, ifs1, 0⟩] scope pos) 1 (← holding [x] (pyIter x)) (.ref acc) env) env
        again (.compLoop (.DictComp kx elt [⟨t0, i0, ifs0, 0⟩, ⟨t1, i1, ifs1, 0⟩] scope pos) 0 it (.ref acc) env)) := by rfl
theorem compTurn2_inD (kx elt t0 i0 t1 i1 : Expr) (ifs0 ifs1 : List Expr) (scope : Scope) (pos : Pos) (it : Value) (acc : Addr) (env : Env) :
    compTurn (.DictComp kx elt [⟨t0, i0, ifs0, 0⟩, ⟨t1, i1, ifs1, 0⟩] scope pos) 1 it (.ref acc) env = (do
      standAt i1.pos
      match ← pyNext it with
      | none => pure (.done .next)
      | some v =>
        letOwnedTupleGo t1 it v
        assign t1 env v
        let mut ok := true
        for c in ifs1 do
          if ok then ok ← isTrue c env (eval c env)
        if ok then
          (do
            let kv ← eval kx env
            let vv ← holding [kv] (eval elt env)
            standAt { kx.pos with endLine := elt.pos.endLine, endCol := elt.pos.endCol }
            holding [kv, vv] (dictSet acc kv vv))
        again (.compLoop (.DictComp kx elt [⟨t0, i0, ifs0, 0⟩, ⟨t1, i1, ifs1, 0⟩] scope pos) 1 it (.ref acc) env)) := by rfl

section
variable {prog : Program} {w : World} {A : Around} {R : Result → Shared → Prop} {s : Shared} {kx elt t0 i0 t1 i1 : Expr} {ifs0 ifs1 : List Expr} {scope : Scope} {pos : Pos} {it : Value} {acc : Addr} {env : Env}
/-- the loop of the first clause -/
theorem compLoop2_outD (hs : ∀ x, foldedSetIterable i1 env x = pure x) (I : Nat → Shared → Prop)
    (turn : ∀ n s, I n s → wpAny (model prog w) A (pyNext it) (fun r s₁ => match r with
      | none => R (.ok .next) s₁
      | some v => wpAny (model prog w) A (letOwnedTupleGo t0 it v) (fun _ s₁' => wpAny (model prog w) A (assign t0 env v) (fun _ s₂ =>
          wpAny (model prog w) A (forIn ifs0 true fun c r => if r = true then do let ok ← isTrue c env (eval c env); pure (ForInStep.yield ok) else pure (ForInStep.yield r)) (fun ok s₃ =>
            if ok = true then wpAny (model prog w) A (eval i1 env) (fun x s₄ => wpAny (model prog w) A (pyIter x) (fun it1 s₅ =>
              codeAny (model prog w) A (.compStart (.DictComp kx elt [⟨t0, i0, ifs0, 0⟩, ⟨t1, i1, ifs1, 0⟩] scope pos) 1 it1 (.ref acc) env) (fun r s' => match r with
                | .ok _ => ∃ m, m < n ∧ I m s'
                | .error _ => False) s₅) (notedBy (model prog w) A env fun e s' => R (.error e) s') s₄) (notedBy (model prog w) A env fun e s' => R (.error e) s') s₃
            else ∃ m, m < n ∧ I m s₃) (notedBy (model prog w) A env fun e s' => R (.error e) s') s₂) (notedBy (model prog w) A env fun e s' => R (.error e) s') s₁') (notedBy (model prog w) A env fun e s' => R (.error e) s') s₁) (notedBy (model prog w) A env fun e s' => R (.error e) s') s)
    (n : Nat) (h : I n s) :
    codeAny (model prog w) A (.compLoop (.DictComp kx elt [⟨t0, i0, ifs0, 0⟩, ⟨t1, i1, ifs1, 0⟩] scope pos) 0 it (.ref acc) env) R s := by
  refine codeAny_loop rfl I (fun n s hI => ?_) n h
  show wpAny _ A ((compTurn (.DictComp kx elt [⟨t0, i0, ifs0, 0⟩, ⟨t1, i1, ifs1, 0⟩] scope pos) 0 it (.ref acc) env).onRaise (fun x => do noteFrame x env; theTreesLotGoes x)) _ _ s
  refine wpAny_noted ?_
  rw [compTurn2_outD]
  refine wpAny_bind (wpAny_standAt (wpAny_bind (wpAny_mono (turn n s hI) (fun r s₁ h₁ => ?_) fun _ _ h' => h')))
  cases r with
  | none => exact wpAny_pure h₁
  | some v =>
    refine wpAny_bind (wpAny_mono h₁ (fun _ s₁' h₁' => ?_) fun _ _ h' => h')
    refine wpAny_bind (wpAny_mono h₁' (fun _ s₂ h₂ => wpAny_bind (wpAny_mono h₂ (fun ok s₃ h₃ => ?_) fun _ _ h' => h')) fun _ _ h' => h')
    cases ok with
    | false => exact wpAny_pure ⟨rfl, h₃⟩
    | true =>
      refine wpAny_bind (wpAny_mono h₃ (fun x s₄ h₄ => ?_) fun _ _ h' => h')
      refine wpAny_bind (wpAny_standAt (wpAny_bind (wpAny_of_eq (hs x) (wpAny_bind (wpAny_holding (wpAny_mono h₄ (fun it1 s₅ h₅ => ?_) fun _ _ h' => h'))))))
      refine wpAny_bind (wpAny_runOwn ?_)
      rw [Around.mark_none]
      refine codeAny_mono h₅ fun r s' hr => ?_
      cases r with
      | ok f =>
        first
          | exact wpAny_pure ⟨rfl, hr⟩
          | exact wpAny_bind (wpAny_pure (wpAny_pure ⟨rfl, hr⟩))
      | error e => exact hr.elim
/-- the loop of the second -/
theorem compLoop2_inD (I : Nat → Shared → Prop)
    (turn : ∀ n s, I n s → wpAny (model prog w) A (pyNext it) (fun r s₁ => match r with
      | none => R (.ok .next) s₁
      | some v => wpAny (model prog w) A (letOwnedTupleGo t1 it v) (fun _ s₁' => wpAny (model prog w) A (assign t1 env v) (fun _ s₂ =>
          wpAny (model prog w) A (forIn ifs1 true fun c r => if r = true then do let ok ← isTrue c env (eval c env); pure (ForInStep.yield ok) else pure (ForInStep.yield r)) (fun ok s₃ =>
            if ok = true then wpAny (model prog w) A (eval kx env) (fun kv s₄ => wpAny (model prog w) A (eval elt env) (fun vv s₅ =>
              wpAny (model prog w) A (dictSet acc kv vv) (fun _ s₆ => ∃ m, m < n ∧ I m s₆) (notedBy (model prog w) A env fun e s' => R (.error e) s') s₅) (notedBy (model prog w) A env fun e s' => R (.error e) s') s₄) (notedBy (model prog w) A env fun e s' => R (.error e) s') s₃
            else ∃ m, m < n ∧ I m s₃) (notedBy (model prog w) A env fun e s' => R (.error e) s') s₂) (notedBy (model prog w) A env fun e s' => R (.error e) s') s₁') (notedBy (model prog w) A env fun e s' => R (.error e) s') s₁) (notedBy (model prog w) A env fun e s' => R (.error e) s') s)
    (n : Nat) (h : I n s) :
    codeAny (model prog w) A (.compLoop (.DictComp kx elt [⟨t0, i0, ifs0, 0⟩, ⟨t1, i1, ifs1, 0⟩] scope pos) 1 it (.ref acc) env) R s := by
  refine codeAny_loop rfl I (fun n s hI => ?_) n h
  show wpAny _ A ((compTurn (.DictComp kx elt [⟨t0, i0, ifs0, 0⟩, ⟨t1, i1, ifs1, 0⟩] scope pos) 1 it (.ref acc) env).onRaise (fun x => do noteFrame x env; theTreesLotGoes x)) _ _ s
  refine wpAny_noted ?_
  rw [compTurn2_inD]
  refine wpAny_bind (wpAny_standAt (wpAny_bind (wpAny_mono (turn n s hI) (fun r s₁ h₁ => ?_) fun _ _ h' => h')))
  cases r with
  | none => exact wpAny_pure h₁
  | some v =>
    refine wpAny_bind (wpAny_mono h₁ (fun _ s₁' h₁' => ?_) fun _ _ h' => h')
    refine wpAny_bind (wpAny_mono h₁' (fun _ s₂ h₂ => wpAny_bind (wpAny_mono h₂ (fun ok s₃ h₃ => ?_) fun _ _ h' => h')) fun _ _ h' => h')
    cases ok with
    | false => exact wpAny_pure ⟨rfl, h₃⟩
    | true =>
      exact wpAny_bind (wpAny_bind (wpAny_mono h₃ (fun kv s₄ h₄ => wpAny_bind (wpAny_holding (wpAny_mono h₄ (fun vv s₅ h₅ => wpAny_bind (wpAny_standAt (wpAny_holding (wpAny_mono h₅ (fun _ s₆ h₆ => wpAny_pure ⟨rfl, h₆⟩) fun _ _ h' => h')))) fun _ _ h' => h'))) fun _ _ h' => h'))
/-- the second clause's start -/
theorem compStart1_okD (h0 : codeAny (model prog w) A (.compLoop (.DictComp kx elt [⟨t0, i0, ifs0, 0⟩, ⟨t1, i1, ifs1, 0⟩] scope pos) 1 it (.ref acc) env) R s)
    (h : wpAny (model prog w) A (pyIter it) (fun it' s' => codeAny (model prog w) A (.compLoop (.DictComp kx elt [⟨t0, i0, ifs0, 0⟩, ⟨t1, i1, ifs1, 0⟩] scope pos) 1 it' (.ref acc) env) R s')
      (notedBy (model prog w) A env fun x s' => R (.error x) s') s) :
    codeAny (model prog w) A (.compStart (.DictComp kx elt [⟨t0, i0, ifs0, 0⟩, ⟨t1, i1, ifs1, 0⟩] scope pos) 1 it (.ref acc) env) R s := by
  refine codeAny_of_tree ?_
  show wpAny _ _ ((compStart (.DictComp kx elt [⟨t0, i0, ifs0, 0⟩, ⟨t1, i1, ifs1, 0⟩] scope pos) 1 it (.ref acc) env).onRaise (fun x => do noteFrame x env; standAt theWindowsPlace)) _ _ s
  refine wpAny_notedAt ?_
  unfold compStart
  show wpAny _ _ (ask >>= _) _ _ s
  refine wpAny_bind (wpAny_askSetting (wpAny_ite ?_))
  split
  · first
      | exact wpAny_bind (wpAny_pure (wpAny_pure (And.intro rfl h0)))
      | exact wpAny_pure (And.intro rfl h0)
  · first
      | exact wpAny_bind (wpAny_rule (wpAny_bind (wpAny_standAt (wpAny_bind (wpAny_mono h (fun it' s' h' => wpAny_pure (And.intro rfl h')) fun _ _ x => x)))))
      | (refine wpAny_bind (wpAny_rule ?_); show wpAny _ _ (standAt i1.pos >>= _) _ _ s; exact wpAny_bind (wpAny_standAt (wpAny_bind (wpAny_mono h (fun it' s' h' => wpAny_pure (And.intro rfl h')) fun _ _ x => x))))
end

section
variable {X : Cx}
def tDc2 (e0 : HO) (wi : TI) (g : TG) (tt : TT) (wi1 : TI) (g1 : TG) (tt1 : TT) (tk te : TE) (vs vs1 : List Nat) : TE := fun σ H Q => wi σ H fun J H1 => ∀ D, H1 D = none → ∃ W : Nat → Nat → Hp → Prop, (∃ m, W 0 m (upd H1 D e0)) ∧ ∀ i m H, W i m H →
  (J.stop i H ∧ Q (.ref D) H) ∨ (J.go i H ∧ ∃ Nx : Hp → Prop, (∀ H', Nx H' → ∃ m', m' < m ∧ W (i + 1) m' H') ∧ ∀ x H', J.yld i H x H' → g x (wipe σ vs) H' fun σ2 H2 => wipe σ2 vs = wipe σ vs ∧ tt σ2 H2 fun b H3 =>
    if b = true then wi1 σ2 H3 fun J1 H4 => ∃ W1 : Nat → Nat → Hp → Prop, (∃ m, W1 0 m H4) ∧ ∀ j k H, W1 j k H →
      (J1.stop j H ∧ Nx H) ∨ (J1.go j H ∧ ∃ Nx1 : Hp → Prop, (∀ H', Nx1 H' → ∃ k', k' < k ∧ W1 (j + 1) k' H') ∧ ∀ x H', J1.yld j H x H' → g1 x (wipe σ2 vs1) H' fun σ3 H5 => wipe σ3 vs1 = wipe σ2 vs1 ∧ tt1 σ3 H5 fun b H6 =>
        if b = true then tk σ3 H6 fun x H7 => te σ3 H7 fun y H8 => ∃ H9, DPut H8 D x y H9 ∧ Nx1 H9 else Nx1 H6)
    else Nx H3)
theorem dc2_core {pins : List (Addr × Obj)} {s : Shared} {σ : St} {H : Hp} {Q : VK} {kx elt tg iter tg1 iter1 : Expr} {ifs ifs1 : List Expr} {scope : Scope} {own : List (Str × Nat)} {vs1 : List Nat} {pos pos' : Pos} {wi wi1 : TI} {g g1 : TG} {tt tt1 : TT} {tk te : TE} {e0 : HO} {use : Option (Value → Sem Unit)} {Qf : Value → Shared → Prop}
    (hc : X.calm = true) (hu : X.A.units < cLine) (hd0 : NewD e0) (hN : X.N.Nodup) (I : Inv X pins σ H s) (hi : PI X tg iter wi) (ok : BlkOk X.N X.env.scope scope own) (hv : ∀ i ∈ vs1, i ∈ own.map (·.2))
    (hg : ∀ (s : Shared) (H : Hp) (C : Addr) (cl : List (Str × Addr)) (fp : List Addr), PG (X.blk s H scope (compEnvC scope cl C X.env) fp) tg g) (ht : ∀ (s : Shared) (H : Hp) (C : Addr) (cl : List (Str × Addr)) (fp : List Addr), PTs (X.blk s H scope (compEnvC scope cl C X.env) fp) ifs tt)
    (hk : ∀ (s : Shared) (H : Hp) (C : Addr) (cl : List (Str × Addr)) (fp : List Addr), PE (X.blk s H scope (compEnvC scope cl C X.env) fp) kx tk) (he : ∀ (s : Shared) (H : Hp) (C : Addr) (cl : List (Str × Addr)) (fp : List Addr), PE (X.blk s H scope (compEnvC scope cl C X.env) fp) elt te) (hs : ∀ x, foldedSetIterable iter X.env x = pure x)
    (hi1 : ∀ (s : Shared) (H : Hp) (C : Addr) (cl : List (Str × Addr)) (fp : List Addr), PI (X.blk s H scope (compEnvC scope cl C X.env) fp) tg1 iter1 wi1)
    (hg1 : ∀ (s : Shared) (H : Hp) (C : Addr) (cl : List (Str × Addr)) (fp : List Addr), PG (X.blk s H scope (compEnvC scope cl C X.env) fp) tg1 g1)
    (ht1 : ∀ (s : Shared) (H : Hp) (C : Addr) (cl : List (Str × Addr)) (fp : List Addr), PTs (X.blk s H scope (compEnvC scope cl C X.env) fp) ifs1 tt1)
    (hs1 : ∀ env x, foldedSetIterable iter1 env x = pure x)
    (h : tDc2 e0 wi g tt wi1 g1 tt1 tk te (own.map (·.2)) vs1 σ H Q)
    (hRR : ∀ D C s' m H', Inv X pins σ H' s' → Q (.ref D) H' → s'.heap.Ns C m → FpOk X pins H' C → compPost (model X.prog X.w) X.A X.xe use Qf (.ref D) C (.ok .next) s') :
    wpAny (model X.prog X.w) X.A (comprehension (.DictComp kx elt [⟨tg, iter, ifs, 0⟩, ⟨tg1, iter1, ifs1, 0⟩] scope pos) scope X.env pos' (newDict) false (eval iter X.env) use) Qf X.xe s := by
  have hfree : ∀ y ∈ scope.names, y.2 = .free → ∃ c, X.env.cells.lookup y.1 = some c := fun y hy e => by
    rcases ok.free y hy e with k | k
    · exact I.ok.has _ (.inl k)
    · exact I.ok.has _ (.inr k)
  refine wpAny_comprehension_free (use := use) rfl hs (closure_ok hfree) ok.kind (fun y hy e => by rw [ok.uniq y hy, e])
    (thn (hi pins s σ H _ I h) fun xv s1 hx => thn hx fun itv s2 h2 => ?_)
  obtain ⟨it, fp, tn, J, H2, e, I2, T, st2, f2, q⟩ := h2
  subst e
  refine wpAny_newObj_type (newEnv_comp ?_)
  generalize hD : s2.heap.objs.size = D
  have hDn : H2 D = none := I2.hok.fresh (Nat.le_of_eq hD)
  obtain ⟨W, ⟨m0, w0⟩, turn⟩ := q D hDn
  -- the new list
  generalize hs3 : ({ s2 with heap := s2.heap.push { cls := .type "dict", data := .dict #[] } } : Shared) = s3
  have I3 : Inv X pins σ (upd H2 D e0) s3 := by
    rw [← hs3]
    refine I2.laid (t' := s2.toks) (fun b o e => Heap.get?_push_of_some _ e) (Nat.le_of_eq hD) ?_
    rw [← hD]
    exact hd0.ok _ I2.big
  have h3 : s3.heap = s2.heap.push { cls := .type "dict", data := .dict #[] } := by rw [← hs3]
  have sz : ∀ b ∈ fp, b < s2.heap.objs.size := fun b hb => by
    obtain ⟨o, e, _⟩ := T.obj _ _ st2 b hb
    exact Heap.lt_size e
  have f3 : ∀ b ∈ fp, FpOk X pins (upd H2 D e0) b ∧ b < s3.heap.objs.size := fun b hb => by
    have hlt := sz b hb
    refine ⟨⟨?_, (f2 b hb).2⟩, by rw [h3, Heap.size_push]; exact Nat.lt_succ_of_lt hlt⟩
    rw [upd_ne (by rw [← hD]; exact Nat.ne_of_lt hlt)]
    exact (f2 b hb).1
  have st3 : tn 0 s3.heap := T.keep _ _ _ st2 fun b _ o e => by rw [h3]; exact Heap.get?_push_of_some _ e
  have I4 := block_start I3 ok hN f3
  have pg := hg s3 (upd H2 D e0) s3.heap.objs.size (cellsFrom (s3.heap.objs.size + 1) scope.names (cloFrom X.env.cells scope.names [])) fp
  have pt := ht s3 (upd H2 D e0) s3.heap.objs.size (cellsFrom (s3.heap.objs.size + 1) scope.names (cloFrom X.env.cells scope.names [])) fp
  have pk := hk s3 (upd H2 D e0) s3.heap.objs.size (cellsFrom (s3.heap.objs.size + 1) scope.names (cloFrom X.env.cells scope.names [])) fp
  have pe := he s3 (upd H2 D e0) s3.heap.objs.size (cellsFrom (s3.heap.objs.size + 1) scope.names (cloFrom X.env.cells scope.names [])) fp
  have pi1 := hi1 s3 (upd H2 D e0) s3.heap.objs.size (cellsFrom (s3.heap.objs.size + 1) scope.names (cloFrom X.env.cells scope.names [])) fp
  have pg1 := hg1 s3 (upd H2 D e0) s3.heap.objs.size (cellsFrom (s3.heap.objs.size + 1) scope.names (cloFrom X.env.cells scope.names [])) fp
  have pt1 := ht1 s3 (upd H2 D e0) s3.heap.objs.size (cellsFrom (s3.heap.objs.size + 1) scope.names (cloFrom X.env.cells scope.names [])) fp
  show codeAny _ _ (.compStart (.DictComp kx elt [⟨tg, iter, ifs, 0⟩, ⟨tg1, iter1, ifs1, 0⟩] scope pos) 0 (.ref it) (.ref D) (compEnvC scope (cellsFrom (s3.heap.objs.size + 1) scope.names (cloFrom X.env.cells scope.names [])) s3.heap.objs.size X.env)) (compPost (model X.prog X.w) X.A X.xe use Qf (.ref D) s3.heap.objs.size) { s3 with heap := pushCells (s3.heap.push { cls := .type "dict", data := .dict #[] }) scope.names }
  have nfp : ∀ b ∈ fp, (upd H2 D e0) b = none := fun b hb => (f3 b hb).1.1
  generalize hce : compEnvC scope (cellsFrom (s3.heap.objs.size + 1) scope.names (cloFrom X.env.cells scope.names [])) s3.heap.objs.size X.env = ce at I4 pg pt pk pe pi1 pg1 pt1 ⊢
  have cL : ce.locals = s3.heap.objs.size := by subst hce; rfl
  generalize hH3 : upd H2 D e0 = H3 at I3 I4 pg pt pk pe pi1 pg1 pt1 w0 nfp f3
  generalize hs4 : ({ s3 with heap := pushCells (s3.heap.push { cls := .type "dict", data := .dict #[] }) scope.names } : Shared) = s4 at I4 ⊢
  have st4 : tn 0 s4.heap := T.keep _ _ _ st3 fun b _ o e => by rw [← hs4]; exact pushCells_keeps _ _ _ _ (Heap.get?_push_of_some _ e)
  have stat : ∀ {σ' : St} {H' : Hp} {s' : Shared}, Inv (X.blk s3 H3 scope ce fp) [] σ' H' s' → (∀ b ∈ fp, H' b = none) → ∀ b ∈ fp, FpOk (X.blk s3 H3 scope ce fp) [] H' b := fun {σ' H' s'} I' hn b hb =>
    ⟨hn b hb, (I'.ok.exf b hb).1, I'.ok.exfs b hb, .inl hb, fun x c e => (I'.ok.exf b hb).2 x c e, fun p hp => absurd (show p ∈ ([] : List (Addr × Obj)) ++ [] from hp) (by simp)⟩
  have loop : codeAny (model X.prog X.w) X.A (.compLoop (.DictComp kx elt [⟨tg, iter, ifs, 0⟩, ⟨tg1, iter1, ifs1, 0⟩] scope pos) 0 (.ref it) (.ref D) ce) (compPost (model X.prog X.w) X.A X.xe use Qf (.ref D) s3.heap.objs.size) s4 := by
    refine compLoop2_outD (hs1 ce) (fun n s' => ∃ i H', Inv (X.blk s3 H3 scope ce fp) [] (wipe σ (own.map (·.2))) H' s' ∧ tn i s'.heap ∧ (∀ b ∈ fp, H' b = none) ∧ W i n H') ?_ m0 ⟨0, H3, I4, st4, nfp, w0⟩
    rintro n s5 ⟨i, H5, I5, st5, n5, w5⟩
    rcases turn i n H5 w5 with ⟨stop, qq⟩ | ⟨go, Nx, hNx, step⟩
    · have td := T.done (X.blk s3 H3 scope ce fp) rfl rfl rfl hc i [] s5 _ H5 (fun _ _ => False) I5 (stat I5 n5) st5 stop
      refine thnF td fun r s6 ⟨hr, I6⟩ => ?_
      subst hr
      -- back in the def's context
      have I7 : Inv X pins σ H5 s6 := I3.call' (ch := fp) I6.os I6.base I6.hok I6.bare fun b hb => ⟨(f3 b hb).1.2.2.2.1, (f3 b hb).1.2.1, (f3 b hb).1.2.2.2.2.1, (f3 b hb).1.2.2.2.2.2⟩
      have nC : H5 s3.heap.objs.size = none := by
        have z : H5 ce.locals = none := I6.free
        rw [cL] at z
        exact z
      obtain ⟨m, hn, _⟩ := I6.loc
      have hn : s6.heap.Ns ce.locals m := hn
      rw [cL] at hn
      exact hRR D s3.heap.objs.size s6 m H5 I7 qq hn (I3.fpOk (Nat.le_refl _) nC)
    · have ti := T.item (X.blk s3 H3 scope ce fp) rfl rfl rfl hc i [] s5 _ H5 (fun _ _ => False) I5 (stat I5 n5) st5 go
      refine thnF ti fun r s6 ⟨u, hr, h6⟩ => ?_
      subst hr
      refine thnF h6 fun _ s7 ⟨x, H7, I7, r7, y7, st7, n7⟩ => ?_
      have I7' := I7.pinned (stat I7 n7) (T.obj _ _ st7)
      refine thnF (pg _ s7 _ H7 x u _ I7' r7 (step x H7 y7)) fun _ s8 ⟨σ8, H8, I8, hw8, q8⟩ => ?_
      refine thnF (pt _ s8 σ8 H8 _ I8 q8) fun b s9 ⟨H9, I9, q9⟩ => ?_
      -- the turn's end, from any slots that know what the block knew at its start
      have fin : ∀ {σ9 : St} {s' : Shared} {H' : Hp}, Inv (X.blk s3 H3 scope ce fp) ([] ++ pinsAt fp s7.heap) σ9 H' s' → (wipe σ (own.map (·.2))).length = σ9.length → (∀ (j : Nat) v, (wipe σ (own.map (·.2)))[j]? = some (some v) → σ9[j]? = some (some v)) → Nx H' →
          ∃ m, m < n ∧ ∃ i H', Inv (X.blk s3 H3 scope ce fp) [] (wipe σ (own.map (·.2))) H' s' ∧ tn i s'.heap ∧ (∀ b ∈ fp, H' b = none) ∧ W i m H' := fun {σ9 s' H'} I' hl hk nx => by
        obtain ⟨m', hm, w'⟩ := hNx H' nx
        have pin' : ∀ b ∈ fp, ∀ o, s7.heap.get? b = some o → s'.heap.get? b = some o ∧ H' b = none := fun b hb o e =>
          let z := I'.pin (b, o) (List.mem_append_right _ (List.mem_append_right _ (mem_pinsAt hb e)))
          ⟨z.1, z.2.1⟩
        refine ⟨m', hm, i + 1, H', (I'.unpinned (pins := [])).weak hl hk, T.keep _ _ _ st7 fun b hb o e => (pin' b hb o e).1, fun b hb => ?_, w'⟩
        obtain ⟨o, e, _⟩ := T.obj _ _ st7 b hb
        exact (pin' b hb o e).2
      have hl8 : (wipe σ (own.map (·.2))).length = σ8.length := by rw [← hw8, wipe_length]
      have hk8 : ∀ (j : Nat) v, (wipe σ (own.map (·.2)))[j]? = some (some v) → σ8[j]? = some (some v) := fun j v e => by
        rw [← hw8] at e
        exact (wipe_some e).1
      have hk9 : ∀ (j : Nat) v, (wipe σ (own.map (·.2)))[j]? = some (some v) → (wipe σ8 vs1)[j]? = some (some v) := fun j v e => by
        rw [← hw8] at e
        obtain ⟨e1, e2⟩ := wipe_some e
        rw [wipe_out fun z => e2 (hv j z)]
        exact e1
      cases b with
      | false =>
        simp only [Bool.false_eq_true, if_false] at q9 ⊢
        exact fin I9 hl8 hk8 q9
      | true =>
        simp only [if_true] at q9 ⊢
        refine thnF (pi1 _ s9 σ8 H9 _ I9 q9) fun xv s10 hx => thnF hx fun itv s11 h11 => ?_
        obtain ⟨it1, fp1, tn1, J1, H11, e1, I11, T1, st11, f11, W1, ⟨m1, w1⟩, turn1⟩ := h11
        subst e1
        -- the inner loop
        have stat1 : ∀ {H' : Hp}, (∀ b ∈ fp1, H' b = none) → ∀ b ∈ fp1, FpOk (X.blk s3 H3 scope ce fp) ([] ++ pinsAt fp s7.heap) H' b := fun hn b hb => ⟨hn b hb, (f11 b hb).2⟩
        have loop1 : codeAny (model X.prog X.w) X.A (.compLoop (.DictComp kx elt [⟨tg, iter, ifs, 0⟩, ⟨tg1, iter1, ifs1, 0⟩] scope pos) 1 (.ref it1) (.ref D) ce)
            (fun r s' => match r with
              | .ok _ => ∃ m, m < n ∧ ∃ i H', Inv (X.blk s3 H3 scope ce fp) [] (wipe σ (own.map (·.2))) H' s' ∧ tn i s'.heap ∧ (∀ b ∈ fp, H' b = none) ∧ W i m H'
              | .error _ => False) s11 := by
          refine compLoop2_inD (fun k s' => ∃ j H', Inv (X.blk s3 H3 scope ce fp) ([] ++ pinsAt fp s7.heap) (wipe σ8 vs1) H' s' ∧ tn1 j s'.heap ∧ (∀ b ∈ fp1, H' b = none) ∧ W1 j k H') ?_ m1 ⟨0, H11, I11.weak (wipe_length _ _) (fun j v e => (wipe_some e).1), st11, fun b hb => (f11 b hb).1, w1⟩
          rintro k s12 ⟨j, H12, I12, st12, n12, w12⟩
          rcases turn1 j k H12 w12 with ⟨stop1, nx1⟩ | ⟨go1, Nx1, hNx1, step1⟩
          · refine thnF (T1.done (X.blk s3 H3 scope ce fp) rfl rfl rfl hc j _ s12 (wipe σ8 vs1) H12 (fun _ _ => False) I12 (stat1 n12) st12 stop1) fun r s13 ⟨hr, I13⟩ => ?_
            subst hr
            exact fin I13 (hl8.trans (wipe_length σ8 vs1).symm) hk9 nx1
          · refine thnF (T1.item (X.blk s3 H3 scope ce fp) rfl rfl rfl hc j _ s12 (wipe σ8 vs1) H12 (fun _ _ => False) I12 (stat1 n12) st12 go1) fun r s13 ⟨u1, hr, h13⟩ => ?_
            subst hr
            refine thnF h13 fun _ s14 ⟨x1, H14, I14, r14, y14, st14, n14⟩ => ?_
            have I14' := I14.pinned (stat1 n14) (T1.obj _ _ st14)
            refine thnF (pg1 _ s14 (wipe σ8 vs1) H14 x1 u1 _ I14' r14 (step1 x1 H14 y14)) fun _ s15 ⟨σ15, H15, I15, hw15, q15⟩ => ?_
            refine thnF (pt1 _ s15 σ15 H15 _ I15 q15) fun b1 s16 ⟨H16, I16, q16⟩ => ?_
            have fin1 : ∀ {s' : Shared} {H' : Hp}, Inv (X.blk s3 H3 scope ce fp) (([] ++ pinsAt fp s7.heap) ++ pinsAt fp1 s14.heap) σ15 H' s' → Nx1 H' → ∃ m, m < k ∧ ∃ j H', Inv (X.blk s3 H3 scope ce fp) ([] ++ pinsAt fp s7.heap) (wipe σ8 vs1) H' s' ∧ tn1 j s'.heap ∧ (∀ b ∈ fp1, H' b = none) ∧ W1 j m H' := fun {s' H'} I' nx => by
              obtain ⟨m', hm, w'⟩ := hNx1 H' nx
              have pin' : ∀ b ∈ fp1, ∀ o, s14.heap.get? b = some o → s'.heap.get? b = some o ∧ H' b = none := fun b hb o e =>
                let z := I'.pin (b, o) (List.mem_append_right _ (List.mem_append_right _ (mem_pinsAt hb e)))
                ⟨z.1, z.2.1⟩
              refine ⟨m', hm, j + 1, H', I'.unpinned.weak (by rw [← hw15, wipe_length]) (fun j v e => by rw [← hw15] at e; exact (wipe_some e).1), T1.keep _ _ _ st14 fun b hb o e => (pin' b hb o e).1, fun b hb => ?_, w'⟩
              obtain ⟨o, e, _⟩ := T1.obj _ _ st14 b hb
              exact (pin' b hb o e).2
            cases b1 with
            | false =>
              simp only [Bool.false_eq_true, if_false] at q16 ⊢
              exact fin1 I16 q16
            | true =>
              simp only [if_true] at q16 ⊢
              refine thnF (pk _ s16 σ15 H16 _ I16 q16) fun zk s17 ⟨xv, H17, I17, r17, q17⟩ => ?_
              refine thnF (pe _ s17 σ15 H17 _ I17 q17) fun z s18 ⟨yv, H18, I18, r18, H19, g19, nx⟩ => ?_
              exact d_putS (X := X.blk s3 H3 scope ce fp) hu I18 g19 r17 r18 fun s20 I20 => fin1 I20 nx
        exact compStart1_okD loop1 (T1.self X.A 0 _ _ _ st11 loop1)
  exact codeAny_compStart_dict loop (T.self X.A 0 _ _ _ st4 loop)
/-- as a value -/
theorem pe_dc2 {kx elt tg iter tg1 iter1 : Expr} {ifs ifs1 : List Expr} {scope : Scope} {own : List (Str × Nat)} {vs1 : List Nat} {pos : Pos} {wi wi1 : TI} {g g1 : TG} {tt tt1 : TT} {tk te : TE} {e0 : HO} (hc : X.calm = true) (hu : X.A.units < cLine) (hd0 : NewD e0) (hN : X.N.Nodup) (hi : PI X tg iter wi) (ok : BlkOk X.N X.env.scope scope own) (hv : ∀ i ∈ vs1, i ∈ own.map (·.2))
    (hg : ∀ (s : Shared) (H : Hp) (C : Addr) (cl : List (Str × Addr)) (fp : List Addr), PG (X.blk s H scope (compEnvC scope cl C X.env) fp) tg g) (ht : ∀ (s : Shared) (H : Hp) (C : Addr) (cl : List (Str × Addr)) (fp : List Addr), PTs (X.blk s H scope (compEnvC scope cl C X.env) fp) ifs tt)
    (hi1 : ∀ (s : Shared) (H : Hp) (C : Addr) (cl : List (Str × Addr)) (fp : List Addr), PI (X.blk s H scope (compEnvC scope cl C X.env) fp) tg1 iter1 wi1)
    (hg1 : ∀ (s : Shared) (H : Hp) (C : Addr) (cl : List (Str × Addr)) (fp : List Addr), PG (X.blk s H scope (compEnvC scope cl C X.env) fp) tg1 g1) (ht1 : ∀ (s : Shared) (H : Hp) (C : Addr) (cl : List (Str × Addr)) (fp : List Addr), PTs (X.blk s H scope (compEnvC scope cl C X.env) fp) ifs1 tt1)
    (hk : ∀ (s : Shared) (H : Hp) (C : Addr) (cl : List (Str × Addr)) (fp : List Addr), PE (X.blk s H scope (compEnvC scope cl C X.env) fp) kx tk) (he : ∀ (s : Shared) (H : Hp) (C : Addr) (cl : List (Str × Addr)) (fp : List Addr), PE (X.blk s H scope (compEnvC scope cl C X.env) fp) elt te) (hs : ∀ x, foldedSetIterable iter X.env x = pure x := by intro _; rfl) (hs1 : ∀ env x, foldedSetIterable iter1 env x = pure x := by intro _ _; rfl) :
    PE X (.DictComp kx elt [⟨tg, iter, ifs, 0⟩, ⟨tg1, iter1, ifs1, 0⟩] scope pos) (tDc2 e0 wi g tt wi1 g1 tt1 tk te (own.map (·.2)) vs1) := by
  intro pins s σ H Q I h
  rw [arm_eval_DictComp]
  refine dc2_core hc hu hd0 hN I hi ok hv hg ht hk he hs hi1 hg1 ht1 hs1 h fun D C s' m H' I' q hn f => ⟨m, hn, fun h'' sb => ?_⟩
  obtain ⟨f0, f1, f2, f3, f4, f5⟩ := f
  exact ⟨.ref D, H', I'.turned (t' := s'.toks) (fun b o hb e => (sb.2 b hb).trans e) f0 f1 f3 f4 f5, rfl, q⟩
end
end L2

set_option Elab.async false
set_option linter.all false
set_option maxRecDepth 100000
set_option maxHeartbeats 4000000
namespace L2
open PySem WM
/-! walks of comprehensions, whatever a turn does -/
section
variable {K : PySem.W.Frag} {a : Addr} {H0 : Hp} {Qd : Hp → Prop} {Step : (Hp → Prop) → V → Hp → Prop}
theorem it_of {J : It} {n : Nat} (Pv : Nat → Hp → Prop) (h0 : Pv 0 H0) (hgo : ∀ i H, i < n → Pv i H → J.go i H ∧ ∀ x H', J.yld i H x H' → Step (Pv (i + 1)) x H') (hst : ∀ H, Pv n H → J.stop n H ∧ Qd H) :
    ∃ W : Nat → Nat → Hp → Prop, (∃ m, W 0 m H0) ∧ ∀ i m H, W i m H →
      (J.stop i H ∧ Qd H) ∨ (J.go i H ∧ ∃ Nx : Hp → Prop, (∀ H', Nx H' → ∃ m', m' < m ∧ W (i + 1) m' H') ∧ ∀ x H', J.yld i H x H' → Step Nx x H') := by
  refine ⟨fun i m H => m = n - i ∧ i ≤ n ∧ Pv i H, ⟨n, by simp, Nat.zero_le _, h0⟩, ?_⟩
  rintro i m H ⟨rfl, hi, p⟩
  by_cases hlt : i < n
  · obtain ⟨g, st⟩ := hgo i H hlt p
    exact .inr ⟨g, Pv (i + 1), fun H' p' => ⟨n - (i + 1), by omega, rfl, hlt, p'⟩, st⟩
  · have e : i = n := by omega
    subst e
    exact .inl (hst H p)
theorem it_list {xs : List V} (Pv : Nat → Hp → Prop) (h0 : Pv 0 H0) (hl : ∀ i H, i ≤ xs.length → Pv i H → SqL K H a xs) (hs : ∀ i x H, xs[i]? = some x → Pv i H → Step (Pv (i + 1)) x H) (hd : ∀ H, Pv xs.length H → Qd H) :
    ∃ W : Nat → Nat → Hp → Prop, (∃ m, W 0 m H0) ∧ ∀ i m H, W i m H →
      ((Itl K a).stop i H ∧ Qd H) ∨ ((Itl K a).go i H ∧ ∃ Nx : Hp → Prop, (∀ H', Nx H' → ∃ m', m' < m ∧ W (i + 1) m' H') ∧ ∀ x H', (Itl K a).yld i H x H' → Step Nx x H') := by
  refine it_of (n := xs.length) Pv h0 (fun i H hi p => ?_) fun H p => ⟨⟨xs, hl _ H (Nat.le_refl _) p, Nat.le_refl _⟩, hd H p⟩
  have q := hl i H (Nat.le_of_lt hi) p
  refine ⟨⟨xs, xs[i], q, List.getElem?_eq_getElem hi⟩, fun x H' y => ?_⟩
  obtain ⟨e, y⟩ := y
  subst e
  exact hs i x _ (y xs q) p
theorem it_tup {xs : List V} (Pv : Nat → Hp → Prop) (h0 : Pv 0 H0) (hl : ∀ i H, i ≤ xs.length → Pv i H → SqT K H a xs) (hs : ∀ i x H, xs[i]? = some x → Pv i H → Step (Pv (i + 1)) x H) (hd : ∀ H, Pv xs.length H → Qd H) :
    ∃ W : Nat → Nat → Hp → Prop, (∃ m, W 0 m H0) ∧ ∀ i m H, W i m H →
      ((Itt K a).stop i H ∧ Qd H) ∨ ((Itt K a).go i H ∧ ∃ Nx : Hp → Prop, (∀ H', Nx H' → ∃ m', m' < m ∧ W (i + 1) m' H') ∧ ∀ x H', (Itt K a).yld i H x H' → Step Nx x H') := by
  refine it_of (n := xs.length) Pv h0 (fun i H hi p => ?_) fun H p => ⟨⟨xs, hl _ H (Nat.le_refl _) p, Nat.le_refl _⟩, hd H p⟩
  have q := hl i H (Nat.le_of_lt hi) p
  refine ⟨⟨xs, xs[i], q, List.getElem?_eq_getElem hi⟩, fun x H' y => ?_⟩
  obtain ⟨e, y⟩ := y
  subst e
  exact hs i x _ (y xs q) p
end
/-! tuples of the module -/
def GTup (K : PySem.W.Frag) (mg : Str → Option Value) (x : Str) (vs : List V) : Prop := ∃ a, mg x = some (.ref a) ∧ ∀ H, SqT K H a vs
theorem gtup_of {K : PySem.W.Frag} {mg : Str → Option Value} {x : Str} {vs : List V} {a : Addr} {o : Obj} {its : Array Value} {n : Nat} (hm : mg x = some (.ref a)) (hk : K.lookup a = some o) (hc : o.cls = .type "tuple") (hd : o.data = .seq its n) (hz : its.size ≤ sizeLine) (hv : Vals vs its.toList) : GTup K mg x vs :=
  ⟨a, hm, fun _ => .inr ⟨o, its, n, hk, hc, hd, hz, hv⟩⟩
def tGRef (K : PySem.W.Frag) (vs : List V) : TE := fun _ H Q => ∀ a, (∀ H, SqT K H a vs) → Q (.ref a) H
theorem pe_gref {X : Cx} {x : Str} {vs : List V} {pos : Pos} (hg : Gl X x) (h : GTup X.K X.mg x vs) (hd : (x == ("__debug__" : Str)) = false := by decide) : PE X (.Name x pos) (tGRef X.K vs) := by
  obtain ⟨a, m, hs⟩ := h
  intro pins s σ H Q I q
  exact pe_glob (v := V.ref a) hg m rfl hd pins s σ H Q I (q a hs)
/-- the same within a block -/
theorem pe_grefK {X : Cx} {K : PySem.W.Frag} {mg : Str → Option Value} {x : Str} {vs : List V} {pos : Pos} (hK : X.K = K) (hM : X.mg = mg) (h : GTup K mg x vs) (hg : Gl X x) (hd : (x == ("__debug__" : Str)) = false := by decide) : PE X (.Name x pos) (tGRef K vs) := by
  subst hK hM
  exact pe_gref hg h hd
theorem pi_tupK {X : Cx} {K : PySem.W.Frag} {tg l : Expr} {tl : TE} (hK : X.K = K) (h : PE X l tl) : PI X tg l (iTup K tl) := by
  subst hK
  exact pi_tup h
/-! d[y], y a tuple that is read in any way -/
def tDGetS (K : PySem.W.Frag) (td ty : TE) : TE := fun σ H Q => td σ H fun x H1 => ty σ H1 fun y H2 => ∃ (a b : Addr) (kvs : List (List Key × V)) (k : List Key) (v : V), x = .ref a ∧ y = .ref b ∧ Rd H2 a (.dT kvs) ∧ SqT K H2 b (k.map kV) ∧ valV kvs k = some v ∧ Q v H2
theorem key_ofS {X : Cx} {pins : List (Addr × Obj)} {σ : St} {H : Hp} {s : Shared} {b : Addr} {ks : List Key} (I : Inv X pins σ H s) (e : SqT X.K H b (ks.map kV)) : (tupleKind (mixKind X.prog X.w)).is s.heap ks b := by
  obtain ⟨its, r, ⟨o, h1, h2, n, h3⟩, _⟩ := I.tuple e
  exact ⟨o, its.toArray, n, h1, h2, h3, by simpa using items_are r⟩
theorem pe_dgetS {X : Cx} {o i : Expr} {td ty : TE} {pos : Pos} (hu : X.A.units + 1 < cLine) (ho : PE X o td) (hi : PE X i ty) (hs : NoSl i) : PE X (.Subscript o i pos) (tDGetS X.K td ty) := by
  intro pins s σ H Q I h
  refine subD_of PySem.F.slot_dict_getitem.lookup hs (thn (ho pins s σ H _ I h) fun u s1 ⟨x, H1, I1, rx, q1⟩ => thn (hi pins s1 σ H1 _ I1 q1) fun iv s2 ⟨y, H2, I2, ry, a, b, kvs, k, v, ex, ey, hd, hb, hv, q2⟩ => ?_)
  subst ex ey
  obtain rfl : u = Value.ref a := rx
  cases (show iv = Value.ref b from ry)
  obtain ⟨z, hd', xs, rel, dd⟩ := dt_rd I2.hok hd
  obtain ⟨w', hw, rw'⟩ := RelO.some_of (v := v) (o := (atKey xs k).map (·.2)) (by rw [← hv]; exact rel.val k)
  obtain ⟨p, hp, hp2⟩ := Option.map_eq_some_iff.mp hw
  refine ⟨?_, ?_⟩
  · obtain ⟨o', es, ep, h1, h2, _⟩ := dd
    exact ⟨o', h1, h2.1⟩
  · refine wpAny_getItem_heap (tupleKind_room_in1 hu) (key_ofS I2 hb) dd hp ?_
    rw [hp2]
    exact ⟨v, H2, I2.tok _, rw', q2⟩
end L2

set_option Elab.async false
set_option linter.all false
set_option maxRecDepth 100000
set_option maxHeartbeats 4000000
namespace L2
open PySem PySem.Spec PyProof.Rows
theorem vals_of_get : ∀ {xs : List V} {us : List Value}, xs.length = us.length → (∀ (j : Nat) x u, xs[j]? = some x → us[j]? = some u → RelV x u) → Vals xs us
  | [], [], _, _ => .nil
  | x :: xs, u :: us, h, k => .cons (k 0 x u rfl rfl) (vals_of_get (Nat.succ.inj h) fun j => k (j + 1))
  | [], _ :: _, h, _ => nomatch h
  | _ :: _, [], h, _ => nomatch h
section
variable {X : Cx} {tg : Expr}
/-- range(n) as an argument -/
theorem ev_range1 {a : Expr} {ta : TA} {p pos : Pos} {pins : List (Addr × Obj)} {s : Shared} {σ : St} {H : Hp} {R : Nat → Hp → Prop} {Q' : Value → Shared → Prop} (hg : Gl X "range") (hm : X.mg "range" = none) (ha : PA X [a] ta) (I : Inv X pins σ H s)
    (h : ta σ H fun vs H1 => ∃ n : Nat, vs = [.int (n : Int)] ∧ (n : Int) < 2 ^ 62 ∧ R n H1) (k : ∀ (s2 : Shared) (n : Nat) (H1 : Hp) (t u v : Tok) (r : Addr), Inv X pins σ H1 s2 → (n : Int) < 2 ^ 62 → IsRange s2.heap r 0 (n : Int) 1 t u v → R n H1 → Q' (.ref r) s2) (hs : starEach [a] X.env = [(false, eval a X.env)] := by rfl) :
    wpAny (model X.prog X.w) X.A (eval (.Call (.Name "range" p) [a] [] pos) X.env) Q' X.xe s := by
  refine Call_ (ld_blt I hg hm boot_range (PyProof.Rows.callWith_type1 (thn (ha pos pins s σ H _ I h) fun us s1 ⟨vs, H1, I1, r1, q1⟩ => ?_) hs rfl))
  obtain ⟨n, e, hn, q⟩ := q1
  subst e
  cases r1 with
  | cons r rr =>
    cases rr
    obtain ⟨t, rfl⟩ := r
    exact call_range_1 (k _ n H1 _ _ _ _ (I1.kept fun b o e => Heap.get?_push_of_some _ e) hn (IsRange.new ..) q)
/-- list(range(n)) -/
def tListRange (ta : TA) : TE := fun σ H Q => ta σ H fun vs H1 => ∃ n : Nat, vs = [.int (n : Int)] ∧ (n : Int) < 2 ^ 62 ∧ n ≤ 1000 ∧ ∀ p, H1 p = none → Q (.ref p) (upd H1 p (.lst ((List.range n).map fun i : Nat => V.int i)))
theorem rangeSize0 (n : Nat) : Builtin.Range.rangeSize 0 (n : Int) 1 = n := by
  unfold Builtin.Range.rangeSize
  rw [if_pos (by decide)]
  by_cases h : (0 : Int) < n
  · rw [if_pos h]; omega
  · rw [if_neg h]; omega
theorem pe_listRange {a : Expr} {ta : TA} {p p2 pos pos2 : Pos} (hc : X.calm = true) (hl : Gl X "list") (hml : X.mg "list" = none) (hg : Gl X "range") (hm : X.mg "range" = none) (ha : PA X [a] ta) (hs : starEach [a] X.env = [(false, eval a X.env)] := by rfl)
    (hs2 : starEach [.Call (.Name "range" p) [a] [] pos] X.env = [(false, eval (.Call (.Name "range" p) [a] [] pos) X.env)] := by rfl) :
    PE X (.Call (.Name "list" p2) [.Call (.Name "range" p) [a] [] pos] [] pos2) (tListRange ta) := by
  intro pins s σ H Q I h
  refine Call_ (ld_blt I hl hml (u := .type "list") (by decide +kernel) (PyProof.Rows.callWith_type1 ?_ hs2 rfl))
  rw [hs2]
  show wpAny _ _ (spliced [(false, eval (.Call (.Name "range" p) [a] [] pos) X.env)]) _ _ s
  refine Calls.spliced_cons (ev_range1 hg hm ha I h (fun s2 n H1 t u v r I2 hn hr q => Calls.spliced_nil ?_) hs)
  obtain ⟨hn2, q⟩ := q
  refine call_list_range (n := n) (I2.ok.hd hc) hr (small_one (by decide) (by decide) (by omega) (by omega)) (rangeSize0 n) (by omega) fun h' tk acc' c' hk hS' hacc => ?_
  have hfr : H1 s2.heap.objs.size = none := I2.hok.fresh (Nat.le_refl _)
  refine ⟨.ref s2.heap.objs.size, _, I2.laid (t' := tk) (o := .lst ((List.range n).map fun i : Nat => V.int i)) hk (Nat.le_refl _) ?_, rfl, q _ hfr⟩
  obtain ⟨hsz, hit⟩ := hacc
  refine ⟨?_, acc'.toList, c', ?_, by simpa using hS'⟩
  · rw [List.length_map, List.length_range]; exact Nat.le_of_lt (small1000 hn2)
  · refine vals_of_get (by rw [List.length_map, List.length_range, Array.length_toList, hsz]) fun j x u hx hu => ?_
    rw [List.getElem?_map] at hx
    cases e : (List.range n)[j]? with
    | none => rw [e] at hx; cases hx
    | some i =>
      rw [e] at hx
      cases hx
      have hi : i = j := by
        obtain ⟨h1, h2⟩ := List.getElem?_eq_some_iff.mp e
        rw [List.getElem_range] at h2
        exact h2.symm
      subst hi
      obtain ⟨t, rfl⟩ := hit i u (by simpa using hu)
      exact ⟨t, by simp⟩
end
/-! reversed(range(n)) -/
section
variable {prog : Program} {w : World} {A : Around} {E : Value → Shared → Prop} {s : Shared}
def rrObj (n : Nat) : Obj := { cls := .type "range_iterator", data := .fields #[rawInt (0 + ((n : Int) - 1) * 1), rawInt (n : Int), rawInt (-1)] }
theorem call_range_reversed {r : Addr} {n : Nat} {t u v : Tok} {Q : Value → Shared → Prop} (hn : (n : Int) < 2 ^ 62) (hr : IsRange s.heap r 0 (n : Int) 1 t u v) (h : Q (.ref s.heap.objs.size) { s with heap := s.heap.push (rrObj n) }) :
    wpAny (model prog w) A (call (.builtin "range.__reversed__") [.ref r]) Q E s := by
  have hT : s.TypeIs (.ref r) "range" := ⟨_, hr, rfl⟩
  refine wpAny_call_entry F.slot_range_reversed hT F.entry_range_reversed ?_ (F.args_range_reversed_1 _)
  unfold Builtin.«range.__reversed__»
  refine wpAny_bind (wpAny_of_eq (a := Value.ref r) rfl ?_)
  refine wpAny_bind ?_
  unfold Builtin.Range.rangeFields
  refine wpAny_bind (wpAny_field hr rfl (x := .int 0 t) rfl ?_)
  refine wpAny_bind (wpAny_of_eq (a := some 0) rfl ?_)
  refine wpAny_bind (wpAny_field hr rfl (x := .int (n : Int) u) rfl ?_)
  refine wpAny_bind (wpAny_of_eq (a := some (n : Int)) rfl ?_)
  refine wpAny_bind (wpAny_field hr rfl (x := .int 1 v) rfl ?_)
  rw [show asInt? (Value.int 1 v) = pure (some (1 : Int)) from rfl, pure_bind]
  show wpAny _ _ (pure ((0 : Int), (n : Int), (1 : Int))) _ _ _
  refine wpAny_pure ?_
  dsimp only
  rw [rangeSize0]
  have hsm : (Builtin.Range.rangeFitsLong 0 && Builtin.Range.rangeFitsLong (n : Int) && Builtin.Range.rangeFitsLong 1 && Builtin.Range.rangeFitsLong (-1) && Builtin.Range.rangeFitsLong (0 - 1) && Builtin.Range.rangeFitsLong (n : Int)) = true := by
    simp only [Builtin.Range.rangeFitsLong, Bool.and_eq_true, decide_eq_true_eq]
    omega
  simp only [hsm, Bool.not_true, Bool.false_eq_true, if_false, if_true]
  exact wpAny_bind (wpAny_newObj_type (wpAny_pure ⟨_, rfl, h⟩))
theorem code_reversed_newR {r : Addr} {n : Nat} {t u v : Tok} {Q₁ : Value → Shared → Prop} (hn : (n : Int) < 2 ^ 62) (hr : IsRange s.heap r 0 (n : Int) 1 t u v)
    (h : Q₁ (.ref s.heap.objs.size) { s with heap := s.heap.push (rrObj n) }) :
    codeAny (model prog w) A (.call (.builtin "reversed.__new__") ⟨[.type "reversed", .ref r], []⟩) (wants Q₁ E) s := by
  have hT : s.TypeIs (.ref r) "range" := ⟨_, hr, rfl⟩
  refine codeAny_of_tree ?_
  show wpAny _ A.in1 (do checkBuiltinCall "reversed.__new__" ⟨[.type "reversed", .ref r], []⟩; again (.builtin "reversed.__new__" ⟨[.type "reversed", .ref r], []⟩)) _ _ s
  refine wpAny_bind (wpAny_of_eq (F.newCall_reversed_1 _) (wpAny_pure ⟨plainId_quiet F.plain_reversed_new _, codeAny_builtin F.entry_reversed_new ?_⟩))
  rw [Around.under_plainId F.plain_reversed_new _]
  unfold Builtin.«reversed.__new__»
  refine wpAny_bind (wpAny_of_eq (newClass_reversed _) ?_)
  try dsimp only
  refine wpAny_bind (wpAny_of_eq (a := ()) (by first | rfl | kernel_rfl) ?_)
  refine wpAny_bind (wpAny_of_eq (a := ()) (by first | rfl | kernel_rfl) ?_)
  try dsimp only
  refine wpAny_bind (wpAny_specialOf hT F.slot_range_reversed.lookup ?_)
  try dsimp only
  refine wpAny_bind (wpAny_of_eq (F.slot_range_reversed.bind _) ?_)
  try dsimp only
  first
  | rw [if_neg (show ¬ ((Value.builtin "range.__reversed__" == Value.none) = true) from Bool.false_ne_true)]
  | (show wpAny _ _ (if (Value.builtin "range.__reversed__" == Value.none) = true then _ else _) _ _ _; rw [if_neg (show ¬ ((Value.builtin "range.__reversed__" == Value.none) = true) from Bool.false_ne_true)])
  refine wpAny_bind (wpAny_rule ?_)
  refine wpAny_bind (m := runValue (.call (.builtin "range.__reversed__") ⟨[.ref r], []⟩)) (show wpAny _ _ (call (.builtin "range.__reversed__") [.ref r]) _ _ _ from call_range_reversed hn hr ?_)
  first
  | exact wpAny_pure h
  | exact wpAny_bind (wpAny_pure (wpAny_pure h))
theorem sub_ri_reversed : isSubtype (.type "range_iterator") (.type "reversed") = pure false := by rw [isSubtype_type]; kernel_rfl
theorem call_reversed_range {r : Addr} {n : Nat} {t u v : Tok} {Q : Value → Shared → Prop} (hn : (n : Int) < 2 ^ 62) (hr : IsRange s.heap r 0 (n : Int) 1 t u v)
    (h : Q (.ref s.heap.objs.size) { s with heap := s.heap.push (rrObj n) }) : wpAny (model prog w) A (call (.type "reversed") [.ref r]) Q E s := by
  refine callType_other (U := "range_iterator") (Q₁ := fun obj s₁ => obj = .ref s.heap.objs.size ∧ s₁ = { s with heap := s.heap.push (rrObj n) }) (by decide +kernel) F.create_reversed ⟨_, _, F.mro_reversed⟩ F.made_reversed sub_ri_reversed (F.typeCall_reversed_1 _) (code_reversed_newR hn hr ⟨rfl, rfl⟩) ?_
  rintro obj s₁ ⟨rfl, rfl⟩
  exact ⟨⟨_, Heap.get?_push_size _ rfl, rfl⟩, h⟩
end
def iRevR (ta : TA) : TI := fun σ H R => ta σ H fun vs H1 => ∃ n : Nat, vs = [.int (n : Int)] ∧ (n : Int) < 2 ^ 62 ∧ R (Itc ((n : Int) - 1) (-1) n) H1
section
variable {X : Cx} {tg : Expr}
theorem pi_revRange {a : Expr} {ta : TA} {p p2 pos pos2 : Pos} (hl : Gl X "reversed") (hml : X.mg "reversed" = none) (hg : Gl X "range") (hm : X.mg "range" = none) (ha : PA X [a] ta) (hs : starEach [a] X.env = [(false, eval a X.env)] := by rfl)
    (hs2 : starEach [.Call (.Name "range" p) [a] [] pos] X.env = [(false, eval (.Call (.Name "range" p) [a] [] pos) X.env)] := by rfl) :
    PI X tg (.Call (.Name "reversed" p2) [.Call (.Name "range" p) [a] [] pos] [] pos2) (iRevR ta) := by
  intro pins s σ H R I h
  refine Call_ (ld_blt I hl hml boot_reversed5 (PyProof.Rows.callWith_type1 ?_ hs2 rfl))
  rw [hs2]
  show wpAny _ _ (spliced [(false, eval (.Call (.Name "range" p) [a] [] pos) X.env)]) _ _ s
  refine Calls.spliced_cons (ev_range1 hg hm ha I h (fun s2 n H1 t u v r I2 hn hr q => Calls.spliced_nil ?_) hs)
  have st : IsRangeIter (s2.heap.push (rrObj n)) s2.heap.objs.size ((n : Int) - 1 + ((0 : Nat) : Int) * -1) ((n : Int) - ((0 : Nat) : Int)) (-1) := by
    have e1 : (n : Int) - 1 + ((0 : Nat) : Int) * -1 = 0 + ((n : Int) - 1) * 1 := by omega
    have e2 : (n : Int) - ((0 : Nat) : Int) = (n : Int) := by omega
    rw [e1, e2]
    exact Heap.get?_push_size _ rfl
  refine call_reversed_range hn hr (wpAny_pyIter_rangeiter (x := (n : Int) - 1 + ((0 : Nat) : Int) * -1) (left := (n : Int) - ((0 : Nat) : Int)) (step := -1) st ?_)
  exact pi_one (tk := s2.toks) I2 _ (turn_rangeC _ ((n : Int) - 1) (-1) n) st q
/-! xs[::-1] -/
theorem sliceRange_down (n : Nat) : sliceRange ((n : Int) - 1) (-1) (-1) = (List.range n).reverse := by
  unfold sliceRange
  have e : (if ((n : Int) - 1) > -1 then ((n : Int) - 1 - -1 - -1 - 1) / (- -1) else 0) = (n : Int) := by
    by_cases h : ((n : Int) - 1) > -1
    · rw [if_pos h, show (- -1 : Int) = 1 by decide, Int.ediv_one]; omega
    · rw [if_neg h]; omega
  rw [if_neg (by decide), e]
  dsimp only
  rw [Int.toNat_natCast]
  refine List.ext_getElem (by simp) fun i h1 h2 => ?_
  rw [List.getElem_map, List.getElem_range, List.getElem_reverse, List.getElem_range, List.length_range]
  simp at h1
  omega
theorem slicePick_rev (its : List Value) : slicePick its.toArray none none (some (-1)) = its.reverse.toArray := by
  unfold slicePick
  have e : sliceBounds none none (some (-1)) its.toArray.size = ((its.length : Int) - 1, -1, -1) := by
    unfold sliceBounds
    simp
  rw [e]
  dsimp only
  rw [sliceRange_down]
  congr 1
  rw [List.filterMap_reverse]
  congr 1
  have : ∀ k, (List.range k).filterMap (fun i => its.toArray[i]?) = its.take k := by
    intro k
    induction k with
    | zero => rfl
    | succ k ih =>
      rw [List.range_succ, List.filterMap_append, ih, List.take_add_one]
      congr 1
      cases e : its[k]? with
      | none => simp [e]
      | some v => simp [e]
  have h := this its.length
  rw [List.take_length] at h
  exact h
def tSlRev (K : PySem.W.Frag) (te : TE) (ts : TO) : TE := fun σ H Q => te σ H fun x H1 => ts σ H1 fun st H2 => st = some (-1) ∧ ∃ (a : Addr) (xs : List V), x = .ref a ∧ SqL K H2 a xs ∧ ∀ p, H2 p = none → Q (.ref p) (upd H2 p (.lst xs.reverse))
theorem pe_sliceRev {e st : Expr} {te : TE} {ts : TO} {pos p2 : Pos} (he : PE X e te) (ht : PO X (some st) ts) : PE X (.Subscript e (.Slice none none (some st) p2) pos) (tSlRev X.K te ts) := by
  intro pins s σ H Q I h
  refine Subscript_ (thn (he pins s σ H _ I h) fun v s1 ⟨x, H1, I1, r1, q1⟩ => ?_)
  refine wpAny_Slice (thn (po_none (X := X) pins s1 σ H1 (fun l H2 => l = none ∧ ts σ H2 fun st H3 => st = some (-1) ∧ ∃ (a : Addr) (xs : List V), x = .ref a ∧ SqL X.K H3 a xs ∧ ∀ p, H3 p = none → Q (.ref p) (upd H3 p (.lst xs.reverse))) I1 ⟨rfl, q1⟩) fun vl s2 ⟨l, H2, I2, pl, q2⟩ => thn (po_none (X := X) pins s2 σ H2 (fun u H3 => u = none ∧ ts σ H3 fun st H4 => st = some (-1) ∧ ∃ (a : Addr) (xs : List V), x = .ref a ∧ SqL X.K H4 a xs ∧ ∀ p, H4 p = none → Q (.ref p) (upd H4 p (.lst xs.reverse))) I2 ⟨rfl, q2.2⟩) fun vu s3 ⟨u, H3, I3, pu, q3⟩ => thn (ht pins s3 σ H3 _ I3 q3.2) fun vt s4 ⟨tt, H4, I4, pt, q4⟩ => ?_)
  obtain ⟨el, _⟩ := q2
  obtain ⟨eu, _⟩ := q3
  obtain ⟨et, a, xs, ex, hx, q⟩ := q4
  subst el eu et ex
  cases r1
  have I5 : Inv X pins σ H4 { s4 with heap := s4.heap.push { cls := .type "slice", data := .fields #[vl, vu, vt] } } := I4.kept (t' := s4.toks) fun b ob q => Heap.get?_push_of_some _ q
  obtain ⟨its, r, ht', hz⟩ := I5.list hx
  have hlen := r.length
  show wpAny (model X.prog X.w) X.A (subscriptTail e (.Slice none none (some st) p2) (.ref a) (.ref s4.heap.objs.size)) (EP X pins σ Q) X.xe { s4 with heap := s4.heap.push { cls := .type "slice", data := .fields #[vl, vu, vt] } }
  refine tail_any (ops := [.ref a, .ref s4.heap.objs.size]) ht'.isList.typeIs slot_list_getitem.lookup ?_ (by with_unfolding_all rfl)
  refine wpAny_getItem_list_slice ht'.isList (Heap.IsSliceOf.new ..) pl pu pt (by decide) ?_ (by rw [List.size_toArray] <;> omega)
  rw [slicePick_rev]
  generalize hs5 : ({ s4 with heap := s4.heap.push { cls := .type "slice", data := .fields #[vl, vu, vt] } } : Shared) = s5 at I5
  refine ⟨.ref s5.heap.objs.size, _, I5.laid (t' := s5.toks) (o := .lst xs.reverse) (fun b ob q => Heap.get?_push_of_some _ q) (Nat.le_refl _) ?_, ?_, q _ (I5.hok.fresh (Nat.le_refl _))⟩
  · exact ⟨by rw [List.length_reverse]; exact hz, _, 0, r.reverse, by subst hs5; exact Heap.get?_push_size _ rfl⟩
  · subst hs5; rfl
end
end L2

set_option Elab.async false
set_option linter.all false
set_option maxRecDepth 100000
set_option maxHeartbeats 4000000
namespace WM
open PySem
/-! all plans from a stand, least costs, how many, the first -/
def bh (l : List Nat) (st : Std) (t : Int) : Std := ((st.1 + t) % (l.length : Int), wb st.2 t)
def PF (l : List Nat) : List Nat → Int → List (List Int)
  | [], _ => [[]]
  | c :: o, p => (tts l p c).flatMap fun t => (PF l o ((p + t) % (l.length : Int))).map (t :: ·)
def cw (s : Int) : Int → List Int → Int
  | _, [] => 0
  | w, t :: ts => tc w t s + cw s (wb w t) ts
def cs (l : List Nat) (s : Int) (o : List Nat) (st : Std) : List Int := (PF l o st.1).map (cw s st.2)
theorem cs_nil (l : List Nat) (s : Int) (st : Std) : cs l s [] st = [0] := rfl
theorem cs_cons (l : List Nat) (s : Int) (c : Nat) (o : List Nat) (st : Std) : cs l s (c :: o) st = (tts l st.1 c).flatMap fun t => (cs l s o (bh l st t)).map (tc st.2 t s + ·) := by
  unfold cs
  show List.map _ (List.flatMap _ _) = _
  rw [List.map_flatMap]
  congr 1
  funext t
  rw [List.map_map, List.map_map]
  rfl
theorem cf_go (s : Int) : ∀ (ts : List Int) (a w : Int), (ts.foldl (fun p t => (p.1 + tc p.2 t s, wb p.2 t)) (a, w)).1 = a + cw s w ts
  | [], a, w => by show a = a + 0; omega
  | t :: ts, a, w => by
    rw [List.foldl_cons, cf_go s ts]
    show a + tc w t s + cw s (wb w t) ts = a + (tc w t s + cw s (wb w t) ts)
    omega
theorem cf_cw (s : Int) (ts : List Int) : (cf s ts).1 = cw s 0 ts := by
  unfold cf
  rw [cf_go]
  omega
/-- the least of a list, and how often it is there -/
structure Nd (xs : List Int) (x : Int × Int) : Prop where
  mem : x.1 ∈ xs
  le : ∀ y ∈ xs, x.1 ≤ y
  cnt : x.2 = (xs.count x.1 : Nat)
theorem Nd.uniq {xs : List Int} {x y : Int × Int} (a : Nd xs x) (b : Nd xs y) : x = y := by
  have e : x.1 = y.1 := Int.le_antisymm (a.le _ b.mem) (b.le _ a.mem)
  refine Prod.ext e ?_
  rw [a.cnt, b.cnt, e]
theorem count_map_add (xs : List Int) (a k : Int) : (xs.map (a + ·)).count (a + k) = xs.count k := by
  induction xs with
  | nil => rfl
  | cons x xs ih =>
    rw [List.map_cons, List.count_cons, List.count_cons, ih]
    congr 1
    by_cases h : x = k
    · subst h; simp
    · rw [if_neg (by simpa using h), if_neg (by simp; omega)]
theorem count_none {xs : List Int} {k : Int} (h : ∀ y ∈ xs, k < y) : xs.count k = 0 := List.count_eq_zero.mpr fun m => by have := h k m; omega
/-- one sign ahead -/
theorem Nd.step {α : Type} {ts : List α} {f : α → Int} {X : α → List Int} {nd : α → Int × Int} (h : ∀ t ∈ ts, Nd (X t) (nd t)) {k c : Int} (hk : k ∈ ts.map fun t => f t + (nd t).1) (hl : ∀ y ∈ ts.map (fun t => f t + (nd t).1), k ≤ y)
    (hc : c = ((ts.filter fun t => decide (f t + (nd t).1 = k)).map fun t => (nd t).2).sum) : Nd (ts.flatMap fun t => (X t).map (f t + ·)) (k, c) := by
  refine ⟨?_, ?_, ?_⟩
  · obtain ⟨t, ht, e⟩ := List.mem_map.mp hk
    refine List.mem_flatMap.mpr ⟨t, ht, List.mem_map.mpr ⟨_, (h t ht).mem, e⟩⟩
  · intro y hy
    obtain ⟨t, ht, hy⟩ := List.mem_flatMap.mp hy
    obtain ⟨z, hz, rfl⟩ := List.mem_map.mp hy
    have h1 := (h t ht).le z hz
    have h2 := hl _ (List.mem_map.mpr ⟨t, ht, rfl⟩)
    dsimp only at h2 ⊢
    omega
  · dsimp only
    rw [hc]
    clear hc hk
    induction ts with
    | nil => rfl
    | cons t ts ih =>
      have h2 := hl _ (List.mem_map.mpr ⟨t, List.mem_cons_self, rfl⟩)
      rw [List.flatMap_cons, List.count_append, Int.natCast_add, ← ih (fun t m => h t (List.mem_cons_of_mem _ m)) (fun y m => hl y (by rw [List.map_cons]; exact List.mem_cons_of_mem _ m)), List.filter_cons]
      have hn := h t List.mem_cons_self
      by_cases e : f t + (nd t).1 = k
      · rw [if_pos (by simpa using e), List.map_cons, List.sum_cons]
        congr 1
        rw [← e, count_map_add, hn.cnt]
      · rw [if_neg (by simpa using e), count_none (fun y hy => ?_)]
        · simp
        · obtain ⟨z, hz, rfl⟩ := List.mem_map.mp hy
          have := hn.le z hz
          omega
theorem tts_ne {l : List Nat} {p : Int} {c : Nat} (hp : 1 ≤ l.length) (hc : c ∈ l) : ∃ t, t ∈ tts l p c := by
  obtain ⟨i, hi, e⟩ := List.getElem_of_mem hc
  refine ⟨(i : Int) - p % (l.length : Int), (mem_tts hp).mpr ⟨?_, ?_⟩⟩
  · have := Int.emod_nonneg p (show (l.length : Int) ≠ 0 by omega)
    have := Int.emod_lt_of_pos p (show (0 : Int) < l.length by omega)
    omega
  · have e1 : (p + ((i : Int) - p % (l.length : Int))) % (l.length : Int) = (i : Int) := by
      have h1 := Int.mul_ediv_add_emod p (l.length : Int)
      have e2 : p + ((i : Int) - p % (l.length : Int)) = (i : Int) + (l.length : Int) * (p / (l.length : Int)) := by omega
      rw [e2, Int.add_mul_emod_self_left]
      exact Int.emod_eq_of_lt (by omega) (by omega)
    rw [e1, Int.toNat_natCast, List.getD_eq_getElem?_getD, List.getElem?_eq_getElem hi, Option.getD_some, e]
theorem cs_ne {l : List Nat} {s : Int} (hp : 1 ≤ l.length) : ∀ {o : List Nat} (st : Std), (∀ c ∈ o, c ∈ l) → ∃ k, k ∈ cs l s o st
  | [], st, _ => ⟨0, by rw [cs_nil]; exact List.mem_cons_self⟩
  | c :: o, st, h => by
    obtain ⟨t, ht⟩ := tts_ne (p := st.1) hp (h c List.mem_cons_self)
    obtain ⟨k, hk⟩ := cs_ne hp (o := o) (bh l st t) fun c m => h c (List.mem_cons_of_mem _ m)
    exact ⟨_, by rw [cs_cons]; exact List.mem_flatMap.mpr ⟨t, ht, List.mem_map.mpr ⟨k, hk, rfl⟩⟩⟩
theorem min_ex : ∀ {xs : List Int}, (∃ k, k ∈ xs) → ∃ m, m ∈ xs ∧ ∀ y ∈ xs, m ≤ y
  | [], ⟨k, h⟩ => nomatch h
  | [x], _ => ⟨x, List.mem_cons_self, fun y hy => by rw [List.mem_singleton.mp hy]; exact Int.le_refl _⟩
  | x :: y :: xs, _ => by
    obtain ⟨m, hm, hl⟩ := min_ex (xs := y :: xs) ⟨y, List.mem_cons_self⟩
    by_cases h : x ≤ m
    · refine ⟨x, List.mem_cons_self, fun z hz => ?_⟩
      rcases List.mem_cons.mp hz with rfl | hz
      · exact Int.le_refl _
      · exact Int.le_trans h (hl z hz)
    · refine ⟨m, List.mem_cons_of_mem _ hm, fun z hz => ?_⟩
      rcases List.mem_cons.mp hz with rfl | hz
      · omega
      · exact hl z hz
theorem Nd.ex {xs : List Int} (h : ∃ k, k ∈ xs) : ∃ x, Nd xs x := by
  obtain ⟨m, hm, hl⟩ := min_ex h
  exact ⟨(m, (xs.count m : Nat)), hm, hl, rfl⟩
/-- what the rest of a word needs from a stand -/
noncomputable def nd (l : List Nat) (s : Int) (o : List Nat) (st : Std) : Int × Int := open Classical in if h : ∃ x, Nd (cs l s o st) x then h.choose else (0, 0)
theorem nd_ok {l : List Nat} {s : Int} {o : List Nat} (hp : 1 ≤ l.length) (h : ∀ c ∈ o, c ∈ l) (st : Std) : Nd (cs l s o st) (nd l s o st) := by
  have hx := Nd.ex (cs_ne (s := s) hp st h)
  unfold nd
  rw [dif_pos hx]
  exact hx.choose_spec
theorem nd_eq {l : List Nat} {s : Int} {o : List Nat} {st : Std} {x : Int × Int} (h : Nd (cs l s o st) x) : nd l s o st = x := by
  have hx : ∃ x, Nd (cs l s o st) x := ⟨x, h⟩
  unfold nd
  rw [dif_pos hx]
  exact hx.choose_spec.uniq h
theorem nd_nil (l : List Nat) (s : Int) (st : Std) : nd l s [] st = (0, 1) := nd_eq ⟨by rw [cs_nil]; exact List.mem_cons_self, fun y hy => by rw [cs_nil] at hy; rw [List.mem_singleton.mp hy]; exact Int.le_refl _, by rw [cs_nil]; rfl⟩
theorem nd_cons {l : List Nat} {s : Int} {c : Nat} {o : List Nat} {st : Std} (hp : 1 ≤ l.length) (h : ∀ c ∈ o, c ∈ l) {k n : Int} (hk : k ∈ (tts l st.1 c).map fun t => tc st.2 t s + (nd l s o (bh l st t)).1) (hl : ∀ y ∈ (tts l st.1 c).map (fun t => tc st.2 t s + (nd l s o (bh l st t)).1), k ≤ y)
    (hc : n = (((tts l st.1 c).filter fun t => decide (tc st.2 t s + (nd l s o (bh l st t)).1 = k)).map fun t => (nd l s o (bh l st t)).2).sum) : nd l s (c :: o) st = (k, n) := by
  refine nd_eq ?_
  rw [cs_cons]
  exact Nd.step (nd := fun t => nd l s o (bh l st t)) (fun t _ => nd_ok hp h (bh l st t)) hk hl hc
/-- the turns by which nothing is lost -/
noncomputable def fit (l : List Nat) (s : Int) (c : Nat) (o : List Nat) (st : Std) : List Int := (tts l st.1 c).filter fun t => decide (tc st.2 t s + (nd l s o (bh l st t)).1 = (nd l s (c :: o) st).1)
noncomputable def lp (l : List Nat) (s : Int) : List Nat → Std → List Int
  | [], _ => []
  | c :: o, st => (fit l s c o st).headD 0 :: lp l s o (bh l st ((fit l s c o st).headD 0))
theorem filter_head {α : Type} {p : α → Bool} : ∀ {xs : List α} {t : α} {r : List α}, xs.filter p = t :: r → ∃ A B, xs = A ++ t :: B ∧ (∀ a ∈ A, p a = false) ∧ p t = true
  | [], _, _, h => nomatch h
  | x :: xs, t, r, h => by
    cases e : p x with
    | true =>
      rw [List.filter_cons, e, if_pos rfl] at h
      injection h with h1 h2
      subst h1
      exact ⟨[], xs, rfl, (fun a m => nomatch m), e⟩
    | false =>
      rw [List.filter_cons, e, if_neg Bool.false_ne_true] at h
      obtain ⟨A, B, rfl, h1, h2⟩ := filter_head h
      exact ⟨x :: A, B, rfl, fun a m => by rcases List.mem_cons.mp m with rfl | m; exact e; exact h1 a m, h2⟩
theorem fit_ne {l : List Nat} {s : Int} {c : Nat} {o : List Nat} (hp : 1 ≤ l.length) (h : ∀ x ∈ c :: o, x ∈ l) (st : Std) : ∃ t r, fit l s c o st = t :: r := by
  have hn := nd_ok (s := s) hp h st
  have hm := hn.mem
  rw [cs_cons] at hm
  obtain ⟨t, ht, hm⟩ := List.mem_flatMap.mp hm
  obtain ⟨z, hz, e⟩ := List.mem_map.mp hm
  have ho := nd_ok (s := s) (o := o) hp (fun x m => h x (List.mem_cons_of_mem _ m)) (bh l st t)
  have h1 := ho.le z hz
  have h2 := hn.le (tc st.2 t s + (nd l s o (bh l st t)).1) (by rw [cs_cons]; exact List.mem_flatMap.mpr ⟨t, ht, List.mem_map.mpr ⟨_, ho.mem, rfl⟩⟩)
  have hmem : t ∈ fit l s c o st := List.mem_filter.mpr ⟨ht, decide_eq_true (by omega)⟩
  cases e : fit l s c o st with
  | nil => rw [e] at hmem; cases hmem
  | cons a r => exact ⟨a, r, rfl⟩
/-- the plan is the first of all that cost least -/
theorem lp_first {l : List Nat} {s : Int} (hp : 1 ≤ l.length) : ∀ {o : List Nat} (st : Std), (∀ c ∈ o, c ∈ l) → ∃ A B, PF l o st.1 = A ++ lp l s o st :: B ∧ cw s st.2 (lp l s o st) = (nd l s o st).1 ∧ ∀ x ∈ A, (nd l s o st).1 < cw s st.2 x
  | [], st, _ => ⟨[], [], rfl, by rw [nd_nil]; rfl, fun x m => nomatch m⟩
  | c :: o, st, h => by
    obtain ⟨t, r, e⟩ := fit_ne (s := s) hp h st
    have ho : ∀ x ∈ o, x ∈ l := fun x m => h x (List.mem_cons_of_mem _ m)
    obtain ⟨A, B, eA, hA, ht⟩ := filter_head e
    have elp : lp l s (c :: o) st = t :: lp l s o (bh l st t) := by
      show (fit l s c o st).headD 0 :: lp l s o (bh l st ((fit l s c o st).headD 0)) = _
      rw [e]; rfl
    obtain ⟨A', B', eP, hc, hA'⟩ := lp_first (s := s) hp (o := o) (bh l st t) ho
    have hte := of_decide_eq_true ht
    rw [elp]
    refine ⟨(A.flatMap fun t => (PF l o ((st.1 + t) % (l.length : Int))).map (t :: ·)) ++ A'.map (t :: ·), B'.map (t :: ·) ++ (B.flatMap fun t => (PF l o ((st.1 + t) % (l.length : Int))).map (t :: ·)), ?_, ?_, ?_⟩
    · show (tts l st.1 c).flatMap _ = _
      rw [eA, List.flatMap_append, List.flatMap_cons, show (st.1 + t) % (l.length : Int) = (bh l st t).1 from rfl, eP, List.map_append, List.map_cons]
      simp only [List.append_assoc, List.cons_append]
    · show tc st.2 t s + cw s (wb st.2 t) (lp l s o (bh l st t)) = _
      rw [← hte, ← hc]
      rfl
    · intro x hx
      rcases List.mem_append.mp hx with hx | hx
      · obtain ⟨a, ha, hx⟩ := List.mem_flatMap.mp hx
        obtain ⟨y, hy, rfl⟩ := List.mem_map.mp hx
        have h1 := (nd_ok (s := s) hp ho (bh l st a)).le (cw s (wb st.2 a) y) (List.mem_map.mpr ⟨y, hy, rfl⟩)
        have h2 := (nd_ok (s := s) hp h st).le (tc st.2 a s + (nd l s o (bh l st a)).1) (by
          rw [cs_cons]
          exact List.mem_flatMap.mpr ⟨a, by rw [eA]; exact List.mem_append_left _ ha, List.mem_map.mpr ⟨_, (nd_ok (s := s) hp ho (bh l st a)).mem, rfl⟩⟩)
        have h3 := of_decide_eq_false (hA a ha)
        show _ < tc st.2 a s + cw s (wb st.2 a) y
        omega
      · obtain ⟨y, hy, rfl⟩ := List.mem_map.mp hx
        have h1 := hA' y hy
        show _ < tc st.2 t s + cw s (wb st.2 t) y
        have : cw s (bh l st t).2 y = cw s (wb st.2 t) y := rfl
        omega
/-! plans are told in order -/
/-- the costs gone through from the front -/
theorem xf_go (l : List Nat) (s : Int) : ∀ (o : List Nat) (X : List (Std × Int)), (o.foldl (fun X c => stp l c s X) X).map (·.2) = X.flatMap fun x => (cs l s o x.1).map (x.2 + ·)
  | [], X => by
    show X.map (·.2) = X.flatMap fun x => [x.2 + 0]
    induction X with
    | nil => rfl
    | cons x X ih => rw [List.map_cons, List.flatMap_cons, ih, Int.add_zero]; rfl
  | c :: o, X => by
    rw [List.foldl_cons, xf_go l s o]
    unfold stp
    rw [List.flatMap_assoc]
    congr 1
    funext x
    unfold cnd
    rw [List.flatMap_map, cs_cons, List.map_flatMap]
    congr 1
    funext t
    rw [List.map_map]
    show (cs l s o (bh l x.1 t)).map _ = _
    congr 1
    funext k
    show x.2 + tc x.1.2 t s + k = x.2 + (tc x.1.2 t s + k)
    omega
theorem Xf_cs (l : List Nat) (s p : Int) (o : List Nat) : (Xf l s p o).map (·.2) = cs l s o (p, 0) := by
  unfold Xf
  rw [xf_go, List.flatMap_cons, List.flatMap_nil, List.append_nil]
  have : (fun x : Int => (0 : Int) + x) = id := by funext x; simp
  show (cs l s o (p, 0)).map (fun x => 0 + x) = _
  rw [this, List.map_id]
end WM

set_option Elab.async false
set_option linter.all false
set_option maxRecDepth 100000
set_option maxHeartbeats 4000000
namespace L2
open PySem WM
theorem enum_snoc (l : List Nat) (i : Nat) {x : Nat} (h : l[i]? = some x) : (l.take (i + 1)).zipIdx = (l.take i).zipIdx ++ [(x, i)] := by
  rw [List.take_add_one, h, List.zipIdx_append]
  congr 1
  have hl := (List.getElem?_eq_some_iff.mp h).1
  rw [List.length_take, Nat.min_eq_left (by omega)]
  simp
section
variable {D : Addr} {g : TG} {tt : TT} {te : TE} {vs : List Nat} {σ : St} {H1 : Hp} {Qd : Hp → Prop}
/-- for i, x in enumerate(text), in a comprehension, values told -/
theorem lc_enumSP {l : List Nat} (p : Nat → Nat → Bool) (f : Nat → Nat → V) (hD : H1 D = none) (hz : l.length < sizeLine)
    (hs : ∀ i x T H, l[i]? = some x → Same H1 H → H T = none → LcTurnP g tt te vs σ (.ref T) (upd H T (.tup [.int (i : Nat), .str (txt [x])])) (p i x) (f i x))
    (hd : ∀ H', Same H1 H' → H' D = some (.lst ((l.zipIdx.filter fun y => p y.2 y.1).map fun y => f y.2 y.1)) → Qd H') :
    ∃ W : Nat → Nat → Hp → Prop, (∃ m, W 0 m (upd H1 D (.lst []))) ∧ ∀ i m H, W i m H →
      ((Ites (txt l)).stop i H ∧ Qd H) ∨ ((Ites (txt l)).go i H ∧ ∃ Nx : Hp → Prop, (∀ H', Nx H' → ∃ m', m' < m ∧ W (i + 1) m' H') ∧ ∀ x H', (Ites (txt l)).yld i H x H' → g x (wipe σ vs) H' fun σ2 H2 => wipe σ2 vs = wipe σ vs ∧ tt σ2 H2 fun b H3 =>
        if b = true then te σ2 H3 fun y H4 => ∃ acc, H4 D = some (.lst acc) ∧ acc.length < sizeLine ∧ Nx (upd H4 D (.lst (acc ++ [y]))) else Nx H3) := by
  refine lc_enumS (fun i H => i ≤ l.length ∧ Same H1 H ∧ H D = some (.lst (((l.take i).zipIdx.filter fun y => p y.2 y.1).map fun y => f y.2 y.1))) ⟨Nat.zero_le _, Same.new' hD, upd_same⟩ (fun i c T H hc h hT => ?_) (fun H h => ?_)
  · obtain ⟨hi, s, hL⟩ := h
    have hc' : l[i]? = some c := by simpa [txt] using hc
    have hlt := (List.getElem?_eq_some_iff.mp hc').1
    have hDT : D ≠ T := ne_of_none hL hT
    have hL' : (upd H T (.tup [.int (i : Nat), .str (txt [c])])) D = some (.lst (((l.take i).zipIdx.filter fun y => p y.2 y.1).map fun y => f y.2 y.1)) := by rw [upd_ne hDT]; exact hL
    have s' : Same H1 (upd H T (.tup [.int (i : Nat), .str (txt [c])])) := s.trans (Same.new' hT)
    refine hs i c T H hc' s hT _ _ (fun e H' s2 => ?_) (fun e H' s2 => ?_)
    · refine ⟨_, s2 _ _ hL', ?_, hlt, (s'.trans s2).upd' hD, ?_⟩
      · rw [List.length_map]
        have := List.length_filter_le (fun y : Nat × Nat => p y.2 y.1) (l.take i).zipIdx
        rw [List.length_zipIdx, List.length_take] at this
        omega
      · rw [upd_same, enum_snoc l i hc', List.filter_append, List.map_append]
        simp [e]
    · refine ⟨hlt, s'.trans s2, ?_⟩
      rw [s2 _ _ hL', enum_snoc l i hc', List.filter_append, List.map_append]
      simp [e]
  · obtain ⟨hi, s, hL⟩ := h
    have e : (txt l).cps.size = l.length := by show l.toArray.size = _; simp
    rw [e, List.take_length] at hL
    exact hd H s hL
end
end L2
namespace WM
open PySem
theorem eq_sgn (a c : Nat) : decide (L2.V.str (txt [a]) = L2.V.str (txt [c])) = decide (a = c) := decide_eq_decide.mpr ⟨fun h => by
  have := txt_inj (l := [a]) (m := [c]) (L2.V.str.inj h)
  injection this, fun h => by rw [h]⟩
/-- the places of a sign -/
def plc (l : List Nat) (c : Nat) : List Nat := (List.range l.length).filter fun j => decide (l.getD j 0 = c)
theorem mem_plc {l : List Nat} {c j : Nat} : j ∈ plc l c ↔ j < l.length ∧ l.getD j 0 = c := by
  unfold plc
  rw [List.mem_filter, List.mem_range, decide_eq_true_eq]
theorem plc_len (l : List Nat) (c : Nat) : (plc l c).length ≤ l.length := by
  have := List.length_filter_le (fun j => decide (l.getD j 0 = c)) (List.range l.length)
  rwa [List.length_range] at this
theorem plc_go (l : List Nat) (c : Nat) : ∀ i, i ≤ l.length → (((l.take i).zipIdx.filter fun y => decide (y.1 = c)).map fun y => y.2) = (List.range i).filter fun j => decide (l.getD j 0 = c)
  | 0, _ => rfl
  | i + 1, h => by
    have hi : l[i]? = some (l[i]'(by omega)) := List.getElem?_eq_getElem (by omega)
    rw [L2.enum_snoc l i hi, List.filter_append, List.map_append, plc_go l c i (by omega), List.range_succ, List.filter_append]
    congr 1
    have hg : l.getD i 0 = l[i]'(by omega) := by rw [List.getD_eq_getElem?_getD, hi]; rfl
    by_cases e : l[i]'(by omega) = c
    · rw [List.filter_cons_of_pos (by simpa using e), List.filter_cons_of_pos (by rw [hg]; simpa using e)]; rfl
    · rw [List.filter_cons_of_neg (by simpa using e), List.filter_cons_of_neg (by rw [hg]; simpa using e)]; rfl
theorem plc_enum {β : Type} (l : List Nat) (c : Nat) (f : Nat → β) : ((l.zipIdx.filter fun y => decide (y.1 = c)).map fun y => f y.2) = (plc l c).map f := by
  have := plc_go l c l.length (Nat.le_refl _)
  rw [List.take_length] at this
  unfold plc
  rw [← this, List.map_map]
  rfl
/-- the places where the head may stand with so many signs struck -/
def pla (l o : List Nat) (i : Nat) : List Nat := if i = 0 then List.range l.length else plc l (o.getD (i - 1) 0)
theorem pla_len (l o : List Nat) (i : Nat) : (pla l o i).length ≤ l.length := by
  unfold pla
  split
  · rw [List.length_range]; exact Nat.le_refl _
  · exact plc_len _ _
theorem pla_lt {l o : List Nat} {i j : Nat} (h : j ∈ pla l o i) : j < l.length := by
  unfold pla at h
  split at h
  · exact List.mem_range.mp h
  · exact (mem_plc.mp h).1
theorem pla_on {l o : List Nat} {i : Nat} {c : Nat} {p t : Int} (hp : 1 ≤ l.length) (hc : o[i]? = some c) (ht : t ∈ tts l p c) : ∃ j, j ∈ pla l o (i + 1) ∧ (p + t) % (l.length : Int) = (j : Int) := by
  have h1 := ((mem_tts hp).mp ht).2
  have h2 := Int.emod_nonneg (p + t) (show (l.length : Int) ≠ 0 by omega)
  have h3 := Int.emod_lt_of_pos (p + t) (show (0 : Int) < l.length by omega)
  refine ⟨((p + t) % (l.length : Int)).toNat, ?_, by omega⟩
  unfold pla
  rw [if_neg (by omega), show i + 1 - 1 = i by omega, List.getD_eq_getElem?_getD, hc]
  exact mem_plc.mpr ⟨by omega, h1⟩
/-- what a dict of needs tells -/
def NeedRow (l : List Nat) (s : Int) (o : List Nat) (i : Nat) (m : List (Std × (Int × Int))) : Prop := ∀ j ∈ pla l o i, ∀ w : Int, -1 ≤ w → w ≤ 1 → lk m ((j : Int), w) = some (nd l s (o.drop i) ((j : Int), w))
end WM
namespace W
open PySem L2 WM
/-- a pair of ints in the heap -/
def Tr2 (H : Hp) (q : Addr) (x : Int × Int) : Prop := H q = some (.tup [.int x.1, .int x.2])
theorem zip_facts {α β : Type} {R : α → β → Prop} {qs : List α} {xs : List β} (h : All2 R qs xs) : ∀ y ∈ qs.zip xs, R y.1 y.2 := by
  intro y hy
  obtain ⟨i, hi⟩ := List.getElem?_of_mem hy
  obtain ⟨g1, g2⟩ := List.getElem?_zip_eq_some.mp hi
  obtain ⟨b, g3, g4⟩ := h.get g1
  rw [g2] at g3
  cases g3
  exact g4
theorem zip_snd_map {α β γ : Type} {qs : List α} {xs : List β} (h : qs.length = xs.length) (f : β → γ) : (qs.zip xs).map (fun y => f y.2) = xs.map f := by
  have := congrArg (List.map f) (zip_snd h)
  rw [List.map_map] at this
  exact this
theorem zip_filter_map {α β γ : Type} {qs : List α} {xs : List β} (h : qs.length = xs.length) (p : β → Bool) (f : β → γ) : ((qs.zip xs).filter fun y => p y.2).map (fun y => f y.2) = (xs.filter p).map f := by
  induction qs generalizing xs with
  | nil =>
    cases xs with
    | nil => rfl
    | cons => cases h
  | cons a qs ih =>
    cases xs with
    | nil => cases h
    | cons x xs =>
      have hh : qs.length = xs.length := by simpa using h
      rw [List.zip_cons_cons, List.filter_cons, List.filter_cons]
      cases e : p x with
      | true => simp only [e, if_true, List.map_cons]; rw [ih hh]
      | false => simp only [e, Bool.false_eq_true, if_false]; rw [ih hh]
end W
namespace L2
open PySem WM
theorem SqT.same {K : PySem.W.Frag} {H H' : Hp} {a : Addr} {xs : List V} (s : Same H H') (h : SqT K H a xs) : SqT K H' a xs := by
  rcases h with h | h
  · rcases h with e | ⟨o, e⟩
    · exact .inl (.inl (s _ _ e))
    · exact .inl (.inr ⟨o, s _ _ e⟩)
  · exact .inr h
end L2
namespace W
open PySem L2 WM
theorem Tr2.same {H H' : Hp} {q : Addr} {x : Int × Int} (s : Same H H') (h : Tr2 H q x) : Tr2 H' q x := s _ _ h
theorem Tr2.updL {H : Hp} {q r : Addr} {x : Int × Int} {xs : List V} {o : HO} (h : Tr2 H q x) (hr : H r = some (.lst xs)) : Tr2 (upd H r o) q x := by
  unfold Tr2
  rw [upd_ne (ne_of h hr (fun z => nomatch z))]
  exact h
/-- what a dict of pairs tells -/
theorem DicAt.get {H : Hp} {d b : Addr} {m : List (Std × (Int × Int))} {st : Std} {x : Int × Int} (h : DicAt H d m) (e : lk m st = some x) (hb : H b = some (.tup [.int st.1, .int st.2])) : ∃ q, DGet H d (.ref b) (some (.ref q)) ∧ Tr2 H q x := by
  obtain ⟨kvs, hd, hkv⟩ := h
  rcases all2_val (RC.k H) hkv st with ⟨e1, _⟩ | ⟨k1, v1, e1, e2, _, q, ev, hq⟩
  · rw [e] at e1; cases e1
  · rw [e] at e1
    cases e1
    subst ev
    refine ⟨q, ?_, hq⟩
    have := DGet.t (k := key st) (b := b) hd hb
    rw [e2] at this
    exact this
theorem DicAt.getS {K : PySem.W.Frag} {H : Hp} {d b : Addr} {m : List (Std × (Int × Int))} {st : Std} {x : Int × Int} (h : DicAt H d m) (e : lk m st = some x) (hb : SqT K H b [.int st.1, .int st.2]) : ∃ kvs k v q, Rd H d (.dT kvs) ∧ SqT K H b (k.map kV) ∧ valV kvs k = some v ∧ v = .ref q ∧ Tr2 H q x := by
  obtain ⟨kvs, hd, hkv⟩ := h
  rcases all2_val (RC.k H) hkv st with ⟨e1, _⟩ | ⟨k1, v1, e1, e2, _, q, ev, hq⟩
  · rw [e] at e1; cases e1
  · rw [e] at e1
    cases e1
    exact ⟨kvs, key st, v1, q, .inl hd, hb, e2, ev, hq⟩
end W
namespace WM
theorem find_map {β : Type} (g : Std × β → Std × β) (hg : ∀ x, (g x).1 = x.1) (a : Std) : ∀ m : List (Std × β), (m.map g).find? (fun x => decide (x.1 = a)) = (m.find? fun x => decide (x.1 = a)).map g
  | [] => rfl
  | x :: m => by
    rw [List.map_cons, List.find?_cons, List.find?_cons, hg x]
    cases decide (x.1 = a) with
    | true => rfl
    | false => exact find_map g hg a m
theorem lk_pt {β : Type} (m : List (Std × β)) (st : Std) (k : β) (a : Std) : lk (pt m st k) a = if a = st then some k else lk m a := by
  unfold pt
  by_cases h : (m.any fun x => decide (x.1 = st)) = true
  · rw [if_pos h]
    unfold lk
    rw [find_map (fun x => if x.1 = st then (x.1, k) else x) (fun x => by split <;> rfl) a m, Option.map_map]
    by_cases ea : a = st
    · subst ea
      rw [if_pos rfl]
      cases e : m.find? (fun x => decide (x.1 = a)) with
      | none =>
        obtain ⟨x, hx, hd⟩ := List.any_eq_true.mp h
        exact absurd hd (List.find?_eq_none.mp e x hx)
      | some x =>
        have hx := of_decide_eq_true (List.find?_some (p := fun x : Std × β => decide (x.1 = a)) e)
        show some (if x.1 = a then (x.1, k) else x).2 = _
        rw [if_pos hx]
    · rw [if_neg ea]
      cases e : m.find? (fun x => decide (x.1 = a)) with
      | none => rfl
      | some x =>
        have hx := of_decide_eq_true (List.find?_some (p := fun x : Std × β => decide (x.1 = a)) e)
        show some (if x.1 = st then (x.1, k) else x).2 = _
        rw [if_neg (fun z => ea (hx.symm.trans z))]
        rfl
  · rw [if_neg h]
    unfold lk
    rw [List.find?_append]
    by_cases ea : a = st
    · subst ea
      rw [if_pos rfl]
      have : (m.find? fun x => decide (x.1 = a)) = none := List.find?_eq_none.mpr fun x hx hd => h (List.any_eq_true.mpr ⟨x, hx, hd⟩)
      rw [this]
      simp
    · rw [if_neg ea]
      have h1 : decide (st = a) = false := decide_eq_false (fun z => ea z.symm)
      cases (m.find? fun x => decide (x.1 = a)) with
      | some y => rfl
      | none => simp [h1]
theorem pt_len {β : Type} (m : List (Std × β)) (st : Std) (k : β) : (pt m st k).length ≤ m.length + 1 := by
  unfold pt
  split
  · rw [List.length_map]; omega
  · rw [List.length_append]; exact Nat.le_refl _
end WM
namespace W
open PySem L2 WM
theorem DicAt.put {H : Hp} {d b q : Addr} {m : List (Std × (Int × Int))} {st : Std} {x : Int × Int} (h : DicAt H d m) (hb : H b = some (.tup [.int st.1, .int st.2])) (hq : Tr2 H q x) (hl : m.length < sizeLine) :
    ∃ kvs, H d = some (.dT kvs) ∧ DPut H d (.ref b) (.ref q) (upd H d (.dT (putK kvs (key st) (.ref q)))) ∧ DicAt (upd H d (.dT (putK kvs (key st) (.ref q)))) d (pt m st x) := by
  obtain ⟨kvs, hd, hkv⟩ := h
  have keep : ∀ q xs, H q = some (.tup xs) → (upd H d (.dT (putK kvs (key st) (.ref q)))) q = some (.tup xs) := fun q xs e => by rw [upd_ne (ne_of e hd (fun z => nomatch z))]; exact e
  have keep' : ∀ (o : HO) q xs, H q = some (.tup xs) → (upd H d o) q = some (.tup xs) := fun o q xs e => by rw [upd_ne (ne_of e hd (fun z => nomatch z))]; exact e
  refine ⟨kvs, hd, DPut.t hd hb (by rw [← hkv.length]; exact hl), _, upd_same, ?_⟩
  exact all2_put (RC.k _) (hkv.imp fun y kv _ r => r.same (keep' _)) ⟨rfl, q, rfl, keep' _ _ _ hq⟩
theorem DicAt.nil {H : Hp} {d : Addr} : DicAt (upd H d (.dT [])) d [] := ⟨[], upd_same, .nil⟩
end W
namespace L2
theorem All2.append {α β : Type} {R : α → β → Prop} {as as' : List α} {bs bs' : List β} (h : All2 R as bs) (h' : All2 R as' bs') : All2 R (as ++ as') (bs ++ bs') := by
  induction h with
  | nil => exact h'
  | cons r _ ih => exact .cons r ih
theorem All2.rev {α β : Type} {R : α → β → Prop} {as : List α} {bs : List β} (h : All2 R as bs) : All2 R as.reverse bs.reverse := by
  induction h with
  | nil => exact .nil
  | cons r _ ih => rw [List.reverse_cons, List.reverse_cons]; exact ih.append (.cons r .nil)
end L2
namespace WM
theorem drop_cons {o : List Nat} {a c : Nat} (h : o[a]? = some c) : o.drop a = c :: o.drop (a + 1) := by
  obtain ⟨h1, h2⟩ := List.getElem?_eq_some_iff.mp h
  rw [List.drop_eq_getElem_cons h1, h2]
theorem NeedRow.on {l : List Nat} {s : Int} {o : List Nat} {a c : Nat} {m : List (Std × (Int × Int))} (hp : 1 ≤ l.length) (h : NeedRow l s o (a + 1) m) (hc : o[a]? = some c) {p w t : Int} (w0 : -1 ≤ w) (w1 : w ≤ 1) (ht : t ∈ tts l p c) : lk m (bh l (p, w) t) = some (nd l s (o.drop (a + 1)) (bh l (p, w) t)) := by
  obtain ⟨j, hj, e⟩ := pla_on hp hc ht
  have hw := wb_in (t := t) ⟨w0, w1⟩
  have e2 : bh l (p, w) t = ((j : Int), wb w t) := by unfold bh; rw [e]
  rw [e2]
  exact h j hj _ hw.1 hw.2
end WM
namespace L2
open PySem WM
section
variable {g : TG} {tb : TS} {D : Ends} {σ : St} {H : Hp}
/-- for i, c in enumerate(text) -/
theorem for_enumS {l : List Nat} (Pv : Nat → St → Hp → Prop) (h0 : Pv 0 σ H) (hs : ∀ i c T σ H, l[i]? = some c → Pv i σ H → H T = none → g (.ref T) σ (upd H T (.tup [.int (i : Nat), .str (txt [c])])) fun σ2 H2 => tb { D with nx := Pv (i + 1), ct := Pv (i + 1), bk := D.nx } σ2 H2) (hd : ∀ σ H, Pv l.length σ H → D.nx σ H) :
    ∃ W : Nat → Nat → St → Hp → Prop, (∃ m, W 0 m σ H) ∧ ∀ i m σ H, W i m σ H →
      ((Ites (txt l)).stop i H ∧ D.nx σ H) ∨ ((Ites (txt l)).go i H ∧ ∃ N : St → Hp → Prop, (∀ σ' H', N σ' H' → ∃ m', m' < m ∧ W (i + 1) m' σ' H') ∧ ∀ x H', (Ites (txt l)).yld i H x H' → g x σ H' fun σ2 H2 => tb { D with nx := N, ct := N, bk := D.nx } σ2 H2) := by
  have ez : (txt l).cps.size = l.length := by show l.toArray.size = _; simp
  refine ⟨fun i m σ H => m = l.length - i ∧ i ≤ l.length ∧ Pv i σ H, ⟨l.length, by simp, Nat.zero_le _, h0⟩, ?_⟩
  rintro i m σ H ⟨rfl, hi, p⟩
  by_cases hlt : i < l.length
  · refine .inr ⟨by show i < (txt l).cps.size; rw [ez]; exact hlt, Pv (i + 1), fun σ' H' p' => ⟨l.length - (i + 1), by omega, rfl, hlt, p'⟩, fun x H' y => ?_⟩
    obtain ⟨T, c, e1, e2, e3, e4⟩ := y
    subst e1 e4
    have hc : l[i]? = some c := by simpa [txt] using e3
    exact hs i c T σ H hc p e2
  · have e : i = l.length := by omega
    subst e
    exact .inl ⟨by show l.length = (txt l).cps.size; exact ez.symm, hd σ H p⟩
end
end L2
namespace L2
open PySem
theorem SqT.updL {K : PySem.W.Frag} {H : Hp} {a r : Addr} {xs ys : List V} {u : HO} (h : SqT K H a xs) (hr : H r = some (.lst ys)) : SqT K (upd H r u) a xs := by
  rcases h with h | h
  · rcases h with e | ⟨o, e⟩
    · exact .inl (.inl (by rw [upd_ne (ne_of e hr (fun z => nomatch z))]; exact e))
    · exact .inl (.inr ⟨o, by rw [upd_ne (ne_of e hr (fun z => nomatch z))]; exact e⟩)
  · exact .inr h
end L2
namespace W
open PySem L2 WM
theorem isW_len {o : List Nat} (h : isW o = true) : o.length ≤ 80 := by
  unfold isW at h
  rw [Bool.and_eq_true] at h
  exact of_decide_eq_true h.1
end W
namespace W
end W

set_option Elab.async false
set_option linter.all false
set_option maxRecDepth 100000
set_option maxHeartbeats 4000000
namespace L2
open PySem PySem.Spec PyProof.Rows
section
variable {prog : Program} {w : World} {A : Around} {E : Value → Shared → Prop} {s : Shared}
end
section
variable {X : Cx} {pins : List (Addr × Obj)} {σ : St} {H : Hp} {s : Shared} {d : Addr} {o : Obj}
end
/-- the values of the locked dict at d, tuples as keys -/
def Itdt (d : Addr) (o : Obj) (kvs : List (List Key × V)) : It :=
  ⟨fun i H => H d = some (.frz o (.dT kvs)) ∧ i < kvs.length, fun i H x H' => H' = H ∧ ∃ k, kvs[i]? = some (k, x), fun i H => H d = some (.frz o (.dT kvs)) ∧ kvs.length ≤ i⟩
section
variable {P : Program} {w : World} {K : PySem.W.Frag} {tg : Expr} {d : Addr} {o : Obj} {es : Array DictEntry} {ep : Nat}
end
/-- d.values(), d locked, tuples as keys -/
def iValsT (td : TE) : TI := fun σ H R => td σ H fun x H1 => ∃ d o kvs, x = .ref d ∧ H1 d = some (.frz o (.dT kvs)) ∧ R (Itdt d o kvs) H1
section
variable {X : Cx} {tg e : Expr} {td : TE} {apos cpos : Pos}
end
section
variable {D : Addr} {g : TG} {tt : TT} {te : TE} {vs : List Nat} {σ : St} {H1 : Hp} {Qd : Hp → Prop} {α : Type}
end
end L2

set_option Elab.async false
set_option linter.all false
set_option maxRecDepth 100000
set_option maxHeartbeats 4000000
namespace L2
open PySem PySem.Spec PyProof.Rows
structure ApartD (z TI TO i1 i2 : Addr) (fp1 fp2 : List Addr) : Prop where
  TIz : TI ≠ z
  TOz : TO ≠ z
  i1z : i1 ≠ z
  i2z : i2 ≠ z
  TITO : TI ≠ TO
  TIi1 : TI ≠ i1
  TIi2 : TI ≠ i2
  TOi1 : TO ≠ i1
  TOi2 : TO ≠ i2
  i12 : i1 ≠ i2
  f1 : ∀ b ∈ fp1, b ≠ z ∧ b ≠ TO ∧ b ≠ i2
  f2 : ∀ b ∈ fp2, b ≠ z ∧ b ≠ TO ∧ b ≠ i1
section
variable {prog : Program} {w : World} {A : Around} {E : Value → Shared → Prop} {s : Shared}
end
abbrev zG1 (h : Heap) (o1 : Obj) : Heap := h.push o1
abbrev zG2 (h : Heap) (o1 o2 : Obj) : Heap := (zG1 h o1).push o2
abbrev zG3 (h : Heap) (o1 o2 : Obj) : Heap := (zG2 h o1 o2).push { cls := .type "tuple", data := .seq #[.ref h.objs.size, .ref (zG1 h o1).objs.size] }
abbrev zG4 (h : Heap) (o1 o2 : Obj) : Heap := (zG3 h o1 o2).push { cls := .type "tuple", data := .seq #[.none, .none] }
abbrev zG5 (h : Heap) (o1 o2 : Obj) : Heap := (zG4 h o1 o2).push { cls := .type "zip", data := .fields #[.none, .bool false, .bool false, .ref (zG2 h o1 o2).objs.size, .ref (zG3 h o1 o2).objs.size] }
/-- iter(v) is a new object -/
def IterNew (prog : Program) (w : World) (v : Value) (o : Obj) (s : Shared) : Prop := ∀ {A : Around} {Q : Value → Shared → Prop} {E : Value → Shared → Prop}, Q (.ref s.heap.objs.size) { s with heap := s.heap.push o } → wpAny (model prog w) A (pyIter v) Q E s
section
variable {prog : Program} {w : World} {A : Around} {E : Value → Shared → Prop} {s : Shared}
end
def StrTy (ty : String) : Prop := ty = "str_ascii_iterator" ∨ ty = "str_iterator"
/-- zip, LS -/
def ItzLS (K : PySem.W.Frag) (a1 : Addr) (y2 : Str) : It :=
  ⟨fun i H => (∃ (xs : List V) (x : V), SqL K H a1 xs ∧ xs[i]? = some x) ∧ i < y2.cps.size,
    fun i H v H' => ∃ T x y, v = .ref T ∧ H T = none ∧ H' = upd H T (.tup [x, y]) ∧ (∀ xs, SqL K H a1 xs → xs[i]? = some x) ∧ (∃ c, y2.cps[i]? = some c ∧ y = .str ⟨#[c]⟩),
    fun i H => (∃ xs : List V, SqL K H a1 xs ∧ xs.length = i) ∨ ((∃ (xs : List V) (x : V), SqL K H a1 xs ∧ xs[i]? = some x) ∧ (i = y2.cps.size))⟩
/-- zip, SS -/
def ItzSS (y1 : Str) (y2 : Str) : It :=
  ⟨fun i H => i < y1.cps.size ∧ i < y2.cps.size,
    fun i H v H' => ∃ T x y, v = .ref T ∧ H T = none ∧ H' = upd H T (.tup [x, y]) ∧ (∃ c, y1.cps[i]? = some c ∧ x = .str ⟨#[c]⟩) ∧ (∃ c, y2.cps[i]? = some c ∧ y = .str ⟨#[c]⟩),
    fun i H => (i = y1.cps.size) ∨ (i < y1.cps.size ∧ (i = y2.cps.size))⟩
section
variable {X : Cx} {e e2 : Expr} {ta : TA} {p pos tpos : Pos} {elts : List Expr} {kk : Nat}
def iZipLS (K : PySem.W.Frag) (ta : TA) : TI := fun σ H R => ta σ H fun vs H1 => ∃ (a : Addr) (xs : List V) (y : Str), vs = [.ref a, .str y] ∧ SqL K H1 a xs ∧ R (ItzLS K a y) H1
def iZipSS (ta : TA) : TI := fun σ H R => ta σ H fun vs H1 => ∃ x y : Str, vs = [.str x, .str y] ∧ R (ItzSS x y) H1
end
section
variable {g : TG} {tb : TS} {D : Ends} {σ : St} {H : Hp}
open WM
end
end L2

set_option Elab.async false
set_option linter.all false
set_option maxRecDepth 100000
set_option maxHeartbeats 4000000
namespace WM
open PySem
/-- the place behind some turns -/
def atP (l : List Nat) (p : Int) (ts : List Int) : Int := ts.foldl (fun p t => (p + t) % (l.length : Int)) p
end WM
namespace W
open PySem L2 WM
variable {K : PySem.W.Frag}
end W

set_option Elab.async false
set_option linter.all false
set_option maxRecDepth 100000
set_option maxHeartbeats 4000000
namespace L2
open PySem PySem.Spec PyProof.Rows
section
variable {X : Cx}
/-- list.count, flat items -/
def rCountL (K : PySem.W.Frag) : V → List V → Hp → VK → Prop := fun x xs H Q => ∃ (a : Addr) (ys : List V) (y : V), x = V.ref a ∧ xs = [y] ∧ SqL K H a ys ∧ flatV y = true ∧ ys.all flatV = true ∧ Q (.int (ys.countP fun z => eqV z y : Nat)) H
end
end L2

set_option Elab.async false
set_option linter.all false
set_option maxRecDepth 100000
set_option maxHeartbeats 4000000
namespace L2
open PySem PySem.Spec PyProof.Rows
section
open PySem.SeqAt
open PySem.AutoSeq1 (wpAny_loadPart')
open PySem.MeetsSeq PySem.MeetsSeq2 PySem.MeetsSeq3
end
section
variable {X : Cx}
/-- xs < ys of lists of ints, as long -/
def rLtL (K : PySem.W.Frag) : R2 := fun x y H Q => ∃ (a b : Addr) (ns ms : List Int), x = .ref a ∧ y = .ref b ∧ SqL K H a (ns.map V.int) ∧ SqL K H b (ms.map V.int) ∧ ns.length = ms.length ∧ Q (.bl (HT.lexLt ns ms)) H
end
end L2

set_option Elab.async false
set_option linter.all false
set_option maxRecDepth 100000
set_option maxHeartbeats 4000000
namespace W
open PySem L2 WM
theorem zip_refsG {β : Type} : ∀ {qs : List Addr} {xs : List β}, qs.length = xs.length → (qs.zip xs).map (fun x => V.ref x.1) = qs.map V.ref
  | [], [], _ => rfl
  | q :: qs, x :: xs, h => by rw [List.zip_cons_cons, List.map_cons, List.map_cons, zip_refsG (by simpa using h)]
  | [], _ :: _, h => nomatch h
  | _ :: _, [], h => nomatch h
theorem dInts_eqv (ts : List Int) : PyData.eqv (dInts ts) (dInts ts) = true := (Sh.ints ts).eqv
end W
namespace W
open PySem L2 WM
end W
namespace WM
end WM
namespace W
open PySem L2 WM
/-- a pair of numbers, as data -/
def d2 (a b : Int) : PyData := .tuple [.int a, .int b]
end W

set_option Elab.async false
set_option linter.all false
set_option maxRecDepth 100000
set_option maxHeartbeats 4000000
namespace WM
/-- what is left, by stands -/
def RestRow (l : List Nat) (s : Int) (o : List Nat) (i : Nat) (m : List (Std × Int)) : Prop := ∀ j ∈ pla l o i, ∀ w : Int, -1 ≤ w → w ≤ 1 → lk m ((j : Int), w) = some (nd l s (o.drop i) ((j : Int), w)).1
theorem RestRow.on {l : List Nat} {s : Int} {o : List Nat} {a c : Nat} {m : List (Std × Int)} (hp : 1 ≤ l.length) (h : RestRow l s o (a + 1) m) (hc : o[a]? = some c) {p w t : Int} (w0 : -1 ≤ w) (w1 : w ≤ 1) (ht : t ∈ tts l p c) : lk m (bh l (p, w) t) = some (nd l s (o.drop (a + 1)) (bh l (p, w) t)).1 := by
  obtain ⟨j, hj, e⟩ := pla_on hp hc ht
  have hw := wb_in (t := t) ⟨w0, w1⟩
  have e2 : bh l (p, w) t = ((j : Int), wb w t) := by unfold bh; rw [e]
  rw [e2]
  exact h j hj _ hw.1 hw.2
theorem nd_min {l : List Nat} {s : Int} {c : Nat} {o : List Nat} {st : Std} (hp : 1 ≤ l.length) (h : ∀ x ∈ o, x ∈ l) {k : Int} (hk : k ∈ (tts l st.1 c).map fun t => (nd l s o (bh l st t)).1 + tc st.2 t s) (hl : ∀ y ∈ (tts l st.1 c).map (fun t => (nd l s o (bh l st t)).1 + tc st.2 t s), k ≤ y) : k = (nd l s (c :: o) st).1 := by
  have e : ((tts l st.1 c).map fun t => (nd l s o (bh l st t)).1 + tc st.2 t s) = (tts l st.1 c).map fun t => tc st.2 t s + (nd l s o (bh l st t)).1 := List.map_congr_left fun t _ => Int.add_comm _ _
  rw [e] at hk hl
  rw [nd_cons hp h hk hl rfl]
end WM
namespace W
open PySem L2 WM
/-- a dict of numbers, by stands -/
def DicI (H : Hp) (d : Addr) (m : List (Std × Int)) : Prop := ∃ kvs, H d = some (.dT kvs) ∧ All2 RI m kvs
theorem DicI.same {H H' : Hp} {d : Addr} {m : List (Std × Int)} (h : DicI H d m) (s : Same H H') : DicI H' d m := by
  obtain ⟨kvs, h1, h2⟩ := h
  exact ⟨kvs, s _ _ h1, h2⟩
theorem DicI.nil {H : Hp} {d : Addr} : DicI (upd H d (.dT [])) d [] := ⟨[], upd_same, .nil⟩
theorem DicI.get {H : Hp} {d b : Addr} {m : List (Std × Int)} {st : Std} {x : Int} (h : DicI H d m) (e : lk m st = some x) (hb : H b = some (.tup [.int st.1, .int st.2])) : DGet H d (.ref b) (some (.int x)) := by
  obtain ⟨kvs, hd, hkv⟩ := h
  rcases all2_val RI.k hkv st with ⟨e1, _⟩ | ⟨k1, v1, e1, e2, r⟩
  · rw [e] at e1; cases e1
  · rw [e] at e1
    cases e1
    have ev : v1 = .int x := (Prod.mk.inj r).2
    subst ev
    have := DGet.t (k := key st) (b := b) hd hb
    rw [e2] at this
    exact this
theorem DicI.put {H : Hp} {d b : Addr} {m : List (Std × Int)} {st : Std} {x : Int} (h : DicI H d m) (hb : H b = some (.tup [.int st.1, .int st.2])) (hl : m.length < sizeLine) :
    ∃ kvs, H d = some (.dT kvs) ∧ DPut H d (.ref b) (.int x) (upd H d (.dT (putK kvs (key st) (.int x)))) ∧ DicI (upd H d (.dT (putK kvs (key st) (.int x)))) d (pt m st x) := by
  obtain ⟨kvs, hd, hkv⟩ := h
  exact ⟨kvs, hd, DPut.t hd hb (by rw [← hkv.length]; exact hl), _, upd_same, all2_put RI.k hkv rfl⟩
theorem mem_pla {l o : List Nat} {i j : Nat} : j ∈ pla l o i ↔ j < l.length ∧ (i = 0 ∨ l.getD j 0 = o.getD (i - 1) 0) := by
  unfold pla
  by_cases h : i = 0
  · rw [if_pos h, List.mem_range]
    exact ⟨fun a => ⟨a, .inl h⟩, fun a => a.1⟩
  · rw [if_neg h, mem_plc]
    exact ⟨fun a => ⟨a.1, .inr a.2⟩, fun a => ⟨a.1, a.2.resolve_left h⟩⟩
end W

set_option Elab.async false
set_option linter.all false
set_option maxRecDepth 100000
set_option maxHeartbeats 4000000
namespace PySem
open Sem (wp)
def CmpSt (prog : Program) (w : World) (A : Around) (op : CmpOp) (P : Nat → Value → Prop) (St : Nat → Heap → Prop) (bt : Nat → Nat → Bool) : Prop :=
  ∀ i j k vi vj (s : Shared) (Q : Value → Shared → Prop) (E : Value → Shared → Prop), St k s.heap → P i vi → P j vj → Q (.bool (bt i j)) s → wpAny (model prog w) A (richCompare op vi vj) Q E s
section
variable {prog : Program} {w : World} {A : Around} {R : Result → Shared → Prop} {I : Addr} {fp wr : List Addr} {n : Nat} {P : Nat → Value → Prop} {St : Nat → Heap → Prop}
end

section
variable {prog : Program} {w : World} {A : Around} {E : Value → Shared → Prop} {s : Shared}

end


end PySem
namespace L2
open PySem PySem.Spec PyProof.Rows
/-- what the heap has of a list of tuples of ints -/
def TupsHp (h : Heap) (its : List Value) (xs : List (List Int)) : Prop := ∀ (i : Nat) (v : Value), its[i]? = some v → ∃ b items, v = .ref b ∧ IsTup h b items ∧ IntsAre items.toList (xs.getD i [])
section
variable {X : Cx}
/-- min of a list of pairs -/
def rMinT (K : PySem.W.Frag) : List V → Hp → VK → Prop := fun vs H Q => ∃ (a : Addr) (qs : List Addr) (xs : List (Int × Int)), vs = [V.ref a] ∧ SqL K H a (qs.map V.ref) ∧ All2 (fun q (x : Int × Int) => H q = some (.tup [.int x.1, .int x.2])) qs xs ∧ 0 < xs.length ∧ ∀ q x, x ∈ xs → H q = some (.tup [.int x.1, .int x.2]) → (∀ y ∈ xs, x.1 < y.1 ∨ x.1 = y.1 ∧ x.2 ≤ y.2) → Q (.ref q) H
end
end L2

set_option Elab.async false
set_option linter.all false
set_option maxRecDepth 100000
set_option maxHeartbeats 4000000
namespace WM
/-- a wheel begun elsewhere -/
def rot (l : List Nat) (p : Nat) : List Nat := l.drop p ++ l.take p
end WM
namespace W
open PySem L2 WM
end W

set_option Elab.async false
set_option linter.all false
set_option maxRecDepth 100000
set_option maxHeartbeats 4000000
namespace WM
/-- a stand's number is let by -/
def hoT (l : List Nat) (s : Int) (c : Nat) (beh : List (Std × Int)) (x : Std × Int) : Bool := (tts l x.1.1 c).all fun t => decide ((lk beh (bh l x.1 t)).getD 0 ≤ x.2 + tc x.1.2 t s)
def ho (l : List Nat) (s : Int) (c : Nat) (row beh : List (Std × Int)) : Bool := row.all (hoT l s c beh)
def sto (row : List (Std × Int)) : List Std := row.map (·.1)
def firstN (pap : List (List (Std × Int))) : Int := (((pap.getD 0 []).getD 0 ((0, 0), 0)).2)
/-- a paper that is let by -/
def lb (l : List Nat) (s : Int) (o : List Nat) (rows pap : List (List (Std × Int))) : Bool :=
  decide (pap.map sto = rows.map sto) && (decide (firstN pap ≤ 0) && o.zipIdx.all fun y => ho l s y.1 (pap.getD y.2 []) (pap.getD (y.2 + 1) []))
end WM
namespace W
open PySem L2 WM
def dSt (x : Std) : PyData := d2 x.1 x.2
def dSto (xs : List Std) : PyData := .list (xs.map dSt)
def dStos (xs : List (List Std)) : PyData := .list (xs.map dSto)
/-- a list of stands in the heap -/
def StoAt (H : Hp) (a : Addr) (sts : List Std) : Prop := ∃ qs : List Addr, H a = some (.lst (qs.map V.ref)) ∧ All2 (fun q (st : Std) => H q = some (.tup [.int st.1, .int st.2])) qs sts
end W

set_option Elab.async false
set_option linter.all false
set_option maxRecDepth 100000
set_option maxHeartbeats 4000000
namespace L2
open PySem PySem.Spec PyProof.Rows
/-- a call whose answer is let fall, within try -/
def qDrop (te : TEx) : TSx := fun D R σ H => te σ H (fun _ H1 => D.nx σ H1) R
end L2

set_option Elab.async false
set_option linter.all false
set_option maxRecDepth 100000
set_option maxHeartbeats 4000000
namespace L2
open PySem PySem.Spec PyProof.Rows
end L2
namespace WM
def up1 (r : List (Std × Int)) : List (Std × Int) := r.map fun x => (x.1, x.2 + 1)
end WM
namespace W
open PySem L2 WM
end W

set_option Elab.async false
set_option linter.all false
set_option maxRecDepth 100000
set_option maxHeartbeats 4000000
namespace WM
/-! a wheel in the glass -/
def gls (l : List Nat) : List Nat := l.getD 0 0 :: (l.drop 1).reverse
/-- the place in the glass -/
def ng (l : List Nat) (p : Int) : Int := ((l.length : Int) - p) % (l.length : Int)
/-! stands in the glass -/
def mir (l : List Nat) (st : Std) : Std := (ng l st.1, -st.2)
end WM

set_option Elab.async false
set_option linter.all false
set_option maxRecDepth 100000
set_option maxHeartbeats 4000000
namespace WM
/-! more slack -/
/-! less of the word -/
/-! each sign twice -/
def dbl (o : List Nat) : List Nat := o.flatMap fun c => [c, c]
end WM

set_option Elab.async false
set_option linter.all false
set_option maxRecDepth 100000
set_option maxHeartbeats 4000000
namespace W
open PySem L2 WM
def key3 (x : Std × Int) : List Key := [.inl x.1.1, .inl x.1.2, .inl x.2]
end W

set_option Elab.async false
set_option linter.all false
set_option maxRecDepth 100000
set_option maxHeartbeats 4000000
namespace L2
open PySem PySem.Spec PyProof.Rows
section
variable {prog : Program} {w : World} {A : Around} {E : Value → Shared → Prop} {s : Shared}
end
section
variable {X : Cx}
/-- xs[a:c] = ys, at a list -/
def rSetSl : V → Option Int → Option Int → V → Hp → (Hp → Prop) → Prop := fun o lo hi v H Q => ∃ (l b : Addr) (xs ys : List V) (a : Nat) (c : Int), o = .ref l ∧ v = .ref b ∧ lo = some (a : Int) ∧ hi = some c ∧ H l = some (.lst xs) ∧ H b = some (.lst ys) ∧ l ≠ b ∧ a ≤ xs.length ∧ (a : Int) ≤ c ∧ xs.length + ys.length ≤ sizeLine ∧ Q (upd H l (.lst (xs.take a ++ ys ++ xs.drop (min c.toNat xs.length))))
def gSubSl (to : TE) (tl th : TO) : TG := fun v σ H Q => to σ H fun o H1 => tl σ H1 fun lo H2 => th σ H2 fun hi H3 => rSetSl o lo hi v H3 fun H4 => Q σ H4
def rInsert : V → List V → Hp → VK → Prop := fun x vs H Q => ∃ (l : Addr) (xs : List V) (i : Nat) (y : V), x = .ref l ∧ vs = [.int (i : Int), y] ∧ H l = some (.lst xs) ∧ i ≤ xs.length ∧ xs.length < sizeLine ∧ Q .non (upd H l (.lst (xs.take i ++ [y] ++ xs.drop i)))
end
end L2

set_option Elab.async false
set_option linter.all false
set_option maxRecDepth 100000
set_option maxHeartbeats 4000000
namespace W
open PySem L2 WM
end W

set_option Elab.async false
set_option linter.all false
set_option maxRecDepth 100000
set_option maxHeartbeats 4000000
namespace L2
open PySem
def rListOf (K : PySem.W.Frag) : List V → Hp → VK → Prop := fun xs H Q => ∃ p ys, xs = [.ref p] ∧ (SqL K H p ys ∨ SqT K H p ys) ∧ ∀ l, H l = none → Q (.ref l) (upd H l (.lst ys))
end L2
namespace W
open PySem L2 WM
end W

set_option Elab.async false
set_option linter.all false
set_option maxRecDepth 100000
set_option maxHeartbeats 4000000
namespace WM
/-- what slips add ahead of strike j -/
def sAt (sl : List (Int × Int)) (j : Int) : Int := ((sl.filter fun x => decide (x.1 = j)).map (·.2)).sum
/-- the turns by which the head really goes -/
def slt (ts : List Int) (sl : List (Int × Int)) : List Int := (List.range ts.length).map fun i => ts.getD i 0 + sAt sl (i : Int)
end WM
namespace L2
end L2
namespace W
open PySem L2 WM
/-- a list of pairs of ints in the heap -/
def PrAt (H : Hp) (a : Addr) (sl : List (Int × Int)) (qs : List Addr) : Prop := H a = some (.lst (qs.map V.ref)) ∧ All2 (Tr2 H) qs sl
def dPr (sl : List (Int × Int)) : PyData := .list (sl.map fun x => d2 x.1 x.2)
end W

set_option Elab.async false
set_option linter.all false
set_option maxRecDepth 100000
set_option maxHeartbeats 4000000
namespace L2
open PySem PyProof.Rows
/-! a set of texts: how its table keeps its marks -/
section
variable {prog : Program} {w : World} {A : Around} {E : Value → Shared → Prop} {s : Shared}
/-- the object of a set of texts -/
structure TxEs (prog : Program) (w : World) (es : Array (Int × Value)) (t : SetTable) (xs : List Str) (led : Bool) : Prop where
  el : ElemsOf (PySem.strKind prog w) es.toList
  st : StrsAre (es.toList.map (·.2)) xs
  sm : es.size < scanBound
  ft : t.fits es.size = true
  ld : t.led = led
  pl : es.size = 0 ∨ t.plain = false
def setObj (es : Array (Int × Value)) (ep : Nat) (t : SetTable) : Obj := { cls := .type "set", dict := none, data := .set es ep t }
def TxSet (prog : Program) (w : World) (h : Heap) (a : Addr) (xs : List Str) (led : Bool) : Prop := ∃ es ep t, h.get? a = some (setObj es ep t) ∧ TxEs prog w es t xs led
end
end L2

set_option Elab.async false
set_option linter.all false
set_option maxRecDepth 100000
set_option maxHeartbeats 4000000
namespace L2
open PySem PyProof.Rows
section
variable {prog : Program} {w : World} {A : Around} {E : Value → Shared → Prop} {s : Shared}
/-- is the order of sets given by the text -/
def byT (w : World) : Bool := w.params.followText "set-order"
def set0 (w : World) : Obj := setObj #[] 0 (.fresh 0 0 (!byT w))
end
end L2

set_option Elab.async false
set_option linter.all false
set_option maxRecDepth 100000
set_option maxHeartbeats 4000000
namespace L2
open PySem PyProof.Rows
/-- the texts met, each once -/
structure Once (val : Nat → Str) (n : Nat) (xs : List Str) : Prop where
  nd : xs.Nodup
  mem : ∀ x, x ∈ xs ↔ ∃ i, i < n ∧ val i = x
section
variable {prog : Program} {w : World} {A : Around} {R : Result → Shared → Prop} {I : Addr} {fp wr : List Addr} {G : Array GenState → Array GenState → Prop} {n : Nat} {P : Nat → Value → Prop} {St : Nat → Shared → Prop}
end
section
variable {prog : Program} {w : World} {A : Around} {E : Value → Shared → Prop} {s : Shared}
end
end L2

set_option Elab.async false
set_option linter.all false
set_option maxRecDepth 100000
set_option maxHeartbeats 4000000
namespace L2
open PySem PyProof.Rows
/-! walking over a set of texts -/
section
variable {prog : Program} {w : World} {A : Around} {E : Value → Shared → Prop} {s : Shared}
/-- the iterator's object -/
def itO (f : Value) (i : Nat) (a : Addr) (n ep : Nat) : Obj := { cls := .type "set_iterator", data := .fields #[f, .int i 0, .ref a, .int n 0, .int ep 0] }
end
end L2

set_option Elab.async false
set_option linter.all false
set_option maxRecDepth 100000
set_option maxHeartbeats 4000000
namespace L2
open PySem PyProof.Rows
section
variable {prog : Program} {w : World} {A : Around} {E : Value → Shared → Prop} {s : Shared}
/-- drawn places: a turn, and the end -/
def plO (ps : List Nat) : Obj := { cls := .type "tuple", data := .seq (ps.map fun (i : Nat) => rawInt i).toArray }
end
end L2

set_option Elab.async false
set_option linter.all false
set_option maxRecDepth 100000
set_option maxHeartbeats 4000000
namespace L2
open PySem PyProof.Rows
def at2 (es : Array (Int × Value)) (p : Nat) : Option Value := (es[p]?).map fun e => e.2
section
variable {prog : Program} {w : World} {A : Around} {E : Value → Shared → Prop} {s : Shared}
/-- what a walk over a set of texts is -/
structure SetWalk (prog : Program) (w : World) (a : Addr) (xs : List Str) (s s1 : Shared) (I : Addr) (fp : List Addr) (ord : List Value) (ys : List Str) (St : Nat → Shared → Prop) : Prop where
  pm : ys.Perm xs
  st : StrsAre ord ys
  wk : ∀ A' : Around, A'.handled = none → WalksS prog w A' I fp [I] (fun a b => b = a) xs.length (fun i v => ord[i]? = some v) St
  s0 : St 0 s1
  lt : ∀ b ∈ fp, b < s1.heap.objs.size
  ii : I ∈ fp
  new : s.heap.objs.size ≤ I
  own : ∀ b ∈ fp, b = a ∨ s.heap.objs.size ≤ b
  eq : ∃ h d, s1 = { s with heap := h, drawn := d } ∧ ∀ b o, s.heap.get? b = some o → h.get? b = some o
end
end L2

set_option Elab.async false
set_option linter.all false
set_option maxRecDepth 100000
set_option maxHeartbeats 4000000
namespace L2
open PySem PyProof.Rows
section
variable {prog : Program} {w : World} {A : Around} {E : Value → Shared → Prop} {s : Shared}
end
end L2

set_option Elab.async false
set_option linter.all false
set_option maxRecDepth 100000
set_option maxHeartbeats 4000000
namespace L2
open PySem PyProof.Rows
section
variable {X : Cx} {pins : List (Addr × Obj)} {σ : St} {H : Hp} {s : Shared}
end
/-- where the texts come from -/
def SrcOf (K : PySem.W.Frag) (H : Hp) (vs : List V) (ts : List Str) : Prop := (∃ z : Str, vs = [.str z] ∧ ts = z.cps.toList.map fun c => (⟨#[c]⟩ : Str)) ∨ ∃ a, vs = [.ref a] ∧ SqL K H a (ts.map V.str)
def tSortSet (K : PySem.W.Frag) (t : TA) : TE := fun σ H Q => t σ H fun vs H1 => ∃ ts : List Str, SrcOf K H1 vs ts ∧ ts.length < 4000 ∧ ∀ (ys : List Str) (p : Addr), ys.Nodup → (∀ x, x ∈ ys ↔ x ∈ ts) → sortedS ys = true → H1 p = none → Q (.ref p) (upd H1 p (.lst (ys.map V.str)))
def tLenSet (K : PySem.W.Frag) (t : TA) : TE := fun σ H Q => t σ H fun vs H1 => ∃ ts : List Str, SrcOf K H1 vs ts ∧ ts.length < 4000 ∧ ∀ (ys : List Str), ys.Nodup → (∀ x, x ∈ ys ↔ x ∈ ts) → Q (.int ys.length) H1
section
variable {X : Cx} {e : Expr} {t : TA} {p1 p2 pos pos2 : Pos}
end
end L2

set_option Elab.async false
set_option linter.all false
set_option maxRecDepth 100000
set_option maxHeartbeats 4000000
namespace WM
/-- the signs that turns strike from a place -/
def stkP (l : List Nat) (p : Int) (ts : List Int) : Int × List Nat := ts.foldl (fun q t => ((q.1 + t) % (l.length : Int), q.2 ++ [l.getD ((q.1 + t) % (l.length : Int)).toNat 0])) (p, [])
/-- the word from each place -/
def wds (l : List Nat) (ts : List Int) : List (List Nat) := (List.range l.length).map fun k => (stkP l (k : Nat) ts).2
/-- where the head may have stood -/
def plb (l : List Nat) (ts : List Int) (o : List Nat) : List Nat := (List.range l.length).filter fun k => decide ((stkP l (k : Nat) ts).2 = o)
/-- are all words unlike -/
def apart (l : List Nat) (ts : List Int) : Bool := decide ((wds l ts).Nodup)
/-- what is refused of a report of turns -/
def rep (l o : List Nat) (ts : List Int) : Nat := if W.isWh l = false then 11 else if W.isW o = false then 12 else if ts.length ≠ o.length then 10 else 99
def kdr (n : Nat) : PySem.Str := if n = 11 then "NoWheel+" else if n = 12 then "NoWord+" else if n = 10 then "NoTurns+" else if n = 0 then "Lacks+" else ""
end WM
namespace L2
open PySem PySem.Spec PyProof.Rows
def CDivW (_ j : Int) : Prop := 0 < j ∧ j < 2 ^ 200
end L2
namespace W
open PySem L2 WM
def spDrawW : Sp := fun vs H Q _ => ∃ (p : Addr) (m : Int), vs = [.ref p, .int m] ∧ DrAt H p ∧ (0 < m ∧ m < 2 ^ 200) ∧ ∀ (r : Int) (H' : Hp), 0 ≤ r → r < m → DrAt H' p → But p H H' → Q (.int r) H'
end W

set_option Elab.async false
set_option linter.all false
set_option maxRecDepth 100000
set_option maxHeartbeats 4000000
namespace L2
open PySem PyProof.Rows
/-! min, max of two texts -/
def ltS (a b : Str) : Bool := decide (a.cps.toList < b.cps.toList)
section
variable {prog : Program} {w : World} {A : Around} {E : Value → Shared → Prop} {s : Shared}
def valTwo (a b : Str) (i : Nat) : Str := if i = 0 then a else b
end
section
variable {X : Cx}
/-! sorted of any number of texts -/
def rSortedSA (K : PySem.W.Frag) : List V → Hp → VK → Prop := fun vs H Q => ∃ (a : Addr) (xs : List Str), vs = [V.ref a] ∧ SqL K H a (xs.map V.str) ∧ xs.length ≤ sizeLine ∧
  ∀ (ys : List Str) (p : Addr), ys.Perm xs → sortedS ys = true → H p = none → Q (.ref p) (upd H p (.lst (ys.map V.str)))
/-! list(d), d a dict with texts or ints as keys -/
def rListDK : List V → Hp → VK → Prop := fun vs H Q => ∃ (d : Addr) (kvs : List (Key × V)), vs = [V.ref d] ∧ H d = some (.dK kvs) ∧ ∀ p : Addr, H p = none → Q (.ref p) (upd H p (.lst (kvs.map fun kv => kV kv.1)))
end
end L2

set_option Elab.async false
set_option linter.all false
set_option maxRecDepth 100000
set_option maxHeartbeats 4000000
namespace WM
/-! counts by pairs of signs -/
abbrev Pr := Nat × Nat
section
variable {α : Type} [DecidableEq α]
def cnP (xs : List α) (k : α) : Nat := xs.countP fun x => decide (x = k)
def lkP (m : List (α × Int)) (k : α) : Option Int := (m.find? fun x => decide (x.1 = k)).map (·.2)
def ptP (m : List (α × Int)) (k : α) (v : Int) : List (α × Int) := if (m.any fun x => decide (x.1 = k)) = true then m.map (fun x => if x.1 = k then (x.1, v) else x) else m ++ [(k, v)]
structure CntM (m : List (α × Int)) (xs : List α) : Prop where
  nd : (m.map (·.1)).Nodup
  mem : ∀ k n, (k, n) ∈ m ↔ (n = (cnP xs k : Int) ∧ 0 < cnP xs k)
end
section
open L2
variable {α κ : Type} [DecidableEq α] [DecidableEq κ] (kf : α → κ) (inj : ∀ a b, kf a = kf b → a = b)
/-- counts as a dict has them -/
def entK (m : List (α × Int)) : List (κ × V) := m.map fun x => (kf x.1, V.int x.2)
include inj
end
/-- neighbours in a word, the lesser sign first -/
def adjP (p : Pr) : Pr := (min p.1 p.2, max p.1 p.2)
def adj (w : List Nat) : List Pr := ((w.zip (w.drop 1)).filter fun p => decide (p.1 ≠ p.2)).map adjP
def adjU (w : List Nat) (i : Nat) : List Pr := (((w.zip (w.drop 1)).take i).filter fun p => decide (p.1 ≠ p.2)).map adjP
def adjs (bk : List (List Nat)) : List Pr := bk.flatMap adj
/-- what comes first -/
def pLt (a b : Pr) : Prop := a.1 < b.1 ∨ (a.1 = b.1 ∧ a.2 < b.2)
/-- the pairs of a book, told -/
structure IsPrs (xs : List Pr) (ps : List (Pr × Int)) : Prop where
  srt : ps.Pairwise fun a b => pLt a.1 b.1
  mem : ∀ k n, (k, n) ∈ ps ↔ (n = (cnP xs k : Int) ∧ 0 < cnP xs k)
/-- a cut -/
def cutV' (ps : List (Pr × Int)) (sg : List Nat) : Int := ((ps.filter fun x => decide (x.1.1 ∈ sg) != decide (x.1.2 ∈ sg)).map (·.2)).sum
/-- the signs of a book -/
def IsSg (bk : List (List Nat)) (sg : List Nat) : Prop := sg.Pairwise (· < ·) ∧ ∀ c, c ∈ sg ↔ c ∈ bk.flatten
end WM

set_option Elab.async false
set_option linter.all false
set_option maxRecDepth 100000
set_option maxHeartbeats 4000000
namespace W
open PySem L2 WM PyProof.Rows
def wkey (p : Pr) : Key := .inr (txt [p.1, p.2])
def tkey (p : Pr) : List Key := [.inr (txt [p.1]), .inr (txt [p.2])]
/-! sorted texts -/
/-! books in the heap -/
def isBk (bk : List (List Nat)) : Bool := decide (bk.length ≤ 20) && bk.all isW
/-- a pair of signs with its count -/
def Tr3s (H : Hp) (q : Addr) (x : Pr × Int) : Prop := H q = some (.tup [.str (txt [x.1.1]), .str (txt [x.1.2]), .int x.2])
def PrsAt (H : Hp) (a : Addr) (ps : List (Pr × Int)) (qs : List Addr) : Prop := H a = some (.lst (qs.map V.ref)) ∧ All2 (Tr3s H) qs ps
def d3s (x : Pr × Int) : PyData := .tuple [.str (txt [x.1.1]), .str (txt [x.1.2]), .int x.2]
def dPrs (ps : List (Pr × Int)) : PyData := .list (ps.map d3s)
end W
namespace W
open PySem L2 WM
/-- a dict of counts by tuples, by texts of two signs -/
def CntT (H : Hp) (d : Addr) (xs : List Pr) (m : List (Pr × Int)) : Prop := H d = some (.dT (entK tkey m)) ∧ CntM m xs
def CntW (H : Hp) (d : Addr) (xs : List Pr) (m : List (Pr × Int)) : Prop := H d = some (.dK (entK wkey m)) ∧ CntM m xs
end W

set_option Elab.async false
set_option linter.all false
set_option maxRecDepth 100000
set_option maxHeartbeats 4000000
namespace L2
open PySem WM
section
variable {D : Addr} {g : TG} {tt : TT} {te : TE} {vs : List Nat} {σ : St} {H1 : Hp} {Qd : Hp → Prop} {α : Type}
end
section
variable {g : TG} {tb : TS} {D : Ends} {σ : St} {H : Hp}
end
end L2
namespace W
open PySem L2 WM
end W

set_option Elab.async false
set_option linter.all false
set_option maxRecDepth 100000
set_option maxHeartbeats 4000000
namespace L2
open PySem PySem.Spec PyProof.Rows
section
variable {X : Cx}
/-- text.index(sign), where the sign is there -/
def rIndexS : V → List V → Hp → VK → Prop := fun x xs H Q => ∃ (z : Str) (c : Nat), x = V.str z ∧ xs = [V.str ⟨#[c]⟩] ∧ c ∈ z.cps.toList ∧ Q (.int (z.cps.toList.idxOf c : Nat)) H
/-- sorted(text) -/
def rSortedT1 : List V → Hp → VK → Prop := fun vs H Q => ∃ z : Str, vs = [V.str z] ∧ z.length ≤ sizeLine ∧
  ∀ (ys : List Str) (p : Addr), ys.Perm (z.cps.toList.map fun c => (⟨#[c]⟩ : Str)) → sortedS ys = true → H p = none → Q (.ref p) (upd H p (.lst (ys.map V.str)))
end
/-- f(g(..)) within try, f built in, g may raise -/
def qB1 (r : List V → Hp → VK → Prop) (te : TEx) : TEx := fun σ H Q R => te σ H (fun v H1 => r [v] H1 Q) R
end L2

set_option Elab.async false
set_option linter.all false
set_option maxRecDepth 100000
set_option maxHeartbeats 4000000
namespace W
open PySem L2 WM PyProof.Rows
/-- an order of a book's signs -/
def IsOrd (bk : List (List Nat)) (l : List Nat) : Prop := l.Nodup ∧ ∀ c, c ∈ l ↔ c ∈ bk.flatten
/-! places -/
def skey (c : Nat) : Key := .inr (txt [c])
def plcs (l : List Nat) : List (Nat × Int) := l.zipIdx.map fun x => (x.1, (x.2 : Int))
/-! reach and spread -/
def wyR (n a b : Int) : Int := min (if a - b < 0 then -(a - b) else a - b) (n - (if a - b < 0 then -(a - b) else a - b))
def rchV (l : List Nat) (ps : List (Pr × Int)) : Int := (ps.map fun x => x.2 * wyR l.length (l.idxOf x.1.1) (l.idxOf x.1.2)).sum
def sprV (l : List Nat) (ps : List (Pr × Int)) : Int := (ps.map fun x => x.2 * (if (l.idxOf x.1.1 : Int) - (l.idxOf x.1.2 : Int) < 0 then -((l.idxOf x.1.1 : Int) - (l.idxOf x.1.2 : Int)) else (l.idxOf x.1.1 : Int) - (l.idxOf x.1.2 : Int))).sum
/-- the halves of an order -/
def hlv (l : List Nat) : List (List Nat) := (List.range l.length).map fun i => ((l ++ l).drop i).take (l.length / 2)
end W

set_option Elab.async false
set_option linter.all false
set_option maxRecDepth 100000
set_option maxHeartbeats 4000000
namespace W
open PySem L2 WM PyProof.Rows
/-! counting -/
def sumN (f : Nat → Nat) : Nat → Nat
  | 0 => 0
  | n + 1 => sumN f n + f n
def iv (lo hi : Int) (i : Nat) : Nat := if lo < (i : Int) ∧ (i : Int) ≤ hi then 1 else 0
/-! places -/
/-! windows that hold just one of two places -/
def xr (p q : Prop) [Decidable p] [Decidable q] : Bool := decide p != decide q
def inHalf (a n k i : Nat) : Prop := (i ≤ a ∧ a < i + k) ∨ a + n < i + k
instance (a n k i : Nat) : Decidable (inHalf a n k i) := by unfold inHalf; infer_instance
/-! orders turned and from the end -/
end W

set_option Elab.async false
set_option linter.all false
set_option maxRecDepth 100000
set_option maxHeartbeats 4000000
namespace W
open PySem L2 WM PyProof.Rows
/-! wheels with each sign once, no slack -/
noncomputable def cW (l : List Nat) : List Nat → Nat → Int
  | [], _ => 0
  | c :: o, p => wyR l.length p (l.idxOf c) + cW l o (l.idxOf c)
noncomputable def cM (l : List Nat) : List Nat → Nat → Int
  | [], _ => 1
  | c :: o, p => (if 2 * (if (p : Int) - (l.idxOf c : Int) < 0 then -((p : Int) - (l.idxOf c : Int)) else (p : Int) - (l.idxOf c : Int)) = (l.length : Int) then 2 else 1) * cM l o (l.idxOf c)
/-! reach as the sum of the words' costs -/
noncomputable def wyP (l : List Nat) (x : Pr) : Int := wyR l.length (l.idxOf x.1) (l.idxOf x.2)
noncomputable def wCost (l w : List Nat) : Int := match w with | [] => 0 | a :: r => cW l (a :: r) (l.idxOf a)
end W

set_option Elab.async false
set_option linter.all false
set_option maxRecDepth 100000
set_option maxHeartbeats 4000000
/-! min of a list of tuples of ints and texts, all of one kind place by place -/
namespace L2
open PySem PySem.Spec PyProof.Rows
def kKind : Key → Bool
  | .inl _ => false
  | .inr _ => true
def kLt (a b : List Key) : Bool := PyProof.Rows.lexLt PyProof.Rows.itemOrd (a.map kItem) (b.map kItem)
section
open PySem.SeqAt
open PySem.AutoSeq1 (wpAny_loadPart')
open PySem.MeetsSeq PySem.MeetsSeq2 PySem.MeetsSeq3
end
section
variable {prog : Program} {w : World} {A : Around} {E : Value → Shared → Prop} {s : Shared}
end
/-- what the heap has of a list of tuples of keys -/
def KeysHp (h : Heap) (its : List Value) (xs : List (List Key)) : Prop := ∀ (i : Nat) (v : Value), its[i]? = some v → ∃ b items, v = .ref b ∧ IsTup h b items ∧ Vals ((xs.getD i []).map kV) items.toList
section
variable {X : Cx}
/-- min of a list of tuples of keys, told from what is known of the least one -/
def rMinK (K : PySem.W.Frag) : List V → Hp → VK → Prop := fun vs H Q => ∃ (a : Addr) (qs : List Addr) (kss : List (List Key)) (sh : List Bool), vs = [V.ref a] ∧ SqL K H a (qs.map V.ref) ∧ TupsAt H qs kss ∧ (∀ ks ∈ kss, ks.map kKind = sh) ∧ 0 < kss.length ∧ ∀ q ks, ks ∈ kss → H q = some (.tup (ks.map kV)) → (∀ ms ∈ kss, kLt ms ks = false) → Q (.ref q) H
end
end L2

set_option Elab.async false
set_option linter.all false
set_option maxRecDepth 100000
set_option maxHeartbeats 4000000
/-! loops of comprehensions with two clauses: one rule for each source, whatever a turn does -/
namespace L2
open PySem WM
section
variable {K : PySem.W.Frag} {a : Addr} {B : V → Hp → (Hp → Prop) → Prop} {S : Hp} {Qd : Hp → Prop}
end
end L2

set_option Elab.async false
set_option linter.all false
set_option maxRecDepth 100000
set_option maxHeartbeats 4000000
/-! a wheel with one sign more -/
namespace WM
open PySem L2 W
def wmore (l : List Nat) (p c : Nat) : List Nat := l.take p ++ [c] ++ l.drop p
def IsSo (o sg : List Nat) : Prop := sg.Pairwise (· < ·) ∧ ∀ c, c ∈ sg ↔ c ∈ o
def lck (l sg : List Nat) : List Nat := sg.filter fun c => !decide (c ∈ l)
def toAdd (l sg : List Nat) : List Nat := if lck l sg = [] then sg else lck l sg
/-- two signs of o that l lacks -/
def TwoL (l o : List Nat) : Prop := ∃ a ∈ o, ∃ b ∈ o, a ∉ l ∧ b ∉ l ∧ a ≠ b
/-- a try: its cost, its place, its sign -/
abbrev Try := Int × Nat × Nat
def tKey (t : Try) : List Key := [.inl t.1, .inl (t.2.1 : Int), .inr (txt [t.2.2])]
noncomputable def tCost (l o : List Nat) (s : Int) (p c : Nat) : Try := ((nd (wmore l p c) s o (0, 0)).1, p, c)
/-- the best of all tries -/
structure IsBest (l o : List Nat) (s : Int) (t : Try) : Prop where
  mem : ∃ p c, p ≤ l.length ∧ c ∈ o ∧ (∀ x ∈ o, x ∈ wmore l p c) ∧ t = tCost l o s p c
  low : ∀ p c, p ≤ l.length → c ∈ o → (∀ x ∈ o, x ∈ wmore l p c) → kLt (tKey (tCost l o s p c)) (tKey t) = false
open Classical in
/-- what is refused of a sign more, or 99 -/
noncomputable def bmr (l o : List Nat) (s : Int) : Nat := if isWh l = false then 11 else if isW o = false then 12 else if okS s = false then 8 else if l.length ≤ 12 ∧ 1 ≤ o.length ∧ o.length ≤ 20 then (if TwoL l o then 0 else 99) else 13
def kn (n : Nat) : Str := if n = 11 then "NoWheel+" else if n = 12 then "NoWord+" else if n = 8 then "NoSlack+" else if n = 0 then "Lacks+" else "TooMany+"
end WM

set_option Elab.async false
set_option linter.all false
set_option maxRecDepth 100000
set_option maxHeartbeats 4000000
/-! strikers: deeds one after another, and what they come to -/
namespace WM
open PySem L2
/-- the stand behind some turns -/
def stdL (l : List Nat) (ts : List Int) : Std := ts.foldl (bh l) (0, 0)
end WM
namespace W
open PySem L2 WM
/-! a method that may be called -/
def CalM (P : Program) (w : World) (K : PySem.W.Frag) (mg : Str → Option Value) (base : Heap) (CX : CXT) (k : Nat) (C : Addr) (m : Str) (ps : List Str) (sp : Sp) : Prop :=
  ∃ f fd, FnOk P w K mg base CX k f fd ps sp ∧ Binds K fd ps [] ∧ Meth K C m f
def DefM (K : PySem.W.Frag) (C : Addr) (m qual : Str) (st : Stmt) (ps : List Str) : Prop := ∃ f fd, Fun K m qual st f fd ∧ Binds K fd ps [] ∧ Meth K C m f
/-- a class of one's own, as it is made -/
def CalC (P : Program) (w : World) (K : PySem.W.Frag) (mg : Str → Option Value) (base : Heap) (CX : CXT) (k : Nat) (C : Addr) (x : Str) (ps : List Str) (sp : Sp) : Prop :=
  ∃ f fd, FnOk P w K mg base CX k f fd ps sp ∧ Binds K fd ps [] ∧ Mk K C f ∧ mg x = some (.ref C)
/-- the attributes of a striker, in the order in which they are stored -/
def sflds (l : List Nat) (s : Int) (d : Addr) : List (Str × V) := putF "deeds" (.ref d) (putF "slack" (.int s) (putF "wheel" (.str (txt l)) []))
/-- what the class has -/
structure SCls (K : PySem.W.Frag) (C : Addr) : Prop where
  cl : Cls K C
  nW : NoAttr K C "wheel"
  nS : NoAttr K C "slack"
  nD : NoAttr K C "deeds"
section
variable {K : PySem.W.Frag}
/-- one deed at q: pre the turns ahead of it, ts its own -/
def DeedAt (K : PySem.W.Frag) (H : Hp) (l : List Nat) (s : Int) (pre ts : List Int) (q : Addr) : Prop := ∃ (tq sq : Addr) (sg : List Nat), H q = some (.tup [.ref tq, .str (txt sg), .ref sq, .int (cf s (pre ++ ts)).1]) ∧ SqT K H tq (ts.map V.int) ∧
  SqT K H sq [.int (stdL l (pre ++ ts)).1, .int (stdL l (pre ++ ts)).2] ∧ (stk l pre).2 ++ sg = (stk l (pre ++ ts)).2
inductive Deeds (K : PySem.W.Frag) (H : Hp) (l : List Nat) (s : Int) : List Addr → List (List Int) → Prop
  | nil : Deeds K H l s [] []
  | snoc {qs : List Addr} {tss : List (List Int)} {q : Addr} {ts : List Int} : Deeds K H l s qs tss → DeedAt K H l s tss.flatten ts q → Deeds K H l s (qs ++ [q]) (tss ++ [ts])
/-- a striker at x, its deeds at d -/
structure StrAt (K : PySem.W.Frag) (C : Addr) (H : Hp) (x d : Addr) (l : List Nat) (s : Int) (tss : List (List Int)) : Prop where
  ob : ∃ dx, H x = some (.ins C dx (sflds l s d))
  ds : ∃ qs, H d = some (.lst (qs.map V.ref)) ∧ Deeds K H l s qs tss
end
end W

set_option Elab.async false
set_option linter.all false
set_option maxRecDepth 100000
set_option maxHeartbeats 4000000
/-! plans from any stand, gone through on the wheel turned -/
namespace WM
open PySem L2 W
/-- costs from a way, turn by turn -/
def cwf (s : Int) (w : Int) (ts : List Int) : Int × Int := ts.foldl (fun p t => (p.1 + tc p.2 t s, wb p.2 t)) (0, w)
end WM

set_option Elab.async false
set_option linter.all false
set_option maxRecDepth 100000
set_option maxHeartbeats 4000000
/-! methods that may raise, and classes whose __init__ may, within a try -/
namespace L2
open PySem PySem.Spec PyProof.Rows
section
variable {X : Cx} {C f : Addr} {k : Nat} {fd : FuncData} {ps : List Str} {sp : Sp} {m x : Str} {p pos apos : Pos} {e o : Expr} {es : List Expr} {ta : TE} {t : TA}
def qMeth (C : Addr) (m : Str) (sp : Sp) (ta : TE) (t : TA) : TEx := fun σ H Q R => ta σ H fun x H1 => ∃ a dx fs, x = .ref a ∧ H1 a = some (.ins C dx fs) ∧ fs.lookup m = none ∧ t σ H1 fun vs H2 => sp (x :: vs) H2 Q fun c _ H2 => ∃ C, c = .ref C ∧ R σ C H2
def qMake (C : Addr) (sp : Sp) (t : TA) : TEx := fun σ H Q R => t σ H fun vs H1 => ∀ x dx, H1 x = none → H1 dx = none → dx ≠ x → sp (.ref x :: vs) (upd (upd H1 dx (.own x)) x (.ins C dx [])) (fun v H2 => v = .non ∧ Q (.ref x) H2) fun c _ H2 => ∃ C, c = .ref C ∧ R σ C H2
/-- isinstance(t, tuple) of a tuple, tracked or the module's own -/
def rIsiT (K : PySem.W.Frag) : List V → Hp → VK → Prop := fun xs H Q => ∃ (a : Addr) (ys : List V), xs = [.ref a, .ty "tuple"] ∧ SqT K H a ys ∧ Q (.bl true) H
end
end L2

set_option Elab.async false
set_option linter.all false
set_option maxRecDepth 100000
set_option maxHeartbeats 4000000
/-! rows of stands that are reached, and what is left from each -/
namespace WM
open PySem L2
/-- reached behind k signs of o, from st -/
def Rch (l o : List Nat) (st : Std) : Nat → Std → Prop
  | 0, x => x = st
  | k + 1, x => ∃ y t c, Rch l o st k y ∧ o[k]? = some c ∧ t ∈ tts l y.1 c ∧ x = bh l y t
end WM
namespace W
open PySem L2 WM
/-- a dict of truths, by stands -/
def RB (x : Std × Bool) (kv : List Key × V) : Prop := kv = (key x.1, .bl x.2)
def DicB (H : Hp) (d : Addr) (m : List (Std × Bool)) : Prop := ∃ kvs, H d = some (.dT kvs) ∧ All2 RB m kvs
end W

set_option Elab.async false
set_option linter.all false
set_option maxRecDepth 100000
set_option maxHeartbeats 4000000
namespace WM
/-! the least of pairs, and the sum of what goes with it -/
structure GBest (xs : List (Int × Int)) (r : Int × Int) : Prop where
  mem : r.1 ∈ xs.map (·.1)
  le : ∀ y ∈ xs.map (·.1), r.1 ≤ y
  cnt : r.2 = ((xs.filter fun x => decide (x.1 = r.1)).map (·.2)).sum
def lmin : List Int → Int
  | [] => 0
  | [x] => x
  | x :: y :: r => if x ≤ lmin (y :: r) then x else lmin (y :: r)
def bst (xs : List (Int × Int)) : Int × Int := (lmin (xs.map (·.1)), ((xs.filter fun x => decide (x.1 = lmin (xs.map (·.1)))).map (·.2)).sum)
/-! moves from state to state that strike a word -/
section
variable {σ μ : Type} (mv : σ → Nat → List (μ × σ)) (ct : μ → Int)
def gP : List Nat → σ → List (List μ)
  | [], _ => [[]]
  | c :: o, s => (mv s c).flatMap fun m => (gP o m.2).map (m.1 :: ·)
def gC (ms : List μ) : Int := (ms.map ct).sum
def gCs (o : List Nat) (s : σ) : List Int := (gP mv o s).map (gC ct)
def gN : List Nat → σ → Int × Int
  | [], _ => (0, 1)
  | c :: o, s => bst ((mv s c).map fun m => (ct m.1 + (gN o m.2).1, (gN o m.2).2))
def gFit (c : Nat) (o : List Nat) (s : σ) : List (μ × σ) := (mv s c).filter fun m => decide (ct m.1 + (gN mv ct o m.2).1 = (gN mv ct (c :: o) s).1)
def gF : List Nat → σ → List μ
  | [], _ => []
  | c :: o, s => match gFit mv ct c o s with
    | [] => []
    | m :: _ => m.1 :: gF o m.2
/-- the least of a list, and how often it is there -/
structure GNd (xs : List Int) (x : Int × Int) : Prop where
  mem : x.1 ∈ xs
  le : ∀ y ∈ xs, x.1 ≤ y
  cnt : x.2 = (xs.count x.1 : Nat)
/-- the word can be struck on from each state that is reached -/
def gOk (S : σ → Prop) (o : List Nat) : Prop := ∀ s, S s → ∀ c ∈ o, mv s c ≠ [] ∧ ∀ m ∈ mv s c, S m.2
end
/-! some moves are enough -/
section
variable {σ μ : Type} {mv mw : σ → Nat → List (μ × σ)} {ct : μ → Int}
/-- mw: some of the moves of mv; for each other one there is one to the same state that costs less -/
def Enough (mv mw : σ → Nat → List (μ × σ)) (ct : μ → Int) (S : σ → Prop) : Prop := ∀ s, S s → ∀ c, ∃ p : μ × σ → Bool, mw s c = (mv s c).filter p ∧ ∀ m ∈ mv s c, p m = false → ∃ n ∈ mv s c, p n = true ∧ n.2 = m.2 ∧ ct n.1 < ct m.1
end
end WM

set_option Elab.async false
set_option linter.all false
set_option maxRecDepth 100000
set_option maxHeartbeats 4000000
namespace PySem.F
open PySem
end PySem.F

set_option Elab.async false
set_option linter.all false
set_option maxRecDepth 100000
set_option maxHeartbeats 4000000
namespace L2
open PySem PySem.Spec PyProof.Rows
def rvsObj (x : Str) (t : Tok) (i : Int) : Obj := { cls := .type "reversed", data := .fields #[.str x t, rawInt i] }
def IsRvs (h : Heap) (a : Addr) (x : Str) (t : Tok) (i : Int) : Prop := ∃ o, h.get? a = some o ∧ o.cls = .type "reversed" ∧ o.data = .fields #[.str x t, rawInt i]
section
variable {prog : Program} {w : World} {A : Around} {E : Value → Shared → Prop} {s : Shared}
end
end L2
namespace L2
open PySem PySem.Spec PyProof.Rows
/-! for sign in reversed(text) -/
def Itrs (x : Str) : It := ⟨fun i _ => i < x.cps.size, fun i H v H' => H' = H ∧ ∃ c, x.cps[x.cps.size - 1 - i]? = some c ∧ v = .str ⟨#[c]⟩, fun i _ => x.cps.size ≤ i⟩
def iRevS (ta : TA) : TI := fun σ H R => ta σ H fun vs H1 => ∃ x : Str, vs = [.str x] ∧ x.length ≤ sizeLine ∧ R (Itrs x) H1
section
variable {X : Cx} {tg : Expr}
end
section
variable {g : TG} {tb : TS} {D : Ends} {σ : St} {H : Hp}
open WM
end
end L2

set_option Elab.async false
set_option linter.all false
set_option maxRecDepth 100000
set_option maxHeartbeats 4000000
namespace L2
open PySem PySem.Spec PyProof.Rows
/-! t + u, any of them perhaps empty -/
section
variable {prog : Program} {w : World} {A : Around} {E : Value → Shared → Prop} {s : Shared}
end
section
variable {X : Cx}
def rCatG : R2 := fun x y H Q => ∃ a b xs ys, x = .ref a ∧ y = .ref b ∧ H a = some (.tup xs) ∧ H b = some (.tup ys) ∧ xs.length + ys.length ≤ sizeLine ∧
  ∀ p H', Same H H' → H' p = some (.tup (xs ++ ys)) → Q (.ref p) H'
def ipM : TIp := fun x y H Q => ∃ i j, x = .int i ∧ y = .int j ∧ CMul i j ∧ Q (.int (i * j)) H
end
end L2

set_option Elab.async false
set_option linter.all false
set_option maxRecDepth 100000
set_option maxHeartbeats 4000000
namespace WM
/-! banks: several wheels with a head each -/
abbrev Mv := (Int × Int) × List Int
/-- the shortest turns -/
def sts (l : List Nat) (p : Int) (c : Nat) : List Int :=
  ((List.range (2 * (l.length / 2) + 1)).filter fun i : Nat => decide (l.getD ((p + (-((l.length / 2 : Nat) : Int) + (i : Int))) % (l.length : Int)).toNat 0 = c)).map fun i : Nat => -((l.length / 2 : Nat) : Int) + (i : Int)
def isShort (l : List Nat) (t : Int) : Bool := decide (-((l.length / 2 : Nat) : Int) ≤ t) && decide (t ≤ ((l.length / 2 : Nat) : Int))
/-- the moves of all heads that strike a sign -/
def mvs (tt : List Nat → Int → Nat → List Int) (b : List (List Nat)) (ps : List Int) (c : Nat) : List Mv :=
  (List.range b.length).flatMap fun k => (tt (b.getD k []) (ps.getD k 0) c).map fun t => (((k : Int), t), ps.set k ((ps.getD k 0 + t) % ((b.getD k []).length : Int)))
abbrev mvA (b : List (List Nat)) : List Int → Nat → List Mv := mvs tts b
abbrev mvS (b : List (List Nat)) : List Int → Nat → List Mv := mvs sts b
def mct (m : Int × Int) : Int := ab m.2
structure InB (b : List (List Nat)) (ps : List Int) : Prop where
  len : ps.length = b.length
  at_ : ∀ k, k < b.length → 0 ≤ ps.getD k 0 ∧ ps.getD k 0 < ((b.getD k []).length : Int)
def OkB (b : List (List Nat)) : Prop := ∀ l ∈ b, 1 ≤ l.length
def covers (b : List (List Nat)) (o : List Nat) : Prop := ∀ c ∈ o, ∃ l ∈ b, c ∈ l
def shortM (b : List (List Nat)) (m : Mv) : Bool := isShort (b.getD m.1.1.toNat []) m.1.2
/-- least joint cost and count; the first joint plan -/
def bN (b : List (List Nat)) (o : List Nat) (ps : List Int) : Int × Int := gN (mvA b) mct o ps
def bF (b : List (List Nat)) (o : List Nat) (ps : List Int) : List (Int × Int) := gF (mvA b) mct o ps
/-! all stands -/
def cntB (b : List (List Nat)) : Nat := b.foldl (fun c l => c * l.length) 1
def stB (b : List (List Nat)) : List (List Int) := b.foldl (fun S l => S.flatMap fun s => (List.range l.length).map fun p : Nat => s ++ [(p : Int)]) [[]]
end WM

set_option Elab.async false
set_option linter.all false
set_option maxRecDepth 100000
set_option maxHeartbeats 4000000
namespace W
open PySem L2 WM
/-! stands and moves in the heap -/
def kS (ps : List Int) : List Key := ps.map Sum.inl
def vS (ps : List Int) : List V := ps.map V.int
/-- a tuple of places -/
def StAt (H : Hp) (q : Addr) (ps : List Int) : Prop := H q = some (.tup (vS ps))
/-- a dict from stands -/
def DicV (R : Hp → V → List Int → Prop) (H : Hp) (d : Addr) (n : Nat) (S : List Int → Prop) : Prop :=
  ∃ kvs, H d = some (.dT kvs) ∧ kvs.length ≤ n ∧ ∀ ps, S ps → ∃ v, valV kvs (kS ps) = some v ∧ R H v ps
def Mon (R : Hp → V → List Int → Prop) : Prop := ∀ H H' v ps, Same H H' → R H v ps → R H' v ps
def Stb (R : Hp → V → List Int → Prop) : Prop := ∀ H H' D kvs v ps, H D = some (.dT kvs) → But D H H' → R H v ps → R H' v ps
/-- a pair of ints that a dict tells -/
def R2v (f : List Int → Int × Int) : Hp → V → List Int → Prop := fun H v ps => ∃ q, v = .ref q ∧ Tr2 H q (f ps)
/-- a move -/
def MvAt (H : Hp) (q : Addr) (m : Mv) : Prop := ∃ a, H q = some (.tup [.int m.1.1, .int m.1.2, .ref a]) ∧ StAt H a m.2
/-- a list of moves -/
def MvsAt (H : Hp) (a : Addr) (ms : List Mv) : Prop := ∃ qs : List Addr, H a = some (.lst (qs.map V.ref)) ∧ All2 (MvAt H) qs ms
def RMv (f : List Int → List Mv) : Hp → V → List Int → Prop := fun H v ps => ∃ a, v = .ref a ∧ MvsAt H a (f ps)
/-- the moves by signs and stands -/
def DicM (b : List (List Nat)) (H : Hp) (d : Addr) (n : Nat) (S : Nat → Prop) : Prop :=
  ∃ kvs : List (Key × V), H d = some (.dK kvs) ∧ kvs.length ≤ n ∧ ∀ c, S c → ∃ e, valV kvs (Sum.inr (txt [c])) = some (.ref e) ∧ DicV (RMv fun ps => mvS b ps c) H e 400 (InB b)
/-! a bank -/
def isBnk (b : List (List Nat)) : Bool := (decide (1 ≤ b.length) && decide (b.length ≤ 3)) && (b.all isWh && decide (cntB b ≤ 400))
structure Bnk (b : List (List Nat)) : Prop where
  l1 : 1 ≤ b.length
  l3 : b.length ≤ 3
  wh : ∀ l ∈ b, Wheel l
  cn : cntB b ≤ 400
end W
namespace L2
open PySem WM
section
variable {g : TG} {tb : TS} {D : Ends} {σ : St} {H : Hp}
end
end L2
namespace W
open PySem L2 WM
end W
namespace WM
end WM
namespace W
open PySem L2 WM
end W
namespace L2
open PySem WM
/-! a written list of lists of constants, all at once -/
def listsE : List Expr → Option (List (List V))
  | [] => some []
  | .List es _ :: r => (consV es).bind fun zs => (listsE r).map (zs :: ·)
  | _ => none
def setLL : Stmt → Option (Str × List (List V))
  | .Assign [.Name n _] (.List es _) _ => (listsE es).map fun ws => (n, ws)
  | _ => none
def tLLs (zss : List (List V)) : TA := fun _ H Q => ∀ (as : List Addr) (H' : Hp), Same H H' → All2 (fun a zs => H a = none ∧ H' a = some (.lst zs)) as zss → Q (as.map V.ref) H'
section
variable {X : Cx}
end
end L2
namespace L2
open PySem PySem.Spec PyProof.Rows
/-- sep.join(a list of texts), within a comprehension -/
def tJoin (K : PySem.W.Frag) (to te : TE) : TE := tM1 (fun x xs H Q => ∃ a p, ∃ ys : List Str, x = .str a ∧ xs = [.ref p] ∧ (SqL K H p (ys.map V.str) ∨ SqT K H p (ys.map V.str)) ∧
      (ys.map (·.length)).sum + ys.length * a.length ≤ 16777216 ∧ Q (.str (Txt.join a ys)) H) to te
end L2

set_option Elab.async false
set_option linter.all false
set_option maxRecDepth 100000
set_option maxHeartbeats 4000000
namespace WM
/-! one system of moves within another -/
section
variable {σ μ σ' μ' : Type} {mv : σ → Nat → List (μ × σ)} {ct : μ → Int} {mv' : σ' → Nat → List (μ' × σ')} {ct' : μ' → Int}
end
/-! orders of the same things -/
structure Bij (n : Nat) (π ρ : Nat → Nat) : Prop where
  to : ∀ i, i < n → π i < n ∧ ρ (π i) = i
  fro : ∀ j, j < n → ρ j < n ∧ π (ρ j) = j
def prm {α : Type} (n : Nat) (π : Nat → Nat) (d : α) (xs : List α) : List α := (List.range n).map fun i => xs.getD (π i) d
end WM

set_option Elab.async false
set_option linter.all false
set_option maxRecDepth 100000
set_option maxHeartbeats 4000000
namespace WM
/-- heads of one bank that are among those of another one -/
structure Emb (up : Nat → Nat) (b' b : List (List Nat)) : Prop where
  lt : ∀ j, j < b'.length → up j < b.length
  eq : ∀ j, j < b'.length → b'.getD j [] = b.getD (up j) []
  inj : ∀ i j, i < b'.length → j < b'.length → up i = up j → i = j
def REmb (up : Nat → Nat) (b' b : List (List Nat)) (ps' ps : List Int) : Prop := ps'.length = b'.length ∧ ps.length = b.length ∧ ∀ j, j < b'.length → ps'.getD j 0 = ps.getD (up j) 0
end WM
namespace W
open PySem L2 WM
end W

set_option Elab.async false
set_option linter.all false
set_option maxRecDepth 100000
set_option maxHeartbeats 4000000
namespace L2
open PySem PySem.Spec PyProof.Rows PySem.Builtin
/-! a tuple times an int from 1 on -/
section
variable {X : Cx}
def rRepT : R2 := fun x y H Q => ∃ a k xs, x = .ref a ∧ y = .int k ∧ H a = some (.tup xs) ∧ xs ≠ [] ∧ 1 ≤ k ∧ k ≤ 1000 ∧ xs.length * k.toNat ≤ sizeLine ∧
  ∀ p H', Same H H' → H' p = some (.tup (List.replicate k.toNat xs).flatten) → Q (.ref p) H'
end
end L2

set_option Elab.async false
set_option linter.all false
set_option maxRecDepth 100000
set_option maxHeartbeats 4000000
namespace WM
/-! all plans, sign by sign -/
section
variable {σ μ : Type} (mv : σ → Nat → List (μ × σ))
def gQs (X : List (List μ × σ)) (c : Nat) : List (List μ × σ) := X.flatMap fun x => (mv x.2 c).map fun m => (x.1 ++ [m.1], m.2)
def gQ (o : List Nat) (s : σ) : List (List μ × σ) := o.foldl (gQs mv) [([], s)]
end
/-! how many turns strike a sign -/
/-- so many plans at most -/
def capB (b : List (List Nat)) (o : List Nat) : Nat := o.foldl (fun m c => m * 2 * b.flatten.count c) 1
end WM
namespace W
open PySem L2 WM
/-! deeds: ((head, turn), stand) -/
def DdAt (H : Hp) (q : Addr) (m : Mv) : Prop := ∃ a b, H q = some (.tup [.ref a, .ref b]) ∧ Tr2 H a m.1 ∧ StAt H b m.2
def DdsAt (H : Hp) (a : Addr) (ms : List Mv) : Prop := ∃ qs : List Addr, H a = some (.lst (qs.map V.ref)) ∧ All2 (DdAt H) qs ms
/-- a plan and the stand behind it -/
def BQAt (H : Hp) (q : Addr) (x : List (Int × Int) × List Int) : Prop := ∃ a b rs, H q = some (.tup [.ref a, .ref b]) ∧ PrAt H a x.1 rs ∧ StAt H b x.2
end W

set_option Elab.async false
set_option linter.all false
set_option maxRecDepth 100000
set_option maxHeartbeats 4000000
namespace W
open PySem L2 WM
/-! text.count(sign) -/
/-! plans of several heads, as data -/
def dPl (pl : List (Int × Int)) : PyData := .list (pl.map fun x => d2 x.1 x.2)
end W

set_option Elab.async false
set_option linter.all false
set_option maxRecDepth 100000
set_option maxHeartbeats 4000000
namespace WM
/-- stands that are come to -/
def RcB (b : List (List Nat)) (o : List Nat) (s : List Int) (k : Nat) (ps : List Int) : Prop := ∃ x ∈ gQ (mvA b) (o.take k) s, x.2 = ps
end WM
namespace W
open PySem L2 WM
/-- a dict whose keys are these stands -/
def LatAt (H : Hp) (d : Addr) (L : List (List Int)) : Prop := ∃ kvs, H d = some (.dT kvs) ∧ kvs.map (·.1) = L.map kS ∧ L.Nodup
end W

set_option Elab.async false
set_option linter.all false
set_option maxRecDepth 100000
set_option maxHeartbeats 4000000
namespace W
open PySem L2 WM
def top (i : Nat) : Stmt := PySem.Challenge.pw_strikewheel_k08_whole_first_of_great_pla.main.body.getD i (.Pass ⟨0, 0, 0, 0⟩)
end W

set_option Elab.async false
set_option linter.all false
set_option maxRecDepth 100000
set_option maxHeartbeats 4000000
namespace W
open PySem L2 WM
abbrev sDraw : Stmt := top 42
abbrev psDraw : List Str := ["draws", "many"]
theorem scDraw : FnScope ["draws", "many", "found"] ["draws", "many"] (defScope sDraw) := ⟨rfl, rfl, rfl, by decide +kernel, rfl, by decide +kernel, by decide +kernel⟩
section
variable {P : Program} {w : World} {K : PySem.W.Frag} {mg : Str → Option Value} {base : Heap}
theorem ok_draw {f : Addr} {fd : FuncData} (F : Fun K "_law_draw" "_law_draw" sDraw f fd) : FnOk P w K mg base CX0 1 f fd ["draws", "many"] spDraw := by
  refine F.ok scDraw (fun vs H Q E h => ?_) (fun cdv A outer s H vs Q E hr h => ?_)
  · obtain ⟨p, m, rfl, _⟩ := h
    rfl
  · obtain ⟨p, m, rfl, ⟨a, b, c, hp, D⟩, m0, m1, k⟩ := h
    refine ⟨_, (@pss_cons _ _ _ _ _ (@ps_if _ _ _ _ _ _ _ _ (@pt_cmpR _ _ _ _ _ _ _ _ op_gt (@pe_ix _ _ _ _ _ _ _ ix_list (@pv _ 0 _ _ (by rfl) (by first | exact Or.inl rfl | exact Or.inr (Or.inl rfl) | exact Or.inr (Or.inr rfl)) (by decide) (by decide)) (@pe_int _ _ _ _) (fun _ _ => rfl)) (@pe_int _ _ _ _) (nomark _)) (@pss_cons _ _ _ _ _ (@ps_set _ _ 2 _ _ _ _ scDraw.nd rfl (Or.inl rfl) (@pe_op _ _ _ _ _ _ _ _ op_mod (@pe_ix _ _ _ _ _ _ _ ix_list (@pv _ 0 _ _ (by rfl) (by first | exact Or.inl rfl | exact Or.inr (Or.inl rfl) | exact Or.inr (Or.inr rfl)) (by decide) (by decide)) (@pe_int _ _ _ _) (fun _ _ => rfl)) (@pv _ 1 _ _ (by rfl) (by first | exact Or.inl rfl | exact Or.inr (Or.inl rfl) | exact Or.inr (Or.inr rfl)) (by decide) (by decide))) (by rfl) (by first | exact .inl rfl | exact .inr rfl | assumption)) (@pss_cons _ _ _ _ _ (@ps_asg _ _ _ _ _ _ (@pe_op _ _ _ _ _ _ _ _ op_fdiv (@pe_ix _ _ _ _ _ _ _ ix_list (@pv _ 0 _ _ (by rfl) (by first | exact Or.inl rfl | exact Or.inr (Or.inl rfl) | exact Or.inr (Or.inr rfl)) (by decide) (by decide)) (@pe_int _ _ _ _) (fun _ _ => rfl)) (@pv _ 1 _ _ (by rfl) (by first | exact Or.inl rfl | exact Or.inr (Or.inl rfl) | exact Or.inr (Or.inr rfl)) (by decide) (by decide))) (@pg_sub _ _ _ _ _ _ _ (@pv _ 0 _ _ (by rfl) (by first | exact Or.inl rfl | exact Or.inr (Or.inl rfl) | exact Or.inr (Or.inr rfl)) (by decide) (by decide)) (@pe_int _ _ _ _) set_list (by intro _ ; rfl)) (by rfl) (by rfl) (by rfl)) (@pss_one _ _ _ (@ps_ret _ _ _ _ (@pv _ 2 _ _ (by rfl) (by first | exact Or.inl rfl | exact Or.inr (Or.inl rfl) | exact Or.inr (Or.inr rfl)) (by decide) (by decide)))))) (@pss_nil _)) (@pss_cons _ _ _ _ _ (@ps_asg _ _ _ _ _ _ (@pe_op _ _ _ _ _ _ _ _ op_add (@pe_op _ _ _ _ _ _ _ _ op_mod (@pe_op _ _ _ _ _ _ _ _ op_mul (@pe_ix _ _ _ _ _ _ _ ix_list (@pv _ 0 _ _ (by rfl) (by first | exact Or.inl rfl | exact Or.inr (Or.inl rfl) | exact Or.inr (Or.inr rfl)) (by decide) (by decide)) (@pe_int _ _ _ _) (fun _ _ => rfl)) (@pe_int _ _ _ _)) (@pe_ix _ _ _ _ _ _ _ ix_list (@pv _ 0 _ _ (by rfl) (by first | exact Or.inl rfl | exact Or.inr (Or.inl rfl) | exact Or.inr (Or.inr rfl)) (by decide) (by decide)) (@pe_int _ _ _ _) (fun _ _ => rfl))) (@pe_int _ _ _ _)) (@pg_sub _ _ _ _ _ _ _ (@pv _ 0 _ _ (by rfl) (by first | exact Or.inl rfl | exact Or.inr (Or.inl rfl) | exact Or.inr (Or.inr rfl)) (by decide) (by decide)) (@pe_int _ _ _ _) set_list (by intro _ ; rfl)) (by rfl) (by rfl) (by rfl)) (@pss_one _ _ _ (@ps_ret _ _ _ _ (@pe_op _ _ _ _ _ _ _ _ op_mod (@pe_op _ _ _ _ _ _ _ _ op_fdiv (@pe_op _ _ _ _ _ _ _ _ op_mod (@pe_op _ _ _ _ _ _ _ _ op_mul (@pe_ix _ _ _ _ _ _ _ ix_list (@pv _ 0 _ _ (by rfl) (by first | exact Or.inl rfl | exact Or.inr (Or.inl rfl) | exact Or.inr (Or.inr rfl)) (by decide) (by decide)) (@pe_int _ _ _ _) (fun _ _ => rfl)) (@pe_op _ _ _ _ _ _ _ _ op_add (@pe_op _ _ _ _ _ _ _ _ op_fdiv (@pe_ix _ _ _ _ _ _ _ ix_list (@pv _ 0 _ _ (by rfl) (by first | exact Or.inl rfl | exact Or.inr (Or.inl rfl) | exact Or.inr (Or.inr rfl)) (by decide) (by decide)) (@pe_int _ _ _ _) (fun _ _ => rfl)) (@pe_int _ _ _ _)) (@pe_int _ _ _ _))) (@pe_int _ _ _ _)) (@pe_int _ _ _ _)) (@pv _ 1 _ _ (by rfl) (by first | exact Or.inl rfl | exact Or.inr (Or.inl rfl) | exact Or.inr (Or.inr rfl)) (by decide) (by decide))))))), ?_⟩
    refine ⟨_, rfl, p, _, _, _, rfl, rfl, SqL.of hp, atI_nat (j := 0) rfl, _, _, rfl, rfl, _, rfl, ?_⟩
    refine ite2 (fun _ => ?_) (fun _ => ?_)
    · refine ⟨_, rfl, p, _, _, _, rfl, rfl, SqL.of hp, atI_nat (j := 0) rfl, _, rfl, _, _, rfl, rfl, m0, ?_⟩
      refine ⟨_, rfl, p, _, _, _, rfl, rfl, SqL.of hp, atI_nat (j := 0) rfl, _, rfl, _, _, rfl, rfl, ⟨m0, m1⟩, ?_⟩
      refine ⟨_, rfl, p, _, _, 0, rfl, rfl, hp, rfl, ?_⟩
      refine ⟨_, rfl, ?_⟩
      refine k _ _ (Int.emod_nonneg _ (by omega)) (Int.emod_lt_of_pos _ m0) ⟨a / m, b, c, upd_same, ?_⟩ (But.upd _ _ _)
      exact ⟨Int.ediv_nonneg D.a0 (by omega), D.b0, D.b1, D.c0, D.c1⟩
    · refine ⟨_, rfl, p, _, _, _, rfl, rfl, SqL.of hp, atI_nat (j := 1) rfl, _, _, rfl, rfl, .inr ⟨by decide, by decide⟩, _, rfl, p, _, _, _, rfl, rfl, SqL.of hp, atI_nat (j := 2) rfl, _, _, rfl, rfl, D.c0, _, _, rfl, rfl, ?_⟩
      refine ⟨_, rfl, p, _, _, 1, rfl, rfl, hp, rfl, ?_⟩
      have r0 : 0 ≤ b * 69621 % c := Int.emod_nonneg _ (by have := D.c0; omega)
      have r1 : b * 69621 % c < c := Int.emod_lt_of_pos _ D.c0
      have c1 := D.c1
      refine ⟨_, rfl, p, _, _, _, rfl, rfl, SqL.of upd_same, atI_nat (j := 1) rfl, _, rfl, p, _, _, _, rfl, rfl, SqL.of upd_same, atI_nat (j := 1) rfl, _, _, rfl, rfl, ⟨by decide, by decide⟩, _, _, rfl, rfl,
        _, _, rfl, rfl, .inl ⟨by show -(2 ^ 64) < b * 69621 % c + 1; omega, by show b * 69621 % c + 1 < 2 ^ 64; omega⟩, _, _, rfl, rfl, (by show (0 : Int) < 2147483423; decide), _, _, rfl, rfl, ⟨by decide, by decide⟩, _, rfl, _, _, rfl, rfl, m0, ?_⟩
      refine k _ _ (Int.emod_nonneg _ (by omega)) (Int.emod_lt_of_pos _ m0) ⟨a, b * 69621 % c + 1, c, upd_same, ?_⟩ (But.upd _ _ _)
      exact ⟨D.a0, by omega, by omega, D.c0, D.c1⟩
theorem cal_draw (D : Def K mg "_law_draw" sDraw psDraw) : Cal P w K mg base CX0 1 "_law_draw" psDraw spDraw := cal_mk D fun f fd F => ok_draw F
end
end W

set_option Elab.async false
set_option linter.all false
set_option maxRecDepth 100000
set_option maxHeartbeats 4000000
namespace W
open PySem L2 WM
abbrev sDraws : Stmt := top 41
abbrev psDraws : List Str := ["script", "k"]
theorem scDraws : FnScope ["script", "k", "primes", "cell", "seed"] ["script", "k"] (defScope sDraws) := ⟨rfl, rfl, rfl, by decide +kernel, rfl, by decide +kernel, by decide +kernel⟩
section
variable {P : Program} {w : World} {K : PySem.W.Frag} {mg : Str → Option Value} {base : Heap}
theorem ok_draws {f : Addr} {fd : FuncData} (F : Fun K "_law_draws" "_law_draws" sDraws f fd) (T : Txt mg) : FnOk P w K mg base CX0 1 f fd ["script", "k"] (spDraws K) := by
  refine F.ok scDraws (fun vs H Q E h => ?_) (fun cdv A outer s H vs Q E hr h => ?_)
  · obtain ⟨a, ns, j, rfl, _⟩ := h
    rfl
  · obtain ⟨a, ns, j, rfl, hS, hlen, j0, j63, k⟩ := h
    refine ⟨_, (@pss_cons _ _ _ _ _ (@ps_set _ _ 2 _ _ _ _ scDraws.nd rfl (Or.inl rfl) (@pe_tup _ _ _ _ _ (@pa_cons _ _ _ _ _ (@pe_int _ _ _ _) (@pa_cons _ _ _ _ _ (@pe_int _ _ _ _) (@pa_cons _ _ _ _ _ (@pe_int _ _ _ _) (@pa_cons _ _ _ _ _ (@pe_int _ _ _ _) (@pa_cons _ _ _ _ _ (@pe_int _ _ _ _) (@pa_cons _ _ _ _ _ (@pe_int _ _ _ _) (@pa_cons _ _ _ _ _ (@pe_int _ _ _ _) (@pa_cons _ _ _ _ _ (@pe_int _ _ _ _) (@pa_nil _) (by rfl)) (by rfl)) (by rfl)) (by rfl)) (by rfl)) (by rfl)) (by rfl)) (by rfl))) (by rfl) (by first | exact .inl rfl | exact .inr rfl | assumption)) (@pss_cons _ _ _ _ _ (@ps_set _ _ 3 _ _ _ _ scDraws.nd rfl (Or.inl rfl) (@pe_op _ _ _ _ _ _ _ _ op_add (@pe_op _ _ _ _ _ _ _ _ op_mul (@pe_int _ _ _ _) (@pv _ 1 _ _ (by rfl) (by first | exact Or.inl rfl | exact Or.inr (Or.inl rfl) | exact Or.inr (Or.inr rfl)) (by decide) (by decide))) (@pe_int _ _ _ _)) (by rfl) (by first | exact .inl rfl | exact .inr rfl | assumption)) (@pss_cons _ _ _ _ _ (@ps_cut _ _ _ (@ps_if _ _ _ _ _ _ _ _ (@pt_cmpR _ _ _ _ _ _ _ _ op_lt (@pv _ 1 _ _ (by rfl) (by first | exact Or.inl rfl | exact Or.inr (Or.inl rfl) | exact Or.inr (Or.inr rfl)) (by decide) (by decide)) (@pe_callB _ _ _ _ _ _ _ _ _ call_len_seq (by rfl) T.len PySem.boot_len (@pa_cons _ _ _ _ _ (@pv _ 0 _ _ (by rfl) (by first | exact Or.inl rfl | exact Or.inr (Or.inl rfl) | exact Or.inr (Or.inr rfl)) (by decide) (by decide)) (@pa_nil _) (by rfl)) (by decide) (by decide) (by rfl) (by rfl)) (nomark _)) (@pss_one _ _ _ (@ps_set _ _ 3 _ _ _ _ scDraws.nd rfl (Or.inl rfl) (@pe_op _ _ _ _ _ _ _ _ op_mod (@pe_ix _ _ _ _ _ _ _ ix_list (@pv _ 0 _ _ (by rfl) (by first | exact Or.inl rfl | exact Or.inr (Or.inl rfl) | exact Or.inr (Or.inr rfl)) (by decide) (by decide)) (@pv _ 1 _ _ (by rfl) (by first | exact Or.inl rfl | exact Or.inr (Or.inl rfl) | exact Or.inr (Or.inr rfl)) (by decide) (by decide)) (fun _ _ => rfl)) (@pe_op _ _ _ _ _ _ _ _ op_mulX (@pe_op _ _ _ _ _ _ _ _ op_pow (@pe_int _ _ _ _) (@pe_int _ _ _ _)) (@pe_op _ _ _ _ _ _ _ _ op_pow (@pe_int _ _ _ _) (@pe_int _ _ _ _)))) (by rfl) (by first | exact .inl rfl | exact .inr rfl | assumption))) (@pss_one _ _ _ (@ps_if _ _ _ _ _ _ _ _ (@pt_cmpR _ _ _ _ _ _ _ _ op_gt (@pe_callB _ _ _ _ _ _ _ _ _ call_len_seq (by rfl) T.len PySem.boot_len (@pa_cons _ _ _ _ _ (@pv _ 0 _ _ (by rfl) (by first | exact Or.inl rfl | exact Or.inr (Or.inl rfl) | exact Or.inr (Or.inr rfl)) (by decide) (by decide)) (@pa_nil _) (by rfl)) (by decide) (by decide) (by rfl) (by rfl)) (@pe_int _ _ _ _) (nomark _)) (@pss_one _ _ _ (@ps_set _ _ 3 _ _ _ _ scDraws.nd rfl (Or.inl rfl) (@pe_op _ _ _ _ _ _ _ _ op_add (@pe_op _ _ _ _ _ _ _ _ op_mod (@pe_ix _ _ _ _ _ _ _ ix_list (@pv _ 0 _ _ (by rfl) (by first | exact Or.inl rfl | exact Or.inr (Or.inl rfl) | exact Or.inr (Or.inr rfl)) (by decide) (by decide)) (@pe_op _ _ _ _ _ _ _ _ op_mod (@pv _ 1 _ _ (by rfl) (by first | exact Or.inl rfl | exact Or.inr (Or.inl rfl) | exact Or.inr (Or.inr rfl)) (by decide) (by decide)) (@pe_callB _ _ _ _ _ _ _ _ _ call_len_seq (by rfl) T.len PySem.boot_len (@pa_cons _ _ _ _ _ (@pv _ 0 _ _ (by rfl) (by first | exact Or.inl rfl | exact Or.inr (Or.inl rfl) | exact Or.inr (Or.inr rfl)) (by decide) (by decide)) (@pa_nil _) (by rfl)) (by decide) (by decide) (by rfl) (by rfl))) (fun _ _ => rfl)) (@pe_op _ _ _ _ _ _ _ _ op_pow (@pe_int _ _ _ _) (@pe_int _ _ _ _))) (@pe_op _ _ _ _ _ _ _ _ op_mul (@pe_int _ _ _ _) (@pv _ 1 _ _ (by rfl) (by first | exact Or.inl rfl | exact Or.inr (Or.inl rfl) | exact Or.inr (Or.inr rfl)) (by decide) (by decide)))) (by rfl) (by first | exact .inl rfl | exact .inr rfl | assumption))) (@pss_nil _))))) (@pss_cons _ _ _ _ _ (@ps_cut _ _ _ (@ps_set _ _ 4 _ _ _ _ scDraws.nd rfl (Or.inl rfl) (@pe_op _ _ _ _ _ _ _ _ op_mod (@pe_op _ _ _ _ _ _ _ _ op_mul (@pe_op _ _ _ _ _ _ _ _ op_add (@pe_op _ _ _ _ _ _ _ _ op_add (@pe_op _ _ _ _ _ _ _ _ op_mod (@pv _ 3 _ _ (by rfl) (by first | exact Or.inl rfl | exact Or.inr (Or.inl rfl) | exact Or.inr (Or.inr rfl)) (by decide) (by decide)) (@pe_int _ _ _ _)) (@pe_op _ _ _ _ _ _ _ _ op_mul (@pe_int _ _ _ _) (@pv _ 1 _ _ (by rfl) (by first | exact Or.inl rfl | exact Or.inr (Or.inl rfl) | exact Or.inr (Or.inr rfl)) (by decide) (by decide)))) (@pe_int _ _ _ _)) (@pe_op _ _ _ _ _ _ _ _ op_add (@pe_int _ _ _ _) (@pe_op _ _ _ _ _ _ _ _ op_mul (@pe_op _ _ _ _ _ _ _ _ op_mul (@pe_int _ _ _ _) (@pv _ 1 _ _ (by rfl) (by first | exact Or.inl rfl | exact Or.inr (Or.inl rfl) | exact Or.inr (Or.inr rfl)) (by decide) (by decide))) (@pv _ 1 _ _ (by rfl) (by first | exact Or.inl rfl | exact Or.inr (Or.inl rfl) | exact Or.inr (Or.inr rfl)) (by decide) (by decide))))) (@pe_int _ _ _ _)) (by rfl) (by first | exact .inl rfl | exact .inr rfl | assumption))) (@pss_cons _ _ _ _ _ (@ps_set _ _ 4 _ _ _ _ scDraws.nd rfl (Or.inl rfl) (@pe_op _ _ _ _ _ _ _ _ op_add (@pe_op _ _ _ _ _ _ _ _ op_add (@pe_op _ _ _ _ _ _ _ _ op_mod (@pe_op _ _ _ _ _ _ _ _ op_mul (@pe_op _ _ _ _ _ _ _ _ op_mul (@pv _ 4 _ _ (by rfl) (by first | exact Or.inl rfl | exact Or.inr (Or.inl rfl) | exact Or.inr (Or.inr rfl)) (by decide) (by decide)) (@pv _ 4 _ _ (by rfl) (by first | exact Or.inl rfl | exact Or.inr (Or.inl rfl) | exact Or.inr (Or.inr rfl)) (by decide) (by decide))) (@pv _ 4 _ _ (by rfl) (by first | exact Or.inl rfl | exact Or.inr (Or.inl rfl) | exact Or.inr (Or.inr rfl)) (by decide) (by decide))) (@pe_int _ _ _ _)) (@pv _ 1 _ _ (by rfl) (by first | exact Or.inl rfl | exact Or.inr (Or.inl rfl) | exact Or.inr (Or.inr rfl)) (by decide) (by decide))) (@pe_int _ _ _ _)) (by rfl) (by first | exact .inl rfl | exact .inr rfl | assumption)) (@pss_one _ _ _ (@ps_ret _ _ _ _ (@pe_lst _ _ _ _ (@pa_cons _ _ _ _ _ (@pe_op _ _ _ _ _ _ _ _ op_mul (@pv _ 3 _ _ (by rfl) (by first | exact Or.inl rfl | exact Or.inr (Or.inl rfl) | exact Or.inr (Or.inr rfl)) (by decide) (by decide)) (@pe_callTy _ _ _ _ _ _ _ _ _ call_int1 (by rfl) T.int (by decide +kernel) (@pa_cons _ _ _ _ _ (@pe_cmpR _ _ _ _ _ _ _ _ op_ge (@pv _ 3 _ _ (by rfl) (by first | exact Or.inl rfl | exact Or.inr (Or.inl rfl) | exact Or.inr (Or.inr rfl)) (by decide) (by decide)) (@pe_op _ _ _ _ _ _ _ _ op_pow (@pe_int _ _ _ _) (@pe_int _ _ _ _)) (nomark _)) (@pa_nil _) (by rfl)) (by decide) (by decide) (by rfl) (by rfl))) (@pa_cons _ _ _ _ _ (@pv _ 4 _ _ (by rfl) (by first | exact Or.inl rfl | exact Or.inr (Or.inl rfl) | exact Or.inr (Or.inr rfl)) (by decide) (by decide)) (@pa_cons _ _ _ _ _ (@pe_ix _ _ _ _ _ _ _ ix_tup (@pv _ 2 _ _ (by rfl) (by first | exact Or.inl rfl | exact Or.inr (Or.inl rfl) | exact Or.inr (Or.inr rfl)) (by decide) (by decide)) (@pe_op _ _ _ _ _ _ _ _ op_mod (@pv _ 1 _ _ (by rfl) (by first | exact Or.inl rfl | exact Or.inr (Or.inl rfl) | exact Or.inr (Or.inr rfl)) (by decide) (by decide)) (@pe_int _ _ _ _)) (fun _ _ => rfl)) (@pa_nil _) (by rfl)) (by rfl)) (by rfl)))))))))), ?_⟩
    refine ⟨(by show 8 ≤ sizeLine; decide), fun pt ht => ?_⟩
    have sm : Same H (upd H pt (.tup primes)) := fun b o e => by rw [upd_ne (ne_of_none e ht)]; exact e
    refine ⟨_, rfl, _, _, rfl, rfl, .inl ⟨by decide, by decide⟩, _, _, rfl, rfl, ?_⟩
    refine ⟨fun σ' H' => ∃ c : Int, 0 ≤ c ∧ σ' = [some (.ref a), some (.int j), some (.ref pt), some (.int c), none] ∧ H' = upd H pt (.tup primes), ?_, ?_⟩
    rotate_left
    · rintro σ' H' ⟨c, c0, rfl, rfl⟩
      have e1 : 0 ≤ c % 2147483423 := Int.emod_nonneg _ (by decide)
      have e2 : c % 2147483423 < 2147483423 := Int.emod_lt_of_pos _ (by decide)
      refine ⟨fun σ' H' => ∃ sd : Int, 0 ≤ sd ∧ sd < 2147483423 ∧ σ' = [some (.ref a), some (.int j), some (.ref pt), some (.int c), some (.int sd)] ∧ H' = upd H pt (.tup primes), ?_, ?_⟩
      · refine ⟨_, rfl, _, _, rfl, rfl, (by show (0 : Int) < 2147483423; decide), _, rfl, _, _, rfl, rfl, .inl ⟨by decide, by decide⟩, _, _, rfl, rfl, _, _, rfl, rfl, _, rfl, _, _, rfl, rfl, .inl ⟨by decide, by decide⟩, _, rfl, _, _, rfl, rfl,
        .inl ⟨by show -(2 ^ 64) < 2 * j; omega, by show 2 * j < 2 ^ 64; omega⟩, _, _, rfl, rfl, _, _, rfl, rfl, .inl ⟨by show -(2 ^ 64) < c % 2147483423 + 3 * j + 1; omega, by show c % 2147483423 + 3 * j + 1 < 2 ^ 64; omega⟩, _, _, rfl, rfl, (by show (0 : Int) < 2147483423; decide), ?_⟩
        exact ⟨_, Int.emod_nonneg _ (by decide), Int.emod_lt_of_pos _ (by decide), rfl, rfl⟩
      rintro σ' H' ⟨sd, f0, f1, rfl, rfl⟩
      have hsq : 0 ≤ sd * sd := Int.mul_nonneg f0 f0
      have hsq2 : sd * sd ≤ 2147483423 * 2147483423 := Int.mul_le_mul (by omega) (by omega) f0 (by decide)
      have g0 : 0 ≤ sd * sd * sd % 2147483399 := Int.emod_nonneg _ (by decide)
      have g1 : sd * sd * sd % 2147483399 < 2147483399 := Int.emod_lt_of_pos _ (by decide)
      refine ⟨_, rfl, _, rfl, _, _, rfl, rfl, .inl ⟨by show -(2 ^ 64) < sd; omega, by show sd < 2 ^ 64; omega⟩, _, rfl, _, _, rfl, rfl, .inl ⟨by show -(2 ^ 64) < sd * sd; omega, by show sd * sd < 2 ^ 64; omega⟩, _, _, rfl, rfl, (by show (0 : Int) < 2147483399; decide), _, rfl, _, _, rfl, rfl, _, _, rfl, rfl, ?_⟩
      refine ⟨_, rfl, _, rfl, _, _, rfl, rfl, ⟨by decide, by decide, by decide⟩, _, _, rfl, rfl, .inr ⟨_, rfl, ?_⟩⟩
      obtain ⟨pc, hpc, pc0, pc1⟩ := primes_at (z := j % 8) (Int.emod_nonneg _ (by decide)) (Int.emod_lt_of_pos _ (by decide))
      have hb : ∃ z : Int, (if decide ((10 : Int) ^ (18 : Int).toNat ≤ c) = true then (1 : Int) else 0) = z ∧ 0 ≤ z ∧ z ≤ 1 := by
        by_cases h : decide ((10 : Int) ^ (18 : Int).toNat ≤ c) = true
        · rw [if_pos h]; exact ⟨_, rfl, by decide, by decide⟩
        · rw [if_neg h]; exact ⟨_, rfl, by decide, by decide⟩
      obtain ⟨z, hz, z0, z1⟩ := hb
      rw [hz]
      refine ⟨_, _, rfl, rfl, .inr ⟨by omega, by omega⟩, _, rfl, _, rfl, _, rfl, _, _, rfl, rfl, (by show (0 : Int) < 8; decide), pt, _, _, _, rfl, rfl, SqT.of upd_same, hpc, (by show 3 ≤ sizeLine; decide), fun L hL => ?_⟩
      refine k L _ ?_ ⟨_, _, _, upd_same, Int.mul_nonneg c0 z0, by omega, by omega, pc0, pc1⟩ fun b o e => ?_
      · exact sm.free hL
      · rw [upd_ne (ne_of_none (sm b o e) hL)]
        exact sm b o e
    refine ⟨_, rfl, _, rfl, a, _, rfl, .inl (sm.seq hS), _, _, rfl, rfl, _, rfl, ?_⟩
    refine ite2 (fun hlt => ?_) (fun hge => ?_)
    · have hlt' : j < (ns.length : Int) := by
        have := of_decide_eq_true hlt
        rw [List.length_map] at this
        exact this
      obtain ⟨y, hy⟩ := int_at j0 hlt'
      refine ⟨_, rfl, _, rfl, a, _, _, _, rfl, rfl, sm.seq hS, hy, _, _, rfl, rfl, ⟨by decide, by decide, by decide⟩, _, _, rfl, rfl, ⟨by decide, by decide, by decide⟩, _, _, rfl, rfl, big_ok, _, _, rfl, rfl, big_pos, ?_⟩
      exact ⟨_, Int.emod_nonneg _ (Int.ne_of_gt big_pos), rfl, rfl⟩
    · refine ⟨_, rfl, a, _, rfl, .inl (sm.seq hS), _, _, rfl, rfl, _, rfl, ?_⟩
      rw [List.length_map]
      refine ite2 (fun hp => ?_) (fun _ => ?_)
      · have hp' : 0 < (ns.length : Int) := of_decide_eq_true hp
        obtain ⟨y, hy⟩ := int_at (ns := ns) (z := j % (ns.length : Int)) (Int.emod_nonneg _ (by omega)) (Int.emod_lt_of_pos _ hp')
        refine ⟨_, rfl, _, rfl, _, rfl, a, _, rfl, .inl (sm.seq hS), _, _, rfl, rfl, (by rw [List.length_map]; exact hp'), a, _, _, _, rfl, rfl, sm.seq hS, (by rw [List.length_map]; exact hy), _, _, rfl, rfl, ⟨by decide, by decide, by decide⟩, _, _, rfl, rfl, p15, _, rfl, _, _, rfl, rfl, .inl ⟨by decide, by decide⟩, _, _, rfl, rfl, ?_⟩
        refine ⟨_, ?_, rfl, rfl⟩
        have := Int.emod_nonneg y (Int.ne_of_gt p15)
        omega
      · exact ⟨_, by omega, rfl, rfl⟩
theorem cal_draws (D : Def K mg "_law_draws" sDraws psDraws) (T : Txt mg) : Cal P w K mg base CX0 1 "_law_draws" psDraws (spDraws K) := cal_mk D fun f fd F => ok_draws F T
end
end W

set_option Elab.async false
set_option linter.all false
set_option maxRecDepth 100000
set_option maxHeartbeats 4000000
namespace W
open PySem L2 WM
abbrev sLetters : Stmt := top 43
abbrev psLetters : List Str := ["draws", "many", "kinds"]
theorem scLetters : FnScope ["draws", "many", "kinds", "letters", "first", "k"] ["draws", "many", "kinds"] (defScope sLetters) := ⟨rfl, rfl, rfl, by decide +kernel, rfl, by decide +kernel, by decide +kernel⟩
section
variable {P : Program} {w : World} {K : PySem.W.Frag} {mg : Str → Option Value} {base : Heap}
theorem ok_letters {f f1 : Addr} {fd fd1 : FuncData} (F : Fun K "_law_letters" "_law_letters" sLetters f fd) (T : Txt mg) (F1 : Fun K "_law_draw" "_law_draw" sDraw f1 fd1) (b1 : Binds K fd1 ["draws", "many"] []) (m1 : mg "_law_draw" = some (.ref f1)) :
    FnOk P w K mg base CX0 2 f fd ["draws", "many", "kinds"] spLetters := by
  refine F.ok scLetters (fun vs H Q E h => ?_) (fun cdv A outer s H vs Q E hr h => ?_)
  · obtain ⟨p, m, kd, rfl, _⟩ := h
    rfl
  · obtain ⟨p, m, kd, rfl, D, m0, m100, k1, k26, k⟩ := h
    have G1 : FnOk P w K mg base CX0 1 f1 fd1 ["draws", "many"] spDraw := ok_draw F1
    refine ⟨_, (@pss_cons _ _ _ _ _ (@ps_set _ _ 3 _ _ _ _ scLetters.nd rfl (Or.inr rfl) (@pe_str _ _ _ _) (by rfl) (by first | exact .inl rfl | exact .inr rfl | assumption)) (@pss_cons _ _ _ _ _ (@ps_set _ _ 4 _ _ _ _ scLetters.nd rfl (Or.inr rfl) (@pe_call _ _ _ _ _ _ _ _ _ _ _ _ _ _ _ _ G1 hr (by rfl) m1 F1.kp b1 .nil pass0 (@pa_cons _ _ _ _ _ (@pv _ 0 _ _ (by rfl) (by first | exact Or.inl rfl | exact Or.inr (Or.inl rfl) | exact Or.inr (Or.inr rfl)) (by decide) (by decide)) (@pa_cons _ _ _ _ _ (@pe_op _ _ _ _ _ _ _ _ op_sub (@pe_int _ _ _ _) (@pv _ 2 _ _ (by rfl) (by first | exact Or.inl rfl | exact Or.inr (Or.inl rfl) | exact Or.inr (Or.inr rfl)) (by decide) (by decide))) (@pa_nil _) (by rfl)) (by rfl)) (by decide) (by rfl) (by rfl)) (by rfl) (by first | exact .inl rfl | exact .inr rfl | assumption)) (@pss_one _ _ _ (@ps_ret _ _ _ _ (@pe_join _ _ _ _ _ _ _ (@pe_str _ _ _ _) (@pe_lc _ _ _ _ _ _ [("k", 5)] _ _ (gName 5) _ _ (by rfl) scLetters.nd (@pi_range1 _ _ _ _ _ _ (by rfl) T.range (@pa_cons _ _ _ _ _ (@pv _ 1 _ _ (by rfl) (by first | exact Or.inl rfl | exact Or.inr (Or.inl rfl) | exact Or.inr (Or.inr rfl)) (by decide) (by decide)) (@pa_nil _) (by rfl)) (by rfl)) (blkOk_by (own := [("k", 5)]) (N := ["draws", "many", "kinds", "letters", "first", "k"]) (sc := defScope sLetters) (by decide +kernel)) (fun _ _ _ _ _ => (@pg_name _ _ 5 _ scLetters.nd rfl (Or.inl rfl) (by first | exact .inl rfl | exact .inr rfl | assumption))) (fun _ _ _ _ _ => (@pts_nil _)) (fun _ _ _ _ _ => (@pe_ix _ _ _ _ _ _ _ ix_str (@pv _ 3 _ _ (by rfl) (by first | exact Or.inl rfl | exact Or.inr (Or.inl rfl) | exact Or.inr (Or.inr rfl)) (by decide) (by decide)) (@pe_op _ _ _ _ _ _ _ _ op_add (@pv _ 4 _ _ (by rfl) (by first | exact Or.inl rfl | exact Or.inr (Or.inl rfl) | exact Or.inr (Or.inr rfl)) (by decide) (by decide)) (@pe_call _ _ _ _ _ _ _ _ _ _ _ _ _ _ _ _ G1 hr (by rfl) m1 F1.kp b1 .nil pass0 (@pa_cons _ _ _ _ _ (@pv _ 0 _ _ (by rfl) (by first | exact Or.inl rfl | exact Or.inr (Or.inl rfl) | exact Or.inr (Or.inr rfl)) (by decide) (by decide)) (@pa_cons _ _ _ _ _ (@pv _ 2 _ _ (by rfl) (by first | exact Or.inl rfl | exact Or.inr (Or.inl rfl) | exact Or.inr (Or.inr rfl)) (by decide) (by decide)) (@pa_nil _) (by rfl)) (by rfl)) (by decide) (by rfl) (by rfl))) (fun _ _ => rfl))) (by intro _ ; rfl)) (by rfl) (by rfl) (by rfl)))))), ?_⟩
    refine ⟨_, rfl, _, rfl, _, _, rfl, rfl, p, _, rfl, D, by omega, by omega, fun r H1 r0 r1 D1 B1 => ?_⟩
    refine ⟨⟨_, rfl⟩, _, rfl, m, rfl, by omega, by omega, fun L hL => lc_range (lo := 0) (n := m.toNat) (fun i H2 => DrAt H2 p ∧ But p H H2 ∧ ∃ l : List Nat, l.length = i ∧ Low l ∧ H2 L = some (.lst (l.map fun c => V.str (txt [c])))) ?_ ?_ ?_⟩
    · refine ⟨D1.new hL, B1.trans (But.new hL), [], rfl, (fun c h => by cases h), upd_same⟩
    · rintro i H2 hi ⟨D2, B2, l, hl, low, hL2⟩
      refine ⟨rfl, ?_⟩
      dsimp only [tYes]
      rw [if_pos rfl]
      have hLp : L ≠ p := D1.ne hL
      refine ⟨_, rfl, _, rfl, _, rfl, _, rfl, p, _, rfl, D2, by omega, by omega, fun r2 H3 q0 q1 D3 B3 => ?_⟩
      refine ⟨_, _, rfl, rfl, _, _, _, rfl, rfl, (by show 26 ≤ sizeLine; decide), abc_get (z := r + r2) (by omega) (by omega), ?_⟩
      refine ⟨_, B3 _ _ hL2 hLp, ?_, ?_⟩
      · rw [List.length_map]; exact small1000 (by omega)
      · refine ⟨?_, ?_, l ++ [97 + (r + r2).toNat], ?_, ?_, ?_⟩
        · obtain ⟨a, b, c, e, dd⟩ := D3
          exact ⟨a, b, c, by rw [upd_ne hLp.symm]; exact e, dd⟩
        · intro q o e n
          by_cases hq : q = L
          · subst hq
            exact absurd (B1 _ _ e n) (by rw [hL]; intro z; cases z)
          · rw [upd_ne hq]
            exact B3 q o (B2 q o e n) n
        · rw [List.length_append, hl]; rfl
        · intro c hc
          rcases List.mem_append.mp hc with hc | hc
          · exact low c hc
          · have := List.mem_singleton.mp hc
            omega
        · rw [upd_same, List.map_append]; rfl
    · rintro H2 ⟨D2, B2, l, hl, low, hL2⟩
      refine ⟨_, L, l.map (fun c => txt [c]), rfl, rfl, .inl ?_, ?_, ?_⟩
      · rw [List.map_map]; exact SqL.of hL2
      · rw [List.map_map, List.length_map]
        have : ∀ l : List Nat, (l.map ((fun x : Str => x.length) ∘ fun c => txt [c])).sum = l.length := by
          intro l
          induction l with
          | nil => rfl
          | cons a r ih =>
            rw [List.map_cons, List.sum_cons, ih]
            show (txt [a]).length + _ = _
            rw [txt_length]
            show 1 + r.length = r.length + 1
            omega
        rw [this]
        show _ + _ * 0 ≤ _
        omega
      · show Q (.str (Txt.join (txt []) _)) H2
        rw [join_signs]
        exact k l H2 hl low D2 B2
theorem cal_letters (D : Def K mg "_law_letters" sLetters psLetters) (T : Txt mg) (D1 : Def K mg "_law_draw" sDraw psDraw) : Cal P w K mg base CX0 2 "_law_letters" psLetters spLetters := by
  obtain ⟨f1, fd1, F1, m1, b1⟩ := D1
  exact cal_mk D fun f fd F => ok_letters F T F1 b1 m1
end
end W

set_option Elab.async false
set_option linter.all false
set_option maxRecDepth 100000
set_option maxHeartbeats 4000000
namespace W
open PySem L2 WM
abbrev sSign : Stmt := top 8
abbrev psSign : List Str := ["mark"]
theorem scSign : FnScope ["mark"] ["mark"] (defScope sSign) := ⟨rfl, rfl, rfl, by decide +kernel, rfl, by decide +kernel, by decide +kernel⟩
abbrev sWord : Stmt := top 9
abbrev psWord : List Str := ["thing"]
theorem scWord : FnScope ["thing", "mark"] ["thing"] (defScope sWord) := ⟨rfl, rfl, rfl, by decide +kernel, rfl, by decide +kernel, by decide +kernel⟩
section
variable {P : Program} {w : World} {K : PySem.W.Frag} {mg : Str → Option Value} {base : Heap}
theorem ok_sign {f : Addr} {fd : FuncData} (F : Fun K "is_sign" "is_sign" sSign f fd) : FnOk P w K mg base CX0 1 f fd ["mark"] spSign := by
  refine F.ok scSign (fun vs H Q E h => ?_) (fun cdv A outer s H vs Q E hr h => ?_)
  · obtain ⟨c, rfl, _⟩ := h
    rfl
  · obtain ⟨c, rfl, k⟩ := h
    refine ⟨_, (@pss_one _ _ _ (@ps_ret _ _ _ _ (@pe_chain _ _ _ _ _ _ _ _ _ _ _ _ op_le_str op_le_str (@pe_str _ _ _ _) (@pv _ 0 _ _ (by rfl) (by first | exact Or.inl rfl | exact Or.inr (Or.inl rfl) | exact Or.inr (Or.inr rfl)) (by decide) (by decide)) (@pe_str _ _ _ _) (by with_unfolding_all rfl)))), ?_⟩
    refine ⟨_, rfl, _, _, rfl, rfl, _, rfl, ?_⟩
    have e1 : (!decide ((txt [c]).cps.toList < ("a" : Str).cps.toList)) = decide (97 ≤ c) := by
      show (!decide ([c] < [97])) = _
      rw [decide_eq_decide.mpr (Iff.of_eq (lt1 c 97))]
      by_cases h : c < 97
      · rw [decide_eq_true h, decide_eq_false (by omega)]; rfl
      · rw [decide_eq_false h, decide_eq_true (by omega)]; rfl
    have e2 : (!decide (("z" : Str).cps.toList < (txt [c]).cps.toList)) = decide (c ≤ 122) := by
      show (!decide ([122] < [c])) = _
      rw [decide_eq_decide.mpr (Iff.of_eq (lt1 122 c))]
      by_cases h : 122 < c
      · rw [decide_eq_true h, decide_eq_false (by omega)]; rfl
      · rw [decide_eq_false h, decide_eq_true (by omega)]; rfl
    rw [e1]
    unfold okC at k
    by_cases h : 97 ≤ c
    · rw [decide_eq_true h] at k ⊢
      refine iteT ⟨_, _, rfl, rfl, ?_⟩
      rw [e2]
      exact k
    · rw [decide_eq_false h] at k ⊢
      exact iteF k
theorem ok_word {f f1 : Addr} {fd fd1 : FuncData} (F : Fun K "is_word" "is_word" sWord f fd) (T : Txt mg) (gS : GInt mg "MOST_SIGNS" 80) (F1 : Fun K "is_sign" "is_sign" sSign f1 fd1) (b1 : Binds K fd1 ["mark"] []) (m1 : mg "is_sign" = some (.ref f1)) :
    FnOk P w K mg base CX0 2 f fd ["thing"] (spWord K) := by
  refine F.ok scWord (fun vs H Q E h => ?_) (fun cdv A outer s H vs Q E hr h => ?_)
  · rcases h with ⟨c, rfl, _⟩ | ⟨v, rfl, _⟩ <;> rfl
  · have G1 : FnOk P w K mg base CX0 1 f1 fd1 ["mark"] spSign := ok_sign F1
    refine ⟨_, (@pss_cons _ _ _ _ _ (@ps_if _ _ _ _ _ _ _ _ (@PW.pt _ _ _ (@pw_or _ _ _ _ _ _ _ (@pt_not _ _ _ _ (@pt_val _ _ _ (@pe_callB _ _ _ _ _ _ _ _ _ cr_isi (by rfl) T.isi (by decide +kernel) (@pa_cons _ _ _ _ _ (@pv _ 0 _ _ (by rfl) (by first | exact Or.inl rfl | exact Or.inr (Or.inl rfl) | exact Or.inr (Or.inr rfl)) (by decide) (by decide)) (@pa_cons _ _ _ _ _ (@pe_bltn _ _ (.ty "str") _ _ (by rfl) T.str (by decide +kernel) rfl (by decide) (by decide)) (@pa_nil _) (by rfl)) (by rfl)) (by decide) (by decide) (by rfl) (by rfl)) (by intro _ ; rfl))) (@pw_or1 _ _ _ _ (@pt_cmpR _ _ _ _ _ _ _ _ op_gt (@pe_callB _ _ _ _ _ _ _ _ _ call_len_str (by rfl) T.len PySem.boot_len (@pa_cons _ _ _ _ _ (@pv _ 0 _ _ (by rfl) (by first | exact Or.inl rfl | exact Or.inr (Or.inl rfl) | exact Or.inr (Or.inr rfl)) (by decide) (by decide)) (@pa_nil _) (by rfl)) (by decide) (by decide) (by rfl) (by rfl)) (pe_gint (by rfl) gS) (nomark _))))) (@pss_one _ _ _ (@ps_ret _ _ _ _ (@pe_bl _ _ _ _))) (@pss_nil _)) (@pss_one _ _ _ (@ps_ret _ _ _ _ (@pe_callB _ _ _ _ _ _ _ _ _ (cr_all rfl) (by rfl) T.all (by decide +kernel) (@pa_cons _ _ _ _ _ (@pe_lc _ _ _ _ _ _ [("mark", 1)] _ _ (gName 1) _ _ (by rfl) scWord.nd (@pi_str _ _ _ _ (@pv _ 0 _ _ (by rfl) (by first | exact Or.inl rfl | exact Or.inr (Or.inl rfl) | exact Or.inr (Or.inr rfl)) (by decide) (by decide))) (blkOk_by (own := [("mark", 1)]) (N := ["thing", "mark"]) (sc := defScope sWord) (by decide +kernel)) (fun _ _ _ _ _ => (@pg_name _ _ 1 _ scWord.nd rfl (Or.inl rfl) (by first | exact .inl rfl | exact .inr rfl | assumption))) (fun _ _ _ _ _ => (@pts_nil _)) (fun _ _ _ _ _ => (@pe_call _ _ _ _ _ _ _ _ _ _ _ _ _ _ _ _ G1 hr (by rfl) m1 F1.kp b1 .nil pass0 (@pa_cons _ _ _ _ _ (@pv _ 1 _ _ (by rfl) (by first | exact Or.inl rfl | exact Or.inr (Or.inl rfl) | exact Or.inr (Or.inr rfl)) (by decide) (by decide)) (@pa_nil _) (by rfl)) (by decide) (by rfl) (by rfl))) (by intro _ ; rfl)) (@pa_nil _) (by rfl)) (by decide) (by decide) (by rfl) (by rfl))))), ?_⟩
    rcases h with ⟨l, rfl, hl, k⟩ | ⟨v, rfl, ⟨t, ty, kt⟩, k⟩
    rotate_left
    · refine ⟨_, rfl, _, _, _, _, _, rfl, ty, rfl, kt, _, rfl, ?_⟩
      exact iteT (iteT k)
    refine ⟨_, rfl, _, _, _, _, _, rfl, TyOf.str _, rfl, rfl, _, rfl, ?_⟩
    refine iteF ⟨_, rfl, _, rfl, (by rw [txt_length]; exact Nat.le_of_lt (small1000 hl)), _, _, rfl, rfl, _, rfl, ?_⟩
    rw [txt_length]
    by_cases h80 : l.length ≤ 80
    · rw [decide_eq_false (by omega)]
      refine iteF ?_
      refine ⟨_, rfl, _, rfl, fun D hD => lc_str (fun i H1 => Same H H1 ∧ i ≤ l.length ∧ H1 D = some (.lst ((l.take i).map fun c => V.bl (okC c)))) ?_ ?_ ?_⟩
      · exact ⟨fun b o e => by rw [upd_ne (ne_of_none e hD)]; exact e, Nat.zero_le _, upd_same⟩
      · rintro i c H1 hc ⟨s1, hi, hL⟩
        have hc' : l[i]? = some c := by simpa [txt] using hc
        refine ⟨rfl, ?_⟩
        dsimp only [tYes]
        rw [if_pos rfl]
        refine ⟨_, rfl, c, rfl, _, hL, ?_, ?_⟩
        · rw [List.length_map, List.length_take]; exact small1000 (by omega)
        · have hlt := (List.getElem?_eq_some_iff.mp hc').1
          refine ⟨fun b o e => ?_, hlt, ?_⟩
          · rw [upd_ne (ne_of_none e hD)]; exact s1 b o e
          · rw [upd_same, List.take_succ, hc']
            simp
      · rintro H1 ⟨s1, hi, hL⟩
        have e : (txt l).cps.size = l.length := by show l.toArray.size = _; simp
        rw [e, List.take_length] at hL
        refine ⟨D, l.map okC, rfl, ?_, ?_⟩
        · rw [List.map_map]; exact SqL.of hL
        · have : isW l = (l.map okC).all id := by
            unfold isW
            rw [decide_eq_true h80, List.all_map]; rfl
          rw [← this]
          exact k H1 s1
    · rw [decide_eq_true (by omega)]
      refine iteT ?_
      have : isW l = false := by unfold isW; rw [decide_eq_false h80]; rfl
      rw [this] at k
      exact k H (Same.refl H)
theorem cal_word (D : Def K mg "is_word" sWord psWord) (T : Txt mg) (gS : GInt mg "MOST_SIGNS" 80) (D1 : Def K mg "is_sign" sSign psSign) : Cal P w K mg base CX0 2 "is_word" psWord (spWord K) := by
  obtain ⟨f1, fd1, F1, m1, b1⟩ := D1
  exact cal_mk D fun f fd F => ok_word F T gS F1 b1 m1
end
end W

set_option Elab.async false
set_option linter.all false
set_option maxRecDepth 100000
set_option maxHeartbeats 4000000
namespace W
open PySem L2 WM
abbrev sWheel : Stmt := top 13
abbrev psWheel : List Str := ["thing"]
theorem scWheel : FnScope ["thing"] ["thing"] (defScope sWheel) := ⟨rfl, rfl, rfl, by decide +kernel, rfl, by decide +kernel, by decide +kernel⟩
abbrev sNeed : Stmt := top 14
abbrev psNeed : List Str := ["wheel"]
theorem scNeed : FnScope ["wheel"] ["wheel"] (defScope sNeed) := ⟨rfl, rfl, rfl, by decide +kernel, rfl, by decide +kernel, by decide +kernel⟩
section
variable {P : Program} {w : World} {K : PySem.W.Frag} {mg : Str → Option Value} {base : Heap}
theorem ok_wheel {f f1 : Addr} {fd fd1 : FuncData} (F : Fun K "is_wheel" "is_wheel" sWheel f fd) (T : Txt mg) (gP : GInt mg "MOST_PLACES" 30) (G1 : FnOk P w K mg base CX0 2 f1 fd1 ["thing"] (spWord K)) (k1 : PySem.W.keepIn K (.ref f1) = true) (b1 : Binds K fd1 ["thing"] []) (m1 : mg "is_word" = some (.ref f1)) :
    FnOk P w K mg base CX0 3 f fd ["thing"] (spWheel K) := by
  refine F.ok scWheel (fun vs H Q E h => ?_) (fun cdv A outer s H vs Q E hr h => ?_)
  · rcases h with ⟨c, rfl, _⟩ | ⟨v, rfl, _⟩ <;> rfl
  · refine ⟨_, (@pss_one _ _ _ (@ps_ret _ _ _ _ (@pe_and _ _ _ _ _ _ _ (@pe_call _ _ _ _ _ _ _ _ _ _ _ _ _ _ _ _ G1 hr (by rfl) m1 k1 b1 .nil pass0 (@pa_cons _ _ _ _ _ (@pv _ 0 _ _ (by rfl) (by first | exact Or.inl rfl | exact Or.inr (Or.inl rfl) | exact Or.inr (Or.inr rfl)) (by decide) (by decide)) (@pa_nil _) (by rfl)) (by decide) (by rfl) (by rfl)) (@pe_one _ _ _ _ _ (@pe_chain _ _ _ _ _ _ _ _ _ _ _ _ op_le op_le (@pe_int _ _ _ _) (@pe_callB _ _ _ _ _ _ _ _ _ call_len_str (by rfl) T.len PySem.boot_len (@pa_cons _ _ _ _ _ (@pv _ 0 _ _ (by rfl) (by first | exact Or.inl rfl | exact Or.inr (Or.inl rfl) | exact Or.inr (Or.inr rfl)) (by decide) (by decide)) (@pa_nil _) (by rfl)) (by decide) (by decide) (by rfl) (by rfl)) (pe_gint (by rfl) gP) (by with_unfolding_all rfl)))))), ?_⟩
    rcases h with ⟨l, rfl, hl, k⟩ | ⟨v, rfl, hv, k⟩
    rotate_left
    · exact ⟨_, rfl, .inr ⟨v, rfl, hv, false, rfl, iteF k⟩⟩
    refine ⟨_, rfl, .inl ⟨l, rfl, hl, fun H1 s1 => ⟨_, rfl, ?_⟩⟩⟩
    unfold isWh at k
    cases e : isW l with
    | false =>
      rw [e] at k
      exact iteF (k H1 s1)
    | true =>
      rw [e] at k
      refine iteT ?_
      refine ⟨_, rfl, _, rfl, (by rw [txt_length]; exact Nat.le_of_lt (small1000 hl)), _, _, rfl, rfl, _, rfl, ?_⟩
      rw [txt_length]
      have e1 : decide ((1 : Int) ≤ ((l.length : Nat) : Int)) = decide (1 ≤ l.length) := decide_eq_decide.mpr ⟨fun h => by omega, fun h => by omega⟩
      have e2 : decide (((l.length : Nat) : Int) ≤ 30) = decide (l.length ≤ 30) := decide_eq_decide.mpr ⟨fun h => by omega, fun h => by omega⟩
      rw [e1]
      cases e3 : decide (1 ≤ l.length) with
      | false =>
        rw [e3] at k
        exact iteF (k H1 s1)
      | true =>
        rw [e3] at k
        refine iteT ⟨_, _, rfl, rfl, ?_⟩
        show Q (.bl (decide (((l.length : Nat) : Int) ≤ 30))) H1
        rw [e2]
        exact k H1 s1
def spNeed (C : Addr) : Sp := fun vs H Q E => ∃ l : List Nat, vs = [.str (txt l)] ∧ l.length ≤ 1000 ∧ (isWh l = true → ∀ H', Same H H' → Q .non H') ∧ (isWh l = false → ∀ H', Same H H' → E (.ref C) none H')
theorem ok_need {f f1 C : Addr} {fd fd1 : FuncData} (F : Fun K "need_wheel" "need_wheel" sNeed f fd) (T : Txt mg) (G1 : FnOk P w K mg base CX0 3 f1 fd1 ["thing"] (spWheel K)) (k1 : PySem.W.keepIn K (.ref f1) = true) (b1 : Binds K fd1 ["thing"] []) (m1 : mg "is_wheel" = some (.ref f1))
    (mC : mg "NoWheel" = some (.ref C)) (xC : PySem.W.excIn K C bmVE "ValueError.__new__" = true) :
    FnOk P w K mg base (CX1 P w) 4 f fd ["wheel"] (spNeed C) := by
  refine F.okX scNeed (fun vs H Q E h => ?_) (fun cdv A outer s H vs Q E hr h => ?_)
  · obtain ⟨c, rfl, _⟩ := h
    rfl
  · obtain ⟨l, rfl, hl, kt, kf⟩ := h
    refine ⟨_, (@pss_one _ _ _ (@ps_if _ _ _ _ _ _ _ _ (@pt_not _ _ _ _ (@pt_val _ _ _ (@pe_call _ _ _ _ _ _ _ _ _ _ _ _ _ _ _ _ G1 hr (by rfl) m1 k1 b1 .nil pass0 (@pa_cons _ _ _ _ _ (@pv _ 0 _ _ (by rfl) (by first | exact Or.inl rfl | exact Or.inr (Or.inl rfl) | exact Or.inr (Or.inr rfl)) (by decide) (by decide)) (@pa_nil _) (by rfl)) (by decide) (by rfl) (by rfl)) (by intro _ ; rfl))) (@pss_one _ _ _ (@ps_raise _ E _ _ _ _ _ _ _ C up_of rfl (by rfl) mC xC (@pa_cons _ _ _ _ _ (@pe_str _ _ _ _) (@pa_nil _) (by rfl)) (by decide) (by rfl) (by rfl))) (@pss_nil _))), ?_⟩
    refine ⟨_, rfl, .inl ⟨l, rfl, hl, fun H1 s1 => ⟨_, rfl, ?_⟩⟩⟩
    cases e : isWh l with
    | true => exact iteF (kt e H1 s1)
    | false =>
      refine iteT ?_
      exact ⟨by show 1 ≤ sizeLine; decide, kf e H1 s1⟩
theorem cal_wheel (D : Def K mg "is_wheel" sWheel psWheel) (T : Txt mg) (gP : GInt mg "MOST_PLACES" 30) (C1 : Cal P w K mg base CX0 2 "is_word" ["thing"] (spWord K)) : Cal P w K mg base CX0 3 "is_wheel" psWheel (spWheel K) := by
  obtain ⟨f1, fd1, G1, k1, b1, m1⟩ := C1
  exact cal_mk D fun f fd F => ok_wheel F T gP G1 k1 b1 m1
theorem cal_need {C : Addr} (D : Def K mg "need_wheel" sNeed psNeed) (T : Txt mg) (C1 : Cal P w K mg base CX0 3 "is_wheel" ["thing"] (spWheel K)) (mC : mg "NoWheel" = some (.ref C)) (xC : PySem.W.excIn K C bmVE "ValueError.__new__" = true) : Cal P w K mg base (CX1 P w) 4 "need_wheel" psNeed (spNeed C) := by
  obtain ⟨f1, fd1, G1, k1, b1, m1⟩ := C1
  exact cal_mk D fun f fd F => ok_need F T G1 k1 b1 m1 mC xC
end
end W

set_option Elab.async false
set_option linter.all false
set_option maxRecDepth 100000
set_option maxHeartbeats 4000000
namespace W
open PySem L2 WM

abbrev sNWord : Stmt := top 10
abbrev psNWord : List Str := ["word"]
theorem scNWord : FnScope ["word"] ["word"] (defScope sNWord) := ⟨rfl, rfl, rfl, by decide +kernel, rfl, by decide +kernel, by decide +kernel⟩
theorem lNWord_0 : Loc (defScope sNWord) "word" := Or.inl (by decide +kernel)
theorem vNWord_0 : Vis (defScope sNWord) "word" := Or.inl (by decide +kernel)
section
variable {P : Program} {w : World} {K : PySem.W.Frag} {mg : Str → Option Value} {base : Heap}
def spNWord (C : Addr) : Sp := fun vs H Q E => ∃ l : List Nat, vs = [.str (txt l)] ∧ l.length ≤ 1000 ∧ (isW l = true → ∀ H', Same H H' → Q .non H') ∧ (isW l = false → ∀ H', Same H H' → E (.ref C) none H')
theorem cal_nword {CNoWord : Addr} (D : Def K mg "need_word" sNWord psNWord) (T : Txt mg) (CWd : Cal P w K mg base CX0 2 "is_word" ["thing"] (spWord K)) (nNoWord : mg "NoWord" = some (.ref CNoWord)) (xNoWord : PySem.W.excIn K CNoWord bmVE "ValueError.__new__" = true) :
    Cal P w K mg base (CX1 P w) 3 "need_word" psNWord (spNWord CNoWord) := cal_mk D fun f fd F => by
  obtain ⟨fWd, dWd, GWd, kWd, bWd, mWd⟩ := CWd
  refine F.okX scNWord (fun vs H Q E h => ?_) (fun cdv A outer s H vs Q E hr h => ?_)
  · obtain ⟨c, rfl, _⟩ := h
    rfl
  · obtain ⟨l, rfl, hl, kt, kf⟩ := h
    refine ⟨_, (@pss_one _ _ _ (@ps_if _ _ _ _ _ _ _ _ (@pt_not _ _ _ _ (@pt_val _ _ _ (@pe_call _ _ _ _ _ _ _ _ _ _ _ _ _ _ _ _ GWd (hr.mono (by decide)) (by rfl) mWd kWd bWd .nil pass0 (@pa_cN _ _ _ _ _ _ (@pv _ 0 _ _ (by rfl) vNWord_0 (by decide) (by decide)) (@pa_nil _)) (by decide) (by rfl) (by rfl)) (by intro _ ; rfl))) (@pss_one _ _ _ (@ps_raise _ E _ _ _ _ _ _ _ CNoWord up_of rfl (by rfl) nNoWord xNoWord (@pa_cC _ _ _ _ _ _ _ (@pe_str _ _ _ _) (@pa_nil _)) (by decide) (by rfl) (by rfl))) (@pss_nil _))), ?_⟩
    refine ⟨_, rfl, .inl ⟨l, rfl, hl, fun H1 s1 => ⟨_, rfl, ?_⟩⟩⟩
    cases e : isW l with
    | true => exact iteF (kt e H1 s1)
    | false => exact iteT ⟨by show 1 ≤ sizeLine; decide, kf e H1 s1⟩
end
end W

set_option Elab.async false
set_option linter.all false
set_option maxRecDepth 100000
set_option maxHeartbeats 4000000
namespace W
open PySem L2 WM

abbrev sWhole : Stmt := top 18
abbrev psWhole : List Str := ["thing"]
theorem scWhole : FnScope ["thing"] ["thing"] (defScope sWhole) := ⟨rfl, rfl, rfl, by decide +kernel, rfl, by decide +kernel, by decide +kernel⟩
theorem lWhole_0 : Loc (defScope sWhole) "thing" := Or.inl (by decide +kernel)
theorem vWhole_0 : Vis (defScope sWhole) "thing" := Or.inl (by decide +kernel)
abbrev sSlack : Stmt := top 19
abbrev psSlack : List Str := ["slack"]
theorem scSlack : FnScope ["slack"] ["slack"] (defScope sSlack) := ⟨rfl, rfl, rfl, by decide +kernel, rfl, by decide +kernel, by decide +kernel⟩
theorem lSlack_0 : Loc (defScope sSlack) "slack" := Or.inl (by decide +kernel)
theorem vSlack_0 : Vis (defScope sSlack) "slack" := Or.inl (by decide +kernel)
abbrev sWay : Stmt := top 20
abbrev psWay : List Str := ["way", "turn"]
theorem scWay : FnScope ["way", "turn"] ["way", "turn"] (defScope sWay) := ⟨rfl, rfl, rfl, by decide +kernel, rfl, by decide +kernel, by decide +kernel⟩
theorem lWay_0 : Loc (defScope sWay) "way" := Or.inl (by decide +kernel)
theorem vWay_0 : Vis (defScope sWay) "way" := Or.inl (by decide +kernel)
theorem lWay_1 : Loc (defScope sWay) "turn" := Or.inl (by decide +kernel)
theorem vWay_1 : Vis (defScope sWay) "turn" := Or.inl (by decide +kernel)
abbrev sTCost : Stmt := top 21
abbrev psTCost : List Str := ["way", "turn", "slack"]
theorem scTCost : FnScope ["way", "turn", "slack"] ["way", "turn", "slack"] (defScope sTCost) := ⟨rfl, rfl, rfl, by decide +kernel, rfl, by decide +kernel, by decide +kernel⟩
theorem lTCost_0 : Loc (defScope sTCost) "way" := Or.inl (by decide +kernel)
theorem vTCost_0 : Vis (defScope sTCost) "way" := Or.inl (by decide +kernel)
theorem lTCost_1 : Loc (defScope sTCost) "turn" := Or.inl (by decide +kernel)
theorem vTCost_1 : Vis (defScope sTCost) "turn" := Or.inl (by decide +kernel)
theorem lTCost_2 : Loc (defScope sTCost) "slack" := Or.inl (by decide +kernel)
theorem vTCost_2 : Vis (defScope sTCost) "slack" := Or.inl (by decide +kernel)
section
variable {P : Program} {w : World} {K : PySem.W.Frag} {mg : Str → Option Value} {base : Heap}
theorem kii : PySem.W.kitOne K (.type "int") (.type "int") = some true := rfl
theorem kib : PySem.W.kitOne K (.type "int") (.type "bool") = some false := rfl
def spWhole : Sp := fun vs H Q _ => ∃ n : Int, vs = [.int n] ∧ Q (.bl true) H
theorem cal_whole (D : Def K mg "is_whole" sWhole psWhole) (T : Txt mg) : Cal P w K mg base CX0 1 "is_whole" psWhole spWhole := cal_mk D fun f fd F => by
  refine F.ok scWhole (fun vs H Q E h => ?_) (fun cdv A outer s H vs Q E hr h => ?_)
  · obtain ⟨n, rfl, _⟩ := h
    rfl
  · obtain ⟨n, rfl, k⟩ := h
    refine ⟨_, (@pss_one _ _ _ (@ps_ret _ _ _ _ (@pe_and _ _ _ _ _ _ _ (@pe_callB _ _ _ _ _ _ _ _ _ cr_isi (by rfl) T.isi boot_isi (@pa_cN _ _ _ _ _ _ (@pv _ 0 _ _ (by rfl) vWhole_0 (by decide) (by decide)) (@pa_cN _ _ _ _ _ _ (@pe_bltn _ _ (.ty "int") _ _ (by rfl) T.int (by decide +kernel) rfl (by decide) (by decide)) (@pa_nil _))) (by decide) (by decide) (by rfl) (by rfl)) (@pe_one _ _ _ _ _ (@pe_not _ _ _ _ (@pe_callB _ _ _ _ _ _ _ _ _ cr_isi (by rfl) T.isi boot_isi (@pa_cN _ _ _ _ _ _ (@pv _ 0 _ _ (by rfl) vWhole_0 (by decide) (by decide)) (@pa_cN _ _ _ _ _ _ (@pe_bltn _ _ (.ty "bool") _ _ (by rfl) T.bool (by decide +kernel) rfl (by decide) (by decide)) (@pa_nil _))) (by decide) (by decide) (by rfl) (by rfl))))))), ?_⟩
    refine ⟨_, rfl, _, _, _, _, _, rfl, TyOf.int _, rfl, kii, _, rfl, iteT ?_⟩
    refine ⟨_, rfl, _, _, _, _, _, rfl, TyOf.int _, rfl, kib, _, rfl, ?_⟩
    exact k
def spSlack (C : Addr) : Sp := fun vs H Q E => ∃ n : Int, vs = [.int n] ∧ (okS n = true → Q .non H) ∧ (okS n = false → E (.ref C) none H)
theorem cal_slack {CNoSlack : Addr} (D : Def K mg "need_slack" sSlack psSlack) (T : Txt mg) (g_MOST_SLACK : GInt mg "MOST_SLACK" 9) (CWo : Cal P w K mg base CX0 1 "is_whole" ["thing"] spWhole) (nNoSlack : mg "NoSlack" = some (.ref CNoSlack)) (xNoSlack : PySem.W.excIn K CNoSlack bmVE "ValueError.__new__" = true) :
    Cal P w K mg base (CX1 P w) 2 "need_slack" psSlack (spSlack CNoSlack) := cal_mk D fun f fd F => by
  obtain ⟨fWo, dWo, GWo, kWo, bWo, mWo⟩ := CWo
  refine F.okX scSlack (fun vs H Q E h => ?_) (fun cdv A outer s H vs Q E hr h => ?_)
  · obtain ⟨n, rfl, _⟩ := h
    rfl
  · obtain ⟨n, rfl, kt, kf⟩ := h
    refine ⟨_, (@pss_one _ _ _ (@ps_if _ _ _ _ _ _ _ _ (@PW.pt _ _ _ (@pw_or _ _ _ _ _ _ _ (@pt_not _ _ _ _ (@pt_val _ _ _ (@pe_call _ _ _ _ _ _ _ _ _ _ _ _ _ _ _ _ GWo (hr.mono (by decide)) (by rfl) mWo kWo bWo .nil pass0 (@pa_cN _ _ _ _ _ _ (@pv _ 0 _ _ (by rfl) vSlack_0 (by decide) (by decide)) (@pa_nil _)) (by decide) (by rfl) (by rfl)) (by intro _ ; rfl))) (@pw_or1 _ _ _ _ (@pt_not _ _ _ _ (@pt_chain _ _ _ _ _ _ _ _ _ _ _ _ op_le op_le (@pe_int _ _ _ _) (@pv _ 0 _ _ (by rfl) vSlack_0 (by decide) (by decide)) (pe_gint (by rfl) g_MOST_SLACK) (by with_unfolding_all rfl)))))) (@pss_one _ _ _ (@ps_raise _ E _ _ _ _ _ _ _ CNoSlack up_of rfl (by rfl) nNoSlack xNoSlack (@pa_cC _ _ _ _ _ _ _ (@pe_str _ _ _ _) (@pa_nil _)) (by decide) (by rfl) (by rfl))) (@pss_nil _))), ?_⟩
    refine ⟨_, rfl, n, rfl, _, rfl, iteF ?_⟩
    refine ⟨_, rfl, _, _, rfl, rfl, _, rfl, ?_⟩
    unfold okS at kt kf
    have hz : (1 : Nat) ≤ sizeLine := by decide
    by_cases h0 : 0 ≤ n
    · rw [decide_eq_true h0] at kt kf ⊢
      refine iteT ⟨_, _, rfl, rfl, _, rfl, ?_⟩
      by_cases h9 : n ≤ 9
      · rw [decide_eq_true h9] at kt kf ⊢
        exact iteF (kt rfl)
      · rw [decide_eq_false h9] at kt kf ⊢
        exact iteT ⟨hz, kf rfl⟩
    · rw [decide_eq_false h0] at kt kf ⊢
      exact iteF ⟨_, rfl, iteT ⟨hz, kf rfl⟩⟩
def spWay : Sp := fun vs H Q _ => ∃ x t : Int, vs = [.int x, .int t] ∧ Q (.int (wb x t)) H
theorem cal_way (D : Def K mg "way_behind" sWay psWay) (T : Txt mg) : Cal P w K mg base CX0 1 "way_behind" psWay spWay := cal_mk D fun f fd F => by
  refine F.ok scWay (fun vs H Q E h => ?_) (fun cdv A outer s H vs Q E hr h => ?_)
  · obtain ⟨x, t, rfl, _⟩ := h
    rfl
  · obtain ⟨x, t, rfl, k⟩ := h
    refine ⟨_, (@pss_cons _ _ _ _ _ (@ps_if _ _ _ _ _ _ _ _ (@pt_cmpR _ _ _ _ _ _ _ _ op_gt (@pv _ 1 _ _ (by rfl) vWay_1 (by decide) (by decide)) (@pe_int _ _ _ _) (nomark _)) (@pss_one _ _ _ (@ps_ret _ _ _ _ (@pe_int _ _ _ _))) (@pss_nil _)) (@pss_cons _ _ _ _ _ (@ps_if _ _ _ _ _ _ _ _ (@pt_cmpR _ _ _ _ _ _ _ _ op_lt (@pv _ 1 _ _ (by rfl) vWay_1 (by decide) (by decide)) (@pe_int _ _ _ _) (nomark _)) (@pss_one _ _ _ (@ps_ret _ _ _ _ (@pe_un _ _ _ _ _ _ un_neg (@pe_int _ _ _ _)))) (@pss_nil _)) (@pss_one _ _ _ (@ps_ret _ _ _ _ (@pv _ 0 _ _ (by rfl) vWay_0 (by decide) (by decide)))))), ?_⟩
    refine ⟨_, rfl, _, _, rfl, rfl, _, rfl, ?_⟩
    unfold wb at k
    by_cases h0 : 0 < t
    · rw [decide_eq_true h0]
      rw [if_pos h0] at k
      exact iteT k
    · rw [decide_eq_false h0]
      rw [if_neg h0] at k
      refine iteF ⟨_, rfl, _, _, rfl, rfl, _, rfl, ?_⟩
      by_cases h1 : t < 0
      · rw [decide_eq_true h1]
        rw [if_pos h1] at k
        exact iteT ⟨_, rfl, k⟩
      · rw [decide_eq_false h1]
        rw [if_neg h1] at k
        exact iteF ⟨_, rfl, k⟩
def spTCost : Sp := fun vs H Q _ => ∃ x t s : Int, vs = [.int x, .int t, .int s] ∧ -1 ≤ x ∧ x ≤ 1 ∧ Q (.int (tc x t s)) H
theorem cal_tcost (D : Def K mg "turn_cost" sTCost psTCost) (T : Txt mg) : Cal P w K mg base CX0 1 "turn_cost" psTCost spTCost := cal_mk D fun f fd F => by
  refine F.ok scTCost (fun vs H Q E h => ?_) (fun cdv A outer s H vs Q E hr h => ?_)
  · obtain ⟨x, t, s, rfl, _⟩ := h
    rfl
  · obtain ⟨x, t, sl, rfl, x0, x1, k⟩ := h
    refine ⟨_, (@pss_cons _ _ _ _ _ (@ps_if _ _ _ _ _ _ _ _ (@pt_cmpR _ _ _ _ _ _ _ _ op_lt (@pe_op _ _ _ _ _ _ _ _ op_mul (@pv _ 1 _ _ (by rfl) vTCost_1 (by decide) (by decide)) (@pv _ 0 _ _ (by rfl) vTCost_0 (by decide) (by decide))) (@pe_int _ _ _ _) (nomark _)) (@pss_one _ _ _ (@ps_ret _ _ _ _ (@pe_op _ _ _ _ _ _ _ _ op_add (@pe_callB _ _ _ _ _ _ _ _ _ call_abs (by rfl) T.abs (by decide +kernel) (@pa_cN _ _ _ _ _ _ (@pv _ 1 _ _ (by rfl) vTCost_1 (by decide) (by decide)) (@pa_nil _)) (by decide) (by decide) (by rfl) (by rfl)) (@pv _ 2 _ _ (by rfl) vTCost_2 (by decide) (by decide))))) (@pss_nil _)) (@pss_one _ _ _ (@ps_ret _ _ _ _ (@pe_callB _ _ _ _ _ _ _ _ _ call_abs (by rfl) T.abs (by decide +kernel) (@pa_cN _ _ _ _ _ _ (@pv _ 1 _ _ (by rfl) vTCost_1 (by decide) (by decide)) (@pa_nil _)) (by decide) (by decide) (by rfl) (by rfl))))), ?_⟩
    refine ⟨_, rfl, _, rfl, _, _, rfl, rfl, .inr ⟨by omega, by omega⟩, _, _, rfl, rfl, _, rfl, ?_⟩
    unfold tc at k
    by_cases h0 : t * x < 0
    · rw [decide_eq_true h0]
      rw [if_pos h0] at k
      exact iteT ⟨_, rfl, _, rfl, _, rfl, _, _, rfl, rfl, k⟩
    · rw [decide_eq_false h0]
      rw [if_neg h0] at k
      exact iteF ⟨_, rfl, _, rfl, k⟩
end
end W

set_option Elab.async false
set_option linter.all false
set_option maxRecDepth 100000
set_option maxHeartbeats 4000000
namespace W
open PySem L2 WM

abbrev sTask : Stmt := top 25
abbrev psTask : List Str := ["wheel", "word", "slack"]
theorem scTask : FnScope ["wheel", "word", "slack", "sign"] ["wheel", "word", "slack"] (defScope sTask) := ⟨rfl, rfl, rfl, by decide +kernel, rfl, by decide +kernel, by decide +kernel⟩
theorem lTask_0 : Loc (defScope sTask) "wheel" := Or.inr (by decide +kernel)
theorem vTask_0 : Vis (defScope sTask) "wheel" := Or.inr (Or.inl (by decide +kernel))
theorem lTask_1 : Loc (defScope sTask) "word" := Or.inl (by decide +kernel)
theorem vTask_1 : Vis (defScope sTask) "word" := Or.inl (by decide +kernel)
theorem lTask_2 : Loc (defScope sTask) "slack" := Or.inl (by decide +kernel)
theorem vTask_2 : Vis (defScope sTask) "slack" := Or.inl (by decide +kernel)
section
variable {P : Program} {w : World} {K : PySem.W.Frag} {mg : Str → Option Value} {base : Heap}
def spTask (C11 C12 C8 C0 : Addr) : Sp := fun vs H Q E => ∃ (l o : List Nat) (s : Int), vs = [.str (txt l), .str (txt o), .int s] ∧ l.length ≤ 1000 ∧ o.length ≤ 1000 ∧
  (tsk l o s = 99 → ∀ H', Same H H' → Q .non H') ∧ (tsk l o s = 11 → ∀ H', Same H H' → E (.ref C11) none H') ∧ (tsk l o s = 12 → ∀ H', Same H H' → E (.ref C12) none H') ∧ (tsk l o s = 8 → ∀ H', Same H H' → E (.ref C8) none H') ∧ (tsk l o s = 0 → ∀ H', Same H H' → E (.ref C0) none H')
theorem cal_task {C11 C12 C8 CLacks : Addr} (D : Def K mg "need_task" sTask psTask) (T : Txt mg) (CNd : Cal P w K mg base (CX1 P w) 4 "need_wheel" ["wheel"] (spNeed C11)) (CNw : Cal P w K mg base (CX1 P w) 3 "need_word" ["word"] (spNWord C12)) (CNs : Cal P w K mg base (CX1 P w) 2 "need_slack" ["slack"] (spSlack C8))
    (nLacks : mg "Lacks" = some (.ref CLacks)) (xLacks : PySem.W.excIn K CLacks bmVE "ValueError.__new__" = true) :
    Cal P w K mg base (CX1 P w) 5 "need_task" psTask (spTask C11 C12 C8 CLacks) := cal_mk D fun f fd F => by
  obtain ⟨fNd, dNd, GNd, kNd, bNd, mNd⟩ := CNd
  obtain ⟨fNw, dNw, GNw, kNw, bNw, mNw⟩ := CNw
  obtain ⟨fNs, dNs, GNs, kNs, bNs, mNs⟩ := CNs
  refine F.okX scTask (fun vs H Q E h => ?_) (fun cdv A outer s H vs Q E hr h => ?_)
  · obtain ⟨l, o, s, rfl, _⟩ := h
    rfl
  · obtain ⟨l, o, sl, rfl, hl, ho, k99, k11, k12, k8, k0⟩ := h
    refine ⟨_, (@pss_cons _ _ _ _ _ (@ps_expr _ _ _ _ (@pe_call _ _ _ _ _ _ _ _ _ _ _ _ _ _ _ _ GNd (hr.mono (by decide)) (by rfl) mNd kNd bNd .nil pass_up (@pa_cN _ _ _ _ _ _ (@pv _ 0 _ _ (by rfl) vTask_0 (by decide) (by decide)) (@pa_nil _)) (by decide) (by rfl) (by rfl)) (by rfl)) (@pss_cons _ _ _ _ _ (@ps_expr _ _ _ _ (@pe_call _ _ _ _ _ _ _ _ _ _ _ _ _ _ _ _ GNw (hr.mono (by decide)) (by rfl) mNw kNw bNw .nil pass_up (@pa_cN _ _ _ _ _ _ (@pv _ 1 _ _ (by rfl) vTask_1 (by decide) (by decide)) (@pa_nil _)) (by decide) (by rfl) (by rfl)) (by rfl)) (@pss_cons _ _ _ _ _ (@ps_expr _ _ _ _ (@pe_call _ _ _ _ _ _ _ _ _ _ _ _ _ _ _ _ GNs (hr.mono (by decide)) (by rfl) mNs kNs bNs .nil pass_up (@pa_cN _ _ _ _ _ _ (@pv _ 2 _ _ (by rfl) vTask_2 (by decide) (by decide)) (@pa_nil _)) (by decide) (by rfl) (by rfl)) (by rfl)) (@pss_one _ _ _ (@ps_if _ _ _ _ _ _ _ _ (@pt_not _ _ _ _ (@pt_val _ _ _ (@pe_callB _ _ _ _ _ _ _ _ _ (cr_all rfl) (by rfl) T.all (by decide +kernel) (@pa_cG _ _ _ _ _ _ _ _ (@pe_lc _ _ _ _ _ _ [("sign", 3)] _ _ (gName 3) _ _ (by rfl) scTask.nd (@pi_str _ _ _ _ (@pv _ 1 _ _ (by rfl) vTask_1 (by decide) (by decide))) (blkOk_by (own := [("sign", 3)]) (N := ["wheel", "word", "slack", "sign"]) (sc := defScope sTask) (by decide +kernel)) (fun _ _ _ _ _ => (@pg_name _ _ 3 _ scTask.nd rfl (Or.inl rfl) (by first | exact .inl rfl | exact .inr rfl | assumption))) (fun _ _ _ _ _ => (@pts_nil _)) (fun _ _ _ _ _ => (@pe_cmpR _ _ _ _ _ _ _ _ op_in_sign (@pv _ 3 _ _ (by rfl) (by first | exact Or.inl rfl | exact Or.inr (Or.inl rfl) | exact Or.inr (Or.inr rfl)) (by decide) (by decide)) (@pv _ 0 _ _ (by rfl) (by first | exact Or.inl rfl | exact Or.inr (Or.inl rfl) | exact Or.inr (Or.inr rfl)) (by decide) (by decide)) rfl)) (by intro _ ; rfl)) (@pa_nil _)) (by decide) (by decide) (by rfl) (by rfl)) (by intro _ ; rfl))) (@pss_one _ _ _ (@ps_raise _ E _ _ _ _ _ _ _ CLacks up_of rfl (by rfl) nLacks xLacks (@pa_cC _ _ _ _ _ _ _ (@pe_str _ _ _ _) (@pa_nil _)) (by decide) (by rfl) (by rfl))) (@pss_nil _)))))), ?_⟩
    unfold tsk at k99 k11 k12 k8 k0
    refine ⟨_, rfl, l, rfl, hl, fun hw H1 s1 => ?_, fun hw H1 s1 => k11 (if_pos hw) H1 s1⟩
    have nw : ¬ isWh l = false := by rw [hw]; decide
    rw [if_neg nw] at k99 k11 k12 k8 k0
    refine ⟨_, rfl, o, rfl, ho, fun hwo H2 s2 => ?_, fun hwo H2 s2 => k12 (if_pos hwo) H2 (s1.trans s2)⟩
    have s12 := s1.trans s2
    have nwo : ¬ isW o = false := by rw [hwo]; decide
    rw [if_neg nwo] at k99 k11 k12 k8 k0
    refine ⟨_, rfl, sl, rfl, fun hs => ?_, fun hs => k8 (if_pos hs) H2 s12⟩
    have ns : ¬ okS sl = false := by rw [hs]; decide
    rw [if_neg ns] at k99 k11 k12 k8 k0
    have hoz : o.length < sizeLine := small1000 ho
    refine ⟨_, rfl, _, rfl, fun D hD => lc_strP (fun _ => true) (fun c => V.bl (decide (c ∈ l))) hD hoz ?_ ?_⟩
    · intro c H' _ s' Qy Qn ky kn
      refine ⟨rfl, ?_⟩
      dsimp only [tYes]
      refine iteT ?_
      exact ⟨_, rfl, _, rfl, c, _, rfl, rfl, ky rfl _ (Same.refl _)⟩
    intro H3 s3 hD3
    rw [List.filter_eq_self.mpr (fun _ _ => rfl)] at hD3
    refine ⟨D, o.map (fun c => decide (c ∈ l)), rfl, (by rw [List.map_map]; exact SqL.of hD3), _, rfl, ?_⟩
    rw [List.all_map]
    have e : (o.all (id ∘ fun c => decide (c ∈ l))) = o.all (fun c => decide (c ∈ l)) := rfl
    rw [e]
    cases ec : o.all (fun c => decide (c ∈ l)) with
    | true =>
      rw [ec] at k99
      exact iteF (k99 rfl H3 (s12.trans s3))
    | false =>
      rw [ec] at k0
      exact iteT ⟨by show 1 ≤ sizeLine; decide, k0 rfl H3 (s12.trans s3)⟩
end
end W

set_option Elab.async false
set_option linter.all false
set_option maxRecDepth 100000
set_option maxHeartbeats 4000000
namespace W
open PySem L2 WM

abbrev sTTo : Stmt := top 26
abbrev psTTo : List Str := ["wheel", "place", "sign"]
theorem scTTo : FnScope ["wheel", "place", "sign", "count", "turn"] ["wheel", "place", "sign"] (defScope sTTo) := ⟨rfl, rfl, rfl, by decide +kernel, rfl, by decide +kernel, by decide +kernel⟩
theorem lTTo_0 : Loc (defScope sTTo) "wheel" := Or.inr (by decide +kernel)
theorem vTTo_0 : Vis (defScope sTTo) "wheel" := Or.inr (Or.inl (by decide +kernel))
theorem lTTo_3 : Loc (defScope sTTo) "count" := Or.inr (by decide +kernel)
theorem vTTo_3 : Vis (defScope sTTo) "count" := Or.inr (Or.inl (by decide +kernel))
abbrev sSBeh : Stmt := top 27
abbrev psSBeh : List Str := ["wheel", "stand", "turn"]
theorem scSBeh : FnScope ["wheel", "stand", "turn", "place", "way"] ["wheel", "stand", "turn"] (defScope sSBeh) := ⟨rfl, rfl, rfl, by decide +kernel, rfl, by decide +kernel, by decide +kernel⟩
theorem lSBeh_0 : Loc (defScope sSBeh) "wheel" := Or.inl (by decide +kernel)
theorem vSBeh_0 : Vis (defScope sSBeh) "wheel" := Or.inl (by decide +kernel)
theorem lSBeh_1 : Loc (defScope sSBeh) "stand" := Or.inl (by decide +kernel)
theorem vSBeh_1 : Vis (defScope sSBeh) "stand" := Or.inl (by decide +kernel)
theorem lSBeh_2 : Loc (defScope sSBeh) "turn" := Or.inl (by decide +kernel)
theorem vSBeh_2 : Vis (defScope sSBeh) "turn" := Or.inl (by decide +kernel)
theorem lSBeh_3 : Loc (defScope sSBeh) "place" := Or.inl (by decide +kernel)
theorem vSBeh_3 : Vis (defScope sSBeh) "place" := Or.inl (by decide +kernel)
theorem lSBeh_4 : Loc (defScope sSBeh) "way" := Or.inl (by decide +kernel)
theorem vSBeh_4 : Vis (defScope sSBeh) "way" := Or.inl (by decide +kernel)
section
variable {P : Program} {w : World} {K : PySem.W.Frag} {mg : Str → Option Value} {base : Heap}
def spTTo : Sp := fun vs H Q _ => ∃ (l : List Nat) (p : Int) (c : Nat), vs = [.str (txt l), .int p, .str (txt [c])] ∧ Wheel l ∧ ∀ D H', Same H H' → H D = none → H' D = some (.lst ((tts l p c).map V.int)) → Q (.ref D) H'
theorem eq_sign (a c : Nat) : decide (V.str ⟨#[a]⟩ = V.str (txt [c])) = decide (a = c) := decide_eq_decide.mpr ⟨fun h => by
  have := txt_inj (l := [a]) (m := [c]) (V.str.inj h)
  injection this, fun h => by rw [h]; rfl⟩
theorem cal_tto (D : Def K mg "turns_to" sTTo psTTo) (T : Txt mg) : Cal P w K mg base CX0 1 "turns_to" psTTo spTTo := cal_mk D fun f fd F => by
  refine F.ok scTTo (fun vs H Q E h => ?_) (fun cdv A outer s H vs Q E hr h => ?_)
  · obtain ⟨l, p, c, rfl, _⟩ := h
    rfl
  · obtain ⟨l, p, c, rfl, hW, k⟩ := h
    have h1 := hW.pos
    have h2 := hW.le
    have hz : (txt l).length ≤ sizeLine := by rw [txt_length]; exact Nat.le_of_lt (small1000 (by omega))
    refine ⟨_, (@pss_cons _ _ _ _ _ (@ps_set _ _ 3 _ _ _ _ scTTo.nd rfl lTTo_3 (@pe_callB _ _ _ _ _ _ _ _ _ call_len_str (by rfl) T.len PySem.boot_len (@pa_cN _ _ _ _ _ _ (@pv _ 0 _ _ (by rfl) vTTo_0 (by decide) (by decide)) (@pa_nil _)) (by decide) (by decide) (by rfl) (by rfl)) (by rfl) (by first | exact .inl rfl | exact .inr rfl | assumption)) (@pss_one _ _ _ (@ps_ret _ _ _ _ (@pe_lc _ _ _ _ _ _ [("turn", 4)] _ _ (gName 4) _ _ (by rfl) scTTo.nd (@pi_range2 _ _ _ _ _ _ _ (by rfl) T.range (@pa_cB _ _ _ _ _ _ _ _ (@pe_op _ _ _ _ _ _ _ _ op_sub (@pe_int _ _ _ _) (@pv _ 3 _ _ (by rfl) vTTo_3 (by decide) (by decide))) (@pa_cN _ _ _ _ _ _ (@pv _ 3 _ _ (by rfl) vTTo_3 (by decide) (by decide)) (@pa_nil _))) (by rfl) (by rfl)) (blkOk_by (own := [("turn", 4)]) (N := ["wheel", "place", "sign", "count", "turn"]) (sc := defScope sTTo) (by decide +kernel)) (fun _ _ _ _ _ => (@pg_name _ _ 4 _ scTTo.nd rfl (Or.inl rfl) (by first | exact .inl rfl | exact .inr rfl | assumption))) (fun _ _ _ _ _ => (@pts_one _ _ _ (@pt_cmpR _ _ _ _ _ _ _ _ op_eq (@pe_ix _ _ _ _ _ _ _ ix_str (@pv _ 0 _ _ (by rfl) (by first | exact Or.inl rfl | exact Or.inr (Or.inl rfl) | exact Or.inr (Or.inr rfl)) (by decide) (by decide)) (@pe_op _ _ _ _ _ _ _ _ op_mod (@pe_op _ _ _ _ _ _ _ _ op_add (@pv _ 1 _ _ (by rfl) (by first | exact Or.inl rfl | exact Or.inr (Or.inl rfl) | exact Or.inr (Or.inr rfl)) (by decide) (by decide)) (@pv _ 4 _ _ (by rfl) (by first | exact Or.inl rfl | exact Or.inr (Or.inl rfl) | exact Or.inr (Or.inr rfl)) (by decide) (by decide))) (@pv _ 3 _ _ (by rfl) (by first | exact Or.inl rfl | exact Or.inr (Or.inl rfl) | exact Or.inr (Or.inr rfl)) (by decide) (by decide))) (fun _ _ => rfl)) (@pv _ 2 _ _ (by rfl) (by first | exact Or.inl rfl | exact Or.inr (Or.inl rfl) | exact Or.inr (Or.inr rfl)) (by decide) (by decide)) (nomark _)))) (fun _ _ _ _ _ => (@pv _ 4 _ _ (by rfl) (by first | exact Or.inl rfl | exact Or.inr (Or.inl rfl) | exact Or.inr (Or.inr rfl)) (by decide) (by decide))) (by intro _ ; rfl))))), ?_⟩
    refine ⟨_, rfl, _, rfl, hz, ?_⟩
    rw [txt_length]
    refine ⟨_, rfl, _, _, rfl, rfl, _, rfl, _, _, rfl, ⟨by omega, by omega, by omega, by omega⟩, fun D hD => ?_⟩
    have eN : ((l.length : Int) - (1 - (l.length : Int))).toNat = 2 * l.length - 1 := by omega
    rw [eN]
    refine lc_rangeP (fun i : Nat => decide (l.getD ((p + (1 - (l.length : Int) + (i : Int))) % (l.length : Int)).toNat 0 = c)) (fun i : Nat => V.int (1 - (l.length : Int) + (i : Int))) hD (small1000 (by omega)) ?_ ?_
    · intro i H' hi s' Qy Qn ky kn
      refine ⟨rfl, ?_⟩
      obtain ⟨q1, q2⟩ := ix_ok (p + (1 - (l.length : Int) + (i : Int))) (show 0 < l.length by omega)
      have hat := at_getD (l := l) (z := (p + (1 - (l.length : Int) + (i : Int))) % (l.length : Int)) (by omega) (by omega)
      refine ⟨_, rfl, _, rfl, _, rfl, _, _, rfl, rfl, _, rfl, _, _, rfl, rfl, (by omega), _, _, _, rfl, rfl, hz, hat, _, rfl, rfl, _, rfl, ?_⟩
      rw [eq_sign]
      cases e : decide (l.getD ((p + (1 - (l.length : Int) + (i : Int))) % (l.length : Int)).toNat 0 = c) with
      | true =>
        rw [e] at ky
        exact iteT ⟨_, rfl, ky rfl _ (Same.refl _)⟩
      | false =>
        rw [e] at kn
        exact iteF (kn rfl _ (Same.refl _))
    · intro H' s' hL
      refine k D H' s' hD ?_
      rw [hL]
      unfold tts
      rw [List.map_map]
      rfl
def spSBeh (K : PySem.W.Frag) : Sp := fun vs H Q _ => ∃ (l : List Nat) (a : Addr) (st : Std) (t : Int), vs = [.str (txt l), .ref a, .int t] ∧ Wheel l ∧ SqT K H a [.int st.1, .int st.2] ∧ ∀ q H', Same H H' → H q = none → H' q = some (.tup [.int ((st.1 + t) % (l.length : Int)), .int (wb st.2 t)]) → Q (.ref q) H'
theorem cal_sbeh (D : Def K mg "stand_behind" sSBeh psSBeh) (T : Txt mg) (CWb : Cal P w K mg base CX0 1 "way_behind" ["way", "turn"] spWay) : Cal P w K mg base CX0 2 "stand_behind" psSBeh (spSBeh K) := cal_mk D fun f fd F => by
  obtain ⟨fWb, dWb, GWb, kWb, bWb, mWb⟩ := CWb
  refine F.ok scSBeh (fun vs H Q E h => ?_) (fun cdv A outer s H vs Q E hr h => ?_)
  · obtain ⟨l, a, st, t, rfl, _⟩ := h
    rfl
  · obtain ⟨l, a, st, t, rfl, hW, hS, k⟩ := h
    have h1 := hW.pos
    have h2 := hW.le
    have hz : (txt l).length ≤ sizeLine := by rw [txt_length]; exact Nat.le_of_lt (small1000 (by omega))
    refine ⟨_, (@pss_cons _ _ _ _ _ (@ps_asg _ _ _ _ _ _ (@pv _ 1 _ _ (by rfl) vSBeh_1 (by decide) (by decide)) (@pg_tup _ _ _ _ _ _ rfl (@pgs_cons _ _ _ _ _ (@pg_name _ _ 3 _ scSBeh.nd rfl lSBeh_3 (by first | exact .inl rfl | exact .inr rfl | assumption)) (@pgs_cons _ _ _ _ _ (@pg_name _ _ 4 _ scSBeh.nd rfl lSBeh_4 (by first | exact .inl rfl | exact .inr rfl | assumption)) (@pgs_nil _) (by rfl)) (by rfl)) (by rfl) (by rfl)) (by rfl) (by rfl) (by rfl)) (@pss_one _ _ _ (@ps_ret _ _ _ _ (@pe_tup _ _ _ _ _ (@pa_cB _ _ _ _ _ _ _ _ (@pe_op _ _ _ _ _ _ _ _ op_mod (@pe_op _ _ _ _ _ _ _ _ op_add (@pv _ 3 _ _ (by rfl) vSBeh_3 (by decide) (by decide)) (@pv _ 2 _ _ (by rfl) vSBeh_2 (by decide) (by decide))) (@pe_callB _ _ _ _ _ _ _ _ _ call_len_str (by rfl) T.len PySem.boot_len (@pa_cN _ _ _ _ _ _ (@pv _ 0 _ _ (by rfl) vSBeh_0 (by decide) (by decide)) (@pa_nil _)) (by decide) (by decide) (by rfl) (by rfl))) (@pa_cK _ _ _ _ _ _ _ _ (@pe_call _ _ _ _ _ _ _ _ _ _ _ _ _ _ _ _ GWb (hr.mono (by decide)) (by rfl) mWb kWb bWb .nil pass0 (@pa_cN _ _ _ _ _ _ (@pv _ 4 _ _ (by rfl) vSBeh_4 (by decide) (by decide)) (@pa_cN _ _ _ _ _ _ (@pv _ 2 _ _ (by rfl) vSBeh_2 (by decide) (by decide)) (@pa_nil _))) (by decide) (by rfl) (by rfl)) (@pa_nil _))))))), ?_⟩
    refine ⟨_, rfl, a, _, rfl, hS, rfl, _, _, rfl, _, _, rfl, rfl, ?_⟩
    refine ⟨_, rfl, _, rfl, _, _, rfl, rfl, _, rfl, _, rfl, hz, _, _, rfl, rfl, (by rw [txt_length]; show (0 : Int) < _; omega), ?_⟩
    rw [txt_length]
    refine ⟨_, rfl, _, rfl, _, _, rfl, (by show 2 ≤ sizeLine; decide), fun q hq => ?_⟩
    exact k q _ (Same.new hq) hq upd_same
end
end W

set_option Elab.async false
set_option linter.all false
set_option maxRecDepth 100000
set_option maxHeartbeats 4000000
namespace W
open PySem L2 WM
abbrev sRTu : Stmt := top 39
abbrev psRTu : List Str := ["wheel", "place", "sign"]
theorem scRTu : FnScope ["wheel", "place", "sign", "many", "turn"] ["wheel", "place", "sign"] (defScope sRTu) := ⟨rfl, rfl, rfl, by decide +kernel, rfl, by decide +kernel, by decide +kernel⟩
theorem lRTu_0 : Loc (defScope sRTu) "wheel" := Or.inr (by decide +kernel)
theorem vRTu_0 : Vis (defScope sRTu) "wheel" := Or.inr (Or.inl (by decide +kernel))
theorem lRTu_3 : Loc (defScope sRTu) "many" := Or.inr (by decide +kernel)
theorem vRTu_3 : Vis (defScope sRTu) "many" := Or.inr (Or.inl (by decide +kernel))
section
variable {P : Program} {w : World} {K : PySem.W.Frag} {mg : Str → Option Value} {base : Heap}
theorem cal_rtu (D : Def K mg "_law_reach_turns" sRTu psRTu) (T : Txt mg) : Cal P w K mg base CX0 1 "_law_reach_turns" psRTu spTTo := cal_mk D fun f fd F => by
  refine F.ok scRTu (fun vs H Q E h => ?_) (fun cdv A outer s H vs Q E hr h => ?_)
  · obtain ⟨l, p, c, rfl, _⟩ := h
    rfl
  · obtain ⟨l, p, c, rfl, hW, k⟩ := h
    have h1 := hW.pos
    have h2 := hW.le
    have hz : (txt l).length ≤ sizeLine := by rw [txt_length]; exact Nat.le_of_lt (small1000 (by omega))
    refine ⟨_, (@pss_cons _ _ _ _ _ (@ps_set _ _ 3 _ _ _ _ scRTu.nd rfl lRTu_3 (@pe_callB _ _ _ _ _ _ _ _ _ call_len_str (by rfl) T.len PySem.boot_len (@pa_cN _ _ _ _ _ _ (@pv _ 0 _ _ (by rfl) vRTu_0 (by decide) (by decide)) (@pa_nil _)) (by decide) (by decide) (by rfl) (by rfl)) (by rfl) (by first | exact .inl rfl | exact .inr rfl | assumption)) (@pss_one _ _ _ (@ps_ret _ _ _ _ (@pe_lc _ _ _ _ _ _ [("turn", 4)] _ _ (gName 4) _ _ (by rfl) scRTu.nd (@pi_range2 _ _ _ _ _ _ _ (by rfl) T.range (@pa_cB _ _ _ _ _ _ _ _ (@pe_op _ _ _ _ _ _ _ _ op_sub (@pe_int _ _ _ _) (@pv _ 3 _ _ (by rfl) vRTu_3 (by decide) (by decide))) (@pa_cN _ _ _ _ _ _ (@pv _ 3 _ _ (by rfl) vRTu_3 (by decide) (by decide)) (@pa_nil _))) (by rfl) (by rfl)) (blkOk_by (own := [("turn", 4)]) (N := ["wheel", "place", "sign", "many", "turn"]) (sc := defScope sRTu) (by decide +kernel)) (fun _ _ _ _ _ => (@pg_name _ _ 4 _ scRTu.nd rfl (Or.inl rfl) (by first | exact .inl rfl | exact .inr rfl | assumption))) (fun _ _ _ _ _ => (@pts_one _ _ _ (@pt_cmpR _ _ _ _ _ _ _ _ op_eq (@pe_ix _ _ _ _ _ _ _ ix_str (@pv _ 0 _ _ (by rfl) (by first | exact Or.inl rfl | exact Or.inr (Or.inl rfl) | exact Or.inr (Or.inr rfl)) (by decide) (by decide)) (@pe_op _ _ _ _ _ _ _ _ op_mod (@pe_op _ _ _ _ _ _ _ _ op_add (@pv _ 1 _ _ (by rfl) (by first | exact Or.inl rfl | exact Or.inr (Or.inl rfl) | exact Or.inr (Or.inr rfl)) (by decide) (by decide)) (@pv _ 4 _ _ (by rfl) (by first | exact Or.inl rfl | exact Or.inr (Or.inl rfl) | exact Or.inr (Or.inr rfl)) (by decide) (by decide))) (@pv _ 3 _ _ (by rfl) (by first | exact Or.inl rfl | exact Or.inr (Or.inl rfl) | exact Or.inr (Or.inr rfl)) (by decide) (by decide))) (fun _ _ => rfl)) (@pv _ 2 _ _ (by rfl) (by first | exact Or.inl rfl | exact Or.inr (Or.inl rfl) | exact Or.inr (Or.inr rfl)) (by decide) (by decide)) (nomark _)))) (fun _ _ _ _ _ => (@pv _ 4 _ _ (by rfl) (by first | exact Or.inl rfl | exact Or.inr (Or.inl rfl) | exact Or.inr (Or.inr rfl)) (by decide) (by decide))) (by intro _ ; rfl))))), ?_⟩
    refine ⟨_, rfl, _, rfl, hz, ?_⟩
    rw [txt_length]
    refine ⟨_, rfl, _, _, rfl, rfl, _, rfl, _, _, rfl, ⟨by omega, by omega, by omega, by omega⟩, fun D hD => ?_⟩
    have eN : ((l.length : Int) - (1 - (l.length : Int))).toNat = 2 * l.length - 1 := by omega
    rw [eN]
    refine lc_rangeP (fun i : Nat => decide (l.getD ((p + (1 - (l.length : Int) + (i : Int))) % (l.length : Int)).toNat 0 = c)) (fun i : Nat => V.int (1 - (l.length : Int) + (i : Int))) hD (small1000 (by omega)) ?_ ?_
    · intro i H' hi s' Qy Qn ky kn
      refine ⟨rfl, ?_⟩
      obtain ⟨q1, q2⟩ := ix_ok (p + (1 - (l.length : Int) + (i : Int))) (show 0 < l.length by omega)
      have hat := at_getD (l := l) (z := (p + (1 - (l.length : Int) + (i : Int))) % (l.length : Int)) (by omega) (by omega)
      refine ⟨_, rfl, _, rfl, _, rfl, _, _, rfl, rfl, _, rfl, _, _, rfl, rfl, (by omega), _, _, _, rfl, rfl, hz, hat, _, rfl, rfl, _, rfl, ?_⟩
      rw [eq_sign]
      cases e : decide (l.getD ((p + (1 - (l.length : Int) + (i : Int))) % (l.length : Int)).toNat 0 = c) with
      | true =>
        rw [e] at ky
        exact iteT ⟨_, rfl, ky rfl _ (Same.refl _)⟩
      | false =>
        rw [e] at kn
        exact iteF (kn rfl _ (Same.refl _))
    · intro H' s' hL
      refine k D H' s' hD ?_
      rw [hL]
      unfold tts
      rw [List.map_map]
      rfl
end
end W

set_option Elab.async false
set_option linter.all false
set_option maxRecDepth 100000
set_option maxHeartbeats 4000000
namespace W
open PySem L2 WM

abbrev sLStep : Stmt := top 40
abbrev psLStep : List Str := ["turn", "way", "slack"]
theorem scLStep : FnScope ["turn", "way", "slack", "later"] ["turn", "way", "slack"] (defScope sLStep) := ⟨rfl, rfl, rfl, by decide +kernel, rfl, by decide +kernel, by decide +kernel⟩
theorem lLStep_0 : Loc (defScope sLStep) "turn" := Or.inl (by decide +kernel)
theorem vLStep_0 : Vis (defScope sLStep) "turn" := Or.inl (by decide +kernel)
theorem lLStep_1 : Loc (defScope sLStep) "way" := Or.inl (by decide +kernel)
theorem vLStep_1 : Vis (defScope sLStep) "way" := Or.inl (by decide +kernel)
theorem lLStep_2 : Loc (defScope sLStep) "slack" := Or.inl (by decide +kernel)
theorem vLStep_2 : Vis (defScope sLStep) "slack" := Or.inl (by decide +kernel)
theorem lLStep_3 : Loc (defScope sLStep) "later" := Or.inl (by decide +kernel)
theorem vLStep_3 : Vis (defScope sLStep) "later" := Or.inl (by decide +kernel)
abbrev sLCost : Stmt := top 45
abbrev psLCost : List Str := ["turns", "slack"]
theorem scLCost : FnScope ["turns", "slack", "total", "way", "turn", "more"] ["turns", "slack"] (defScope sLCost) := ⟨rfl, rfl, rfl, by decide +kernel, rfl, by decide +kernel, by decide +kernel⟩
theorem lLCost_0 : Loc (defScope sLCost) "turns" := Or.inl (by decide +kernel)
theorem vLCost_0 : Vis (defScope sLCost) "turns" := Or.inl (by decide +kernel)
theorem lLCost_1 : Loc (defScope sLCost) "slack" := Or.inl (by decide +kernel)
theorem vLCost_1 : Vis (defScope sLCost) "slack" := Or.inl (by decide +kernel)
theorem lLCost_2 : Loc (defScope sLCost) "total" := Or.inl (by decide +kernel)
theorem vLCost_2 : Vis (defScope sLCost) "total" := Or.inl (by decide +kernel)
theorem lLCost_3 : Loc (defScope sLCost) "way" := Or.inl (by decide +kernel)
theorem vLCost_3 : Vis (defScope sLCost) "way" := Or.inl (by decide +kernel)
theorem lLCost_4 : Loc (defScope sLCost) "turn" := Or.inl (by decide +kernel)
theorem vLCost_4 : Vis (defScope sLCost) "turn" := Or.inl (by decide +kernel)
theorem lLCost_5 : Loc (defScope sLCost) "more" := Or.inl (by decide +kernel)
theorem vLCost_5 : Vis (defScope sLCost) "more" := Or.inl (by decide +kernel)
section
variable {P : Program} {w : World} {K : PySem.W.Frag} {mg : Str → Option Value} {base : Heap}
def spLStep : Sp := fun vs H Q _ => ∃ (t x s : Int), vs = [.int t, .int x, .int s] ∧ -1 ≤ x ∧ x ≤ 1 ∧ ∀ q H', Same H H' → H q = none → H' q = some (.tup [.int (wb x t), .int (tc x t s)]) → Q (.ref q) H'
theorem step_ix (x t : Int) : atI [V.int x, V.int 1, V.int (-1)] ((if decide (0 < t) = true then (1 : Int) else 0) + 2 * (if decide (t < 0) = true then (1 : Int) else 0)) = some (.int (wb x t)) := by
  unfold wb
  by_cases h1 : 0 < t
  · rw [decide_eq_true h1, decide_eq_false (by omega : ¬ t < 0), if_pos rfl, if_neg (by decide), if_pos h1]; rfl
  · rw [decide_eq_false h1, if_neg (by decide), if_neg h1]
    by_cases h2 : t < 0
    · rw [decide_eq_true h2, if_pos rfl, if_pos h2]; rfl
    · rw [decide_eq_false h2, if_neg (by decide), if_neg h2]; rfl
theorem step_cost {x t s : Int} (x0 : -1 ≤ x) (x1 : x ≤ 1) (b : Bool) (hb : b = (decide (wb x t ≠ x) && decide (x ≠ 0))) : (if 0 - t > t then 0 - t else t) + s * (if b = true then (1 : Int) else 0) = tc x t s := by
  have ea : (if 0 - t > t then 0 - t else t) = ab t := by
    unfold ab
    by_cases h : t < 0
    · rw [if_pos h, if_pos (by omega)]; omega
    · rw [if_neg h, if_neg (by omega)]
  rw [ea]
  unfold tc
  have hx : x = -1 ∨ x = 0 ∨ x = 1 := by omega
  unfold wb at hb
  rcases hx with rfl | rfl | rfl
  · by_cases h1 : 0 < t
    · rw [if_pos h1] at hb
      have : b = true := by rw [hb]; decide
      rw [this, if_pos rfl, if_pos (by omega)]; omega
    · rw [if_neg h1] at hb
      have : b = false := by
        rw [hb]
        by_cases h2 : t < 0
        · rw [if_pos h2]; decide
        · rw [if_neg h2]; decide
      rw [this, if_neg (by decide), if_neg (by omega)]; omega
  · have : b = false := by rw [hb]; rw [decide_eq_false (by decide : ¬ ((0 : Int) ≠ 0)), Bool.and_false]
    rw [this, if_neg (by decide), if_neg (by omega)]; omega
  · by_cases h1 : t < 0
    · rw [if_neg (by omega), if_pos h1] at hb
      have : b = true := by rw [hb]; decide
      rw [this, if_pos rfl, if_pos (by omega)]; omega
    · have : b = false := by
        rw [hb]
        by_cases h2 : 0 < t
        · rw [if_pos h2]; decide
        · rw [if_neg h2, if_neg h1]; decide
      rw [this, if_neg (by decide), if_neg (by omega)]; omega
theorem ne_int (a b : Int) : (!decide (V.int a = V.int b)) = decide (a ≠ b) := by
  by_cases h : a = b
  · rw [h, decide_eq_true rfl, decide_eq_false (by simp)]; rfl
  · rw [decide_eq_false (fun e => h (V.int.inj e)), decide_eq_true h]; rfl
theorem cal_lstep (D : Def K mg "_law_step" sLStep psLStep) (T : Txt mg) : Cal P w K mg base CX0 1 "_law_step" psLStep spLStep := cal_mk D fun f fd F => by
  refine F.ok scLStep (fun vs H Q E h => ?_) (fun cdv A outer s H vs Q E hr h => ?_)
  · obtain ⟨t, x, s, rfl, _⟩ := h
    rfl
  · obtain ⟨t, x, sl, rfl, x0, x1, k⟩ := h
    refine ⟨_, (@pss_cons _ _ _ _ _ (@ps_set _ _ 3 _ _ _ _ scLStep.nd rfl lLStep_3 (@pe_ix _ _ _ _ _ _ _ ix_list (@pe_lst _ _ _ _ (@pa_cN _ _ _ _ _ _ (@pv _ 1 _ _ (by rfl) vLStep_1 (by decide) (by decide)) (@pa_cC _ _ _ _ _ _ _ (@pe_int _ _ _ _) (@pa_cU _ _ _ _ _ _ _ (@pe_un _ _ _ _ _ _ un_neg (@pe_int _ _ _ _)) (@pa_nil _))))) (@pe_op _ _ _ _ _ _ _ _ op_add (@pe_callTy _ _ _ _ _ _ _ _ _ call_int1 (by rfl) T.int (by decide +kernel) (@pa_cQ _ _ _ _ _ _ _ _ (@pe_cmpR _ _ _ _ _ _ _ _ op_gt (@pv _ 0 _ _ (by rfl) vLStep_0 (by decide) (by decide)) (@pe_int _ _ _ _) (nomark _)) (@pa_nil _)) (by decide) (by decide) (by rfl) (by rfl)) (@pe_op _ _ _ _ _ _ _ _ op_mul (@pe_int _ _ _ _) (@pe_callTy _ _ _ _ _ _ _ _ _ call_int1 (by rfl) T.int (by decide +kernel) (@pa_cQ _ _ _ _ _ _ _ _ (@pe_cmpR _ _ _ _ _ _ _ _ op_lt (@pv _ 0 _ _ (by rfl) vLStep_0 (by decide) (by decide)) (@pe_int _ _ _ _) (nomark _)) (@pa_nil _)) (by decide) (by decide) (by rfl) (by rfl)))) (fun _ _ => rfl)) (by rfl) (by first | exact .inl rfl | exact .inr rfl | assumption)) (@pss_one _ _ _ (@ps_ret _ _ _ _ (@pe_tup _ _ _ _ _ (@pa_cN _ _ _ _ _ _ (@pv _ 3 _ _ (by rfl) vLStep_3 (by decide) (by decide)) (@pa_cB _ _ _ _ _ _ _ _ (@pe_op _ _ _ _ _ _ _ _ op_add (@pe_callB _ _ _ _ _ _ _ _ _ (call_max2 rfl) (by rfl) T.max (by decide +kernel) (@pa_cN _ _ _ _ _ _ (@pv _ 0 _ _ (by rfl) vLStep_0 (by decide) (by decide)) (@pa_cB _ _ _ _ _ _ _ _ (@pe_op _ _ _ _ _ _ _ _ op_sub (@pe_int _ _ _ _) (@pv _ 0 _ _ (by rfl) vLStep_0 (by decide) (by decide))) (@pa_nil _))) (by decide) (by decide) (by rfl) (by rfl)) (@pe_op _ _ _ _ _ _ _ _ op_mul (@pv _ 2 _ _ (by rfl) vLStep_2 (by decide) (by decide)) (@pe_callTy _ _ _ _ _ _ _ _ _ call_int1 (by rfl) T.int (by decide +kernel) (@pa_cons _ _ _ _ _ (@pe_and _ _ _ _ _ _ _ (@pe_cmpR _ _ _ _ _ _ _ _ op_ne (@pv _ 3 _ _ (by rfl) vLStep_3 (by decide) (by decide)) (@pv _ 1 _ _ (by rfl) vLStep_1 (by decide) (by decide)) (nomark _)) (@pe_one _ _ _ _ _ (@pe_cmpR _ _ _ _ _ _ _ _ op_ne (@pv _ 1 _ _ (by rfl) vLStep_1 (by decide) (by decide)) (@pe_int _ _ _ _) (nomark _)))) (@pa_nil _) (by rfl)) (by decide) (by decide) (by rfl) (by rfl)))) (@pa_nil _))))))), ?_⟩
    refine ⟨_, rfl, _, rfl, (by show 3 ≤ sizeLine; decide), fun L hL => ?_⟩
    refine ⟨_, rfl, _, _, rfl, rfl, .inr ⟨_, rfl, _, rfl, _, _, rfl, rfl, .inr ⟨_, rfl, _, _, rfl, rfl, .inl ⟨by decide, by decide⟩, _, _, rfl, rfl, ?_⟩⟩⟩
    refine ⟨L, _, _, _, rfl, rfl, SqL.of upd_same, step_ix x t, ?_⟩
    refine ⟨_, rfl, _, rfl, _, rfl, _, _, rfl, rfl, _, _, rfl, _, rfl, _, rfl, _, rfl, rfl, _, rfl, ?_⟩
    rw [ne_int]
    have fin : ∀ b : Bool, b = (decide (wb x t ≠ x) && decide (x ≠ 0)) → ∀ q, (upd H L (.lst [.int x, .int 1, .int (-1)])) q = none → Q (.ref q) (upd (upd H L (.lst [.int x, .int 1, .int (-1)])) q (.tup [.int (wb x t), .int ((if 0 - t > t then 0 - t else t) + sl * (if b = true then (1 : Int) else 0))])) := by
      intro b hb q hq
      rw [step_cost x0 x1 b hb]
      exact k q _ ((Same.new hL).trans (Same.new hq)) ((Same.new hL).free hq) upd_same
    have bd : ∀ b : Bool, -(2 ^ 64) < (if b = true then (1 : Int) else 0) ∧ (if b = true then (1 : Int) else 0) < 2 ^ 64 := by intro b; cases b <;> decide
    by_cases hc : wb x t ≠ x
    · rw [decide_eq_true hc]
      refine iteT ?_
      refine ⟨_, rfl, rfl, .inr ⟨_, rfl, _, _, rfl, rfl, .inr (bd _), _, _, rfl, rfl, (by show 2 ≤ sizeLine; decide), fun q hq => ?_⟩⟩
      exact fin _ (by rw [ne_int, decide_eq_true hc, Bool.true_and]) q hq
    · rw [decide_eq_false hc]
      refine iteF ?_
      refine .inr ⟨_, rfl, _, _, rfl, rfl, .inr (bd _), _, _, rfl, rfl, (by show 2 ≤ sizeLine; decide), fun q hq => ?_⟩
      exact fin _ (by rw [decide_eq_false hc, Bool.false_and]) q hq
def spLCost (K : PySem.W.Frag) : Sp := fun vs H Q _ => ∃ (a : Addr) (ts : List Int) (s : Int), vs = [.ref a, .int s] ∧ SqL K H a (ts.map V.int) ∧ ∀ H', Same H H' → Q (.int (cf s ts).1) H'
theorem cal_lcost (D : Def K mg "_law_cost" sLCost psLCost) (T : Txt mg) (CLs : Cal P w K mg base CX0 1 "_law_step" ["turn", "way", "slack"] spLStep) : Cal P w K mg base CX0 2 "_law_cost" psLCost (spLCost K) := cal_mk D fun f fd F => by
  obtain ⟨fLs, dLs, GLs, kLs, bLs, mLs⟩ := CLs
  refine F.ok scLCost (fun vs H Q E h => ?_) (fun cdv A outer s H vs Q E hr h => ?_)
  · obtain ⟨a, ts, s, rfl, _⟩ := h
    rfl
  · obtain ⟨a, ts, sl, rfl, hS, k⟩ := h
    refine ⟨_, (@pss_cons _ _ _ _ _ (@ps_set _ _ 2 _ _ _ _ scLCost.nd rfl lLCost_2 (@pe_int _ _ _ _) (by rfl) (by first | exact .inl rfl | exact .inr rfl | assumption)) (@pss_cons _ _ _ _ _ (@ps_set _ _ 3 _ _ _ _ scLCost.nd rfl lLCost_3 (@pe_int _ _ _ _) (by rfl) (by first | exact .inl rfl | exact .inr rfl | assumption)) (@pss_cons _ _ _ _ _ (@ps_for _ _ _ _ _ _ _ _ PassesOwn.never rfl (@pi_list _ _ _ _ (@pv _ 0 _ _ (by rfl) vLCost_0 (by decide) (by decide))) (@pg_name _ _ 4 _ scLCost.nd rfl lLCost_4 (by first | exact .inl rfl | exact .inr rfl | assumption)) (@pss_cons _ _ _ _ _ (@ps_asg _ _ _ _ _ _ (@pe_call _ _ _ _ _ _ _ _ _ _ _ _ _ _ _ _ GLs (hr.mono (by decide)) (by rfl) mLs kLs bLs .nil pass0 (@pa_cN _ _ _ _ _ _ (@pv _ 4 _ _ (by rfl) vLCost_4 (by decide) (by decide)) (@pa_cN _ _ _ _ _ _ (@pv _ 3 _ _ (by rfl) vLCost_3 (by decide) (by decide)) (@pa_cN _ _ _ _ _ _ (@pv _ 1 _ _ (by rfl) vLCost_1 (by decide) (by decide)) (@pa_nil _)))) (by decide) (by rfl) (by rfl)) (@pg_tup _ _ _ _ _ _ rfl (@pgs_cons _ _ _ _ _ (@pg_name _ _ 3 _ scLCost.nd rfl lLCost_3 (by first | exact .inl rfl | exact .inr rfl | assumption)) (@pgs_cons _ _ _ _ _ (@pg_name _ _ 5 _ scLCost.nd rfl lLCost_5 (by first | exact .inl rfl | exact .inr rfl | assumption)) (@pgs_nil _) (by rfl)) (by rfl)) (by rfl) (by rfl)) (by rfl) (by rfl) (by rfl)) (@pss_one _ _ _ (@ps_set _ _ 2 _ _ _ _ scLCost.nd rfl lLCost_2 (@pe_op _ _ _ _ _ _ _ _ op_add (@pv _ 2 _ _ (by rfl) vLCost_2 (by decide) (by decide)) (@pv _ 5 _ _ (by rfl) vLCost_5 (by decide) (by decide))) (by rfl) (by first | exact .inl rfl | exact .inr rfl | assumption)))) (by intro _ ; rfl)) (@pss_one _ _ _ (@ps_ret _ _ _ _ (@pv _ 2 _ _ (by rfl) vLCost_2 (by decide) (by decide))))))), ?_⟩
    refine ⟨_, rfl, a, rfl, ⟨_, hS⟩, for_list (xs := ts.map V.int) (fun i σ H2 => ∃ o4 o5 : Option V, σ = [some (.ref a), some (.int sl), some (.int (cf sl (ts.take i)).1), some (.int (cf sl (ts.take i)).2), o4, o5] ∧ Same H H2) ?_ ?_ ?_ ?_⟩
    · exact ⟨_, _, rfl, Same.refl H⟩
    · rintro i σ H2 _ ⟨o4, o5, rfl, s2⟩
      exact s2.seq hS
    · rintro i v σ H2 hv ⟨o4, o5, rfl, s2⟩
      rw [List.getElem?_map] at hv
      cases et : ts[i]? with
      | none => rw [et] at hv; cases hv
      | some t =>
        rw [et] at hv
        cases hv
        have e : ts.take (i + 1) = ts.take i ++ [t] := by rw [List.take_add_one, et]; rfl
        obtain ⟨q0, q1⟩ := cf_way sl (ts.take i)
        refine ⟨_, rfl, _, rfl, _, rfl, t, _, sl, rfl, q0, q1, fun q H3 s3 _ hq => ?_⟩
        refine ⟨q, _, rfl, SqT.of hq, rfl, _, _, rfl, _, _, rfl, rfl, ?_⟩
        refine ⟨_, rfl, _, rfl, _, _, rfl, rfl, ?_⟩
        refine ⟨some (.int t), some (.int (tc (cf sl (ts.take i)).2 t sl)), ?_, s2.trans s3⟩
        rw [e, cf_snoc]
        rfl
    · rintro σ H2 ⟨o4, o5, rfl, s2⟩
      rw [List.length_map, List.take_length]
      exact ⟨_, rfl, k _ s2⟩
end
end W

set_option Elab.async false
set_option linter.all false
set_option maxRecDepth 100000
set_option maxHeartbeats 4000000
namespace W
open PySem L2 WM

abbrev sLWord : Stmt := top 44
abbrev psLWord : List Str := ["draws", "wheel", "most"]
theorem scLWord : FnScope ["draws", "wheel", "most", "many", "k"] ["draws", "wheel", "most"] (defScope sLWord) := ⟨rfl, rfl, rfl, by decide +kernel, rfl, by decide +kernel, by decide +kernel⟩
theorem lLWord_0 : Loc (defScope sLWord) "draws" := Or.inr (by decide +kernel)
theorem vLWord_0 : Vis (defScope sLWord) "draws" := Or.inr (Or.inl (by decide +kernel))
theorem lLWord_2 : Loc (defScope sLWord) "most" := Or.inl (by decide +kernel)
theorem vLWord_2 : Vis (defScope sLWord) "most" := Or.inl (by decide +kernel)
theorem lLWord_3 : Loc (defScope sLWord) "many" := Or.inl (by decide +kernel)
theorem vLWord_3 : Vis (defScope sLWord) "many" := Or.inl (by decide +kernel)
section
variable {P : Program} {w : World} {K : PySem.W.Frag} {mg : Str → Option Value} {base : Heap}
def spLWord : Sp := fun vs H Q _ => ∃ (p : Addr) (l : List Nat) (m : Int), vs = [.ref p, .str (txt l), .int m] ∧ DrAt H p ∧ 1 ≤ l.length ∧ l.length ≤ 500 ∧ 0 ≤ m ∧ m ≤ 100 ∧ ∀ (o : List Nat) (H' : Hp), (∀ c ∈ o, c ∈ l) → (o.length : Int) ≤ m → DrAt H' p → But p H H' → Q (.str (txt o)) H'
theorem cal_lword (D : Def K mg "_law_word" sLWord psLWord) (T : Txt mg) (CDw : Cal P w K mg base CX0 1 "_law_draw" ["draws", "many"] spDraw) : Cal P w K mg base CX0 2 "_law_word" psLWord spLWord := cal_mk D fun f fd F => by
  obtain ⟨fDw, dDw, GDw, kDw, bDw, mDw⟩ := CDw
  refine F.ok scLWord (fun vs H Q E h => ?_) (fun cdv A outer s H vs Q E hr h => ?_)
  · obtain ⟨p, l, m, rfl, _⟩ := h
    rfl
  · obtain ⟨p, l, m, rfl, D0, h1, h2, m0, m100, k⟩ := h
    have hz : (txt l).length ≤ sizeLine := by rw [txt_length]; exact Nat.le_of_lt (small1000 (by omega))
    refine ⟨_, (@pss_cons _ _ _ _ _ (@ps_set _ _ 3 _ _ _ _ scLWord.nd rfl lLWord_3 (@pe_ix _ _ _ _ _ _ _ ix_list (@pe_lst _ _ _ _ (@pa_cK _ _ _ _ _ _ _ _ (@pe_call _ _ _ _ _ _ _ _ _ _ _ _ _ _ _ _ GDw (hr.mono (by decide)) (by rfl) mDw kDw bDw .nil pass0 (@pa_cN _ _ _ _ _ _ (@pv _ 0 _ _ (by rfl) vLWord_0 (by decide) (by decide)) (@pa_cC _ _ _ _ _ _ _ (@pe_int _ _ _ _) (@pa_nil _))) (by decide) (by rfl) (by rfl)) (@pa_cK _ _ _ _ _ _ _ _ (@pe_call _ _ _ _ _ _ _ _ _ _ _ _ _ _ _ _ GDw (hr.mono (by decide)) (by rfl) mDw kDw bDw .nil pass0 (@pa_cN _ _ _ _ _ _ (@pv _ 0 _ _ (by rfl) vLWord_0 (by decide) (by decide)) (@pa_cB _ _ _ _ _ _ _ _ (@pe_op _ _ _ _ _ _ _ _ op_add (@pv _ 2 _ _ (by rfl) vLWord_2 (by decide) (by decide)) (@pe_int _ _ _ _)) (@pa_nil _))) (by decide) (by rfl) (by rfl)) (@pa_cN _ _ _ _ _ _ (@pv _ 2 _ _ (by rfl) vLWord_2 (by decide) (by decide)) (@pa_nil _))))) (@pe_call _ _ _ _ _ _ _ _ _ _ _ _ _ _ _ _ GDw (hr.mono (by decide)) (by rfl) mDw kDw bDw .nil pass0 (@pa_cN _ _ _ _ _ _ (@pv _ 0 _ _ (by rfl) vLWord_0 (by decide) (by decide)) (@pa_cC _ _ _ _ _ _ _ (@pe_int _ _ _ _) (@pa_nil _))) (by decide) (by rfl) (by rfl)) (fun _ _ => rfl)) (by rfl) (by first | exact .inl rfl | exact .inr rfl | assumption)) (@pss_one _ _ _ (@ps_ret _ _ _ _ (@pe_join _ _ _ _ _ _ _ (@pe_str _ _ _ _) (@pe_lc _ _ _ _ _ _ [("k", 4)] _ _ (gName 4) _ _ (by rfl) scLWord.nd (@pi_range1 _ _ _ _ _ _ (by rfl) T.range (@pa_cK _ _ _ _ _ _ _ _ (@pe_callB _ _ _ _ _ _ _ _ _ (call_min2 rfl) (by rfl) T.min (by decide +kernel) (@pa_cN _ _ _ _ _ _ (@pv _ 3 _ _ (by rfl) vLWord_3 (by decide) (by decide)) (@pa_cN _ _ _ _ _ _ (@pv _ 2 _ _ (by rfl) vLWord_2 (by decide) (by decide)) (@pa_nil _))) (by decide) (by decide) (by rfl) (by rfl)) (@pa_nil _)) (by rfl)) (blkOk_by (own := [("k", 4)]) (N := ["draws", "wheel", "most", "many", "k"]) (sc := defScope sLWord) (by decide +kernel)) (fun _ _ _ _ _ => (@pg_name _ _ 4 _ scLWord.nd rfl (Or.inl rfl) (by first | exact .inl rfl | exact .inr rfl | assumption))) (fun _ _ _ _ _ => (@pts_nil _)) (fun _ _ _ _ _ => (@pe_ix _ _ _ _ _ _ _ ix_str (@pv _ 1 _ _ (by rfl) (by first | exact Or.inl rfl | exact Or.inr (Or.inl rfl) | exact Or.inr (Or.inr rfl)) (by decide) (by decide)) (@pe_call _ _ _ _ _ _ _ _ _ _ _ _ _ _ _ _ GDw (hr.mono (by decide)) (by rfl) mDw kDw bDw .nil pass0 (@pa_cN _ _ _ _ _ _ (@pv _ 0 _ _ (by rfl) (by first | exact Or.inl rfl | exact Or.inr (Or.inl rfl) | exact Or.inr (Or.inr rfl)) (by decide) (by decide)) (@pa_cK _ _ _ _ _ _ _ _ (@pe_callB _ _ _ _ _ _ _ _ _ call_len_str (by rfl) T.len PySem.boot_len (@pa_cN _ _ _ _ _ _ (@pv _ 1 _ _ (by rfl) (by first | exact Or.inl rfl | exact Or.inr (Or.inl rfl) | exact Or.inr (Or.inr rfl)) (by decide) (by decide)) (@pa_nil _)) (by decide) (by decide) (by rfl) (by rfl)) (@pa_nil _))) (by decide) (by rfl) (by rfl)) (fun _ _ => rfl))) (by intro _ ; rfl)) (by rfl) (by rfl) (by rfl))))), ?_⟩
    refine ⟨_, rfl, p, _, rfl, D0, by omega, by omega, fun x1 H1 x10 x11 D1 B1 => ?_⟩
    refine ⟨_, rfl, _, rfl, _, _, rfl, rfl, p, _, rfl, D1, by omega, by omega, fun x2 H2 x20 x21 D2 B2 => ?_⟩
    refine ⟨_, rfl, (by show 3 ≤ sizeLine; decide), fun L hL => ?_⟩
    refine ⟨_, rfl, p, _, rfl, D2.new hL, by omega, by omega, fun x3 H3 x30 x31 D3 B3 => ?_⟩
    obtain ⟨v, hv, hv'⟩ := at3 (a := .int x1) (b := .int x2) (c := .int m) x30 x31
    obtain ⟨z, rfl, z0⟩ : ∃ z : Int, v = .int z ∧ 0 ≤ z := by
      rcases hv' with rfl | rfl | rfl
      · exact ⟨_, rfl, by omega⟩
      · exact ⟨_, rfl, by omega⟩
      · exact ⟨_, rfl, by omega⟩
    refine ⟨L, _, _, _, rfl, rfl, SqL.of (B3 _ _ upd_same (D2.ne hL)), hv, ?_⟩
    have hm : ∃ y : Int, (if m < z then m else z) = y ∧ 0 ≤ y ∧ y ≤ m := by
      refine ⟨_, rfl, ?_, ?_⟩ <;> (split <;> omega)
    obtain ⟨y, hy, y0, ym⟩ := hm
    refine ⟨⟨_, rfl⟩, _, rfl, _, rfl, _, _, rfl, _, rfl, ?_⟩
    rw [hy]
    have B03 : But p H H3 := B1.trans (B2.trans ((But.new hL).trans B3))
    refine ⟨by omega, by omega, fun M hM => lc_rangeD (p := p) (fun v => ∃ c ∈ l, v = V.str (txt [c])) D3 hM (small1000 (by omega)) ?_ ?_ yes_mono name_mono⟩
    · intro i H' hi D' B' _ Qy ky
      refine ⟨rfl, rfl, ?_⟩
      refine ⟨_, rfl, _, rfl, _, rfl, _, rfl, hz, p, _, rfl, D', by rw [txt_length]; omega, by rw [txt_length]; omega, fun r H'' r0 r1 D'' B'' => ?_⟩
      rw [txt_length] at r1
      obtain ⟨c, hc, hcm⟩ := at_some (l := l) r0 r1
      exact ⟨_, _, c, rfl, rfl, hz, hc, ky _ _ ⟨c, hcm, rfl⟩ D'' B''⟩
    intro H4 ys hyl hyR D4 B4 hM4
    obtain ⟨o, rfl, hol, hoc⟩ := signs_of_vs hyR
    refine ⟨_, M, o.map (fun c => txt [c]), rfl, rfl, .inl (SqL.of hM4), ?_, ?_⟩
    · rw [sum_ones, List.length_map]
      show _ + _ * 0 ≤ _
      omega
    · show Q (.str (Txt.join (txt []) _)) H4
      rw [join_signs]
      exact k o H4 hoc (by omega) D4 (B03.trans B4)
end
end W

set_option Elab.async false
set_option linter.all false
set_option maxRecDepth 100000
set_option maxHeartbeats 4000000
namespace W
open PySem L2 WM

abbrev sPlcs : Stmt := top 15
abbrev psPlcs : List Str := ["wheel", "sign"]
theorem scPlcs : FnScope ["wheel", "sign", "place", "found"] ["wheel", "sign"] (defScope sPlcs) := ⟨rfl, rfl, rfl, by decide +kernel, rfl, by decide +kernel, by decide +kernel⟩
theorem lPlcs_0 : Loc (defScope sPlcs) "wheel" := Or.inl (by decide +kernel)
theorem vPlcs_0 : Vis (defScope sPlcs) "wheel" := Or.inl (by decide +kernel)
section
variable {P : Program} {w : World} {K : PySem.W.Frag} {mg : Str → Option Value} {base : Heap}
def spPlcs : Sp := fun vs H Q _ => ∃ (l : List Nat) (c : Nat), vs = [.str (txt l), .str (txt [c])] ∧ Wheel l ∧ ∀ D H', Same H H' → H D = none → H' D = some (.lst ((plc l c).map fun j : Nat => V.int j)) → Q (.ref D) H'
theorem cal_plcs {C11 : Addr} (D : Def K mg "places_of" sPlcs psPlcs) (T : Txt mg) (CNd : Cal P w K mg base (CX1 P w) 4 "need_wheel" ["wheel"] (spNeed C11)) : Cal P w K mg base CX0 5 "places_of" psPlcs spPlcs := cal_mk D fun f fd F => by
  obtain ⟨fNd, dNd, GNd, kNd, bNd, mNd⟩ := CNd
  refine F.ok scPlcs (fun vs H Q E h => ?_) (fun cdv A outer s H vs Q E hr h => ?_)
  · obtain ⟨l, c, rfl, _⟩ := h
    rfl
  · obtain ⟨l, c, rfl, hW, k⟩ := h
    have h1 := hW.pos
    have h2 := hW.le
    refine ⟨_, (@pss_cons _ _ _ _ _ (@ps_expr _ _ _ _ (@pe_call _ _ _ _ _ _ _ _ _ _ _ _ _ _ _ _ GNd (hr.mono (by decide)) (by rfl) mNd kNd bNd .nil pass10 (@pa_cN _ _ _ _ _ _ (@pv _ 0 _ _ (by rfl) vPlcs_0 (by decide) (by decide)) (@pa_nil _)) (by decide) (by rfl) (by rfl)) (by rfl)) (@pss_one _ _ _ (@ps_ret _ _ _ _ (@pe_lc _ _ _ _ _ _ [("place", 2), ("found", 3)] _ _ (gTup K 2 (gCons (gName 2) (gCons (gName 3) gNil))) _ _ (by rfl) scPlcs.nd (@pi_enumS _ _ _ _ _ _ _ _ (by rfl) T.enum (@pa_cN _ _ _ _ _ _ (@pv _ 0 _ _ (by rfl) vPlcs_0 (by decide) (by decide)) (@pa_nil _)) (by rfl)) (blkOk_by (own := [("place", 2), ("found", 3)]) (N := ["wheel", "sign", "place", "found"]) (sc := defScope sPlcs) (by decide +kernel)) (fun _ _ _ _ _ => (@pg_tup _ _ _ _ _ _ rfl (@pgs_cons _ _ _ _ _ (@pg_name _ _ 2 _ scPlcs.nd rfl (Or.inl rfl) (by first | exact .inl rfl | exact .inr rfl | assumption)) (@pgs_cons _ _ _ _ _ (@pg_name _ _ 3 _ scPlcs.nd rfl (Or.inl rfl) (by first | exact .inl rfl | exact .inr rfl | assumption)) (@pgs_nil _) (by rfl)) (by rfl)) (by rfl) (by rfl))) (fun _ _ _ _ _ => (@pts_one _ _ _ (@pt_cmpR _ _ _ _ _ _ _ _ op_eq (@pv _ 3 _ _ (by rfl) (by first | exact Or.inl rfl | exact Or.inr (Or.inl rfl) | exact Or.inr (Or.inr rfl)) (by decide) (by decide)) (@pv _ 1 _ _ (by rfl) (by first | exact Or.inl rfl | exact Or.inr (Or.inl rfl) | exact Or.inr (Or.inr rfl)) (by decide) (by decide)) (nomark _)))) (fun _ _ _ _ _ => (@pv _ 2 _ _ (by rfl) (by first | exact Or.inl rfl | exact Or.inr (Or.inl rfl) | exact Or.inr (Or.inr rfl)) (by decide) (by decide))) (by intro _ ; rfl))))), ?_⟩
    refine ⟨_, rfl, ⟨l, rfl, by omega, fun hw H1 s1 => ?_, fun hw => by rw [isWh_of hW] at hw; cases hw⟩⟩
    refine ⟨_, rfl, _, rfl, fun D hD => ?_⟩
    refine lc_enumSP (l := l) (fun i x => decide (x = c)) (fun i x => V.int (i : Nat)) hD (small1000 (by omega)) ?_ ?_
    · intro i x T' H2 hx s2 hT Qy Qn ky kn
      refine ⟨T', _, rfl, SqT.of upd_same, rfl, _, _, rfl, _, _, rfl, rfl, rfl, ?_⟩
      refine ⟨_, rfl, _, rfl, rfl, _, rfl, ?_⟩
      rw [eq_sgn]
      cases e : decide (x = c) with
      | true =>
        rw [e] at ky
        exact iteT ⟨_, rfl, ky rfl _ (Same.refl _)⟩
      | false =>
        rw [e] at kn
        exact iteF (kn rfl _ (Same.refl _))
    · intro H2 s2 hL
      refine k D H2 (s1.trans s2) (s1.free hD) ?_
      rw [hL, plc_enum l c (fun j : Nat => V.int j)]
end
end W

set_option Elab.async false
set_option linter.all false
set_option maxRecDepth 100000
set_option maxHeartbeats 4000000
namespace W
open PySem L2 WM

abbrev sPlAt : Stmt := top 30
abbrev psPlAt : List Str := ["wheel", "word", "at"]
theorem scPlAt : FnScope ["wheel", "word", "at"] ["wheel", "word", "at"] (defScope sPlAt) := ⟨rfl, rfl, rfl, by decide +kernel, rfl, by decide +kernel, by decide +kernel⟩
theorem lPlAt_0 : Loc (defScope sPlAt) "wheel" := Or.inl (by decide +kernel)
theorem vPlAt_0 : Vis (defScope sPlAt) "wheel" := Or.inl (by decide +kernel)
theorem lPlAt_1 : Loc (defScope sPlAt) "word" := Or.inl (by decide +kernel)
theorem vPlAt_1 : Vis (defScope sPlAt) "word" := Or.inl (by decide +kernel)
theorem lPlAt_2 : Loc (defScope sPlAt) "at" := Or.inl (by decide +kernel)
theorem vPlAt_2 : Vis (defScope sPlAt) "at" := Or.inl (by decide +kernel)
section
variable {P : Program} {w : World} {K : PySem.W.Frag} {mg : Str → Option Value} {base : Heap}
def spPlAt : Sp := fun vs H Q _ => ∃ (l o : List Nat) (i : Nat), vs = [.str (txt l), .str (txt o), .int (i : Int)] ∧ Wheel l ∧ o.length ≤ 1000 ∧ i ≤ o.length ∧ ∀ D H', Same H H' → H D = none → H' D = some (.lst ((pla l o i).map fun j : Nat => V.int j)) → Q (.ref D) H'
theorem cal_plat (D : Def K mg "places_at" sPlAt psPlAt) (T : Txt mg) (CPo : Cal P w K mg base CX0 5 "places_of" ["wheel", "sign"] spPlcs) : Cal P w K mg base CX0 6 "places_at" psPlAt spPlAt := cal_mk D fun f fd F => by
  obtain ⟨fPo, dPo, GPo, kPo, bPo, mPo⟩ := CPo
  refine F.ok scPlAt (fun vs H Q E h => ?_) (fun cdv A outer s H vs Q E hr h => ?_)
  · obtain ⟨l, o, i, rfl, _⟩ := h
    rfl
  · obtain ⟨l, o, i, rfl, hW, ho, hi, k⟩ := h
    have h1 := hW.pos
    have h2 := hW.le
    have hz : (txt l).length ≤ sizeLine := by rw [txt_length]; exact Nat.le_of_lt (small1000 (by omega))
    have hzo : (txt o).length ≤ sizeLine := by rw [txt_length]; exact Nat.le_of_lt (small1000 (by omega))
    refine ⟨_, (@pss_cons _ _ _ _ _ (@ps_if _ _ _ _ _ _ _ _ (@pt_cmpR _ _ _ _ _ _ _ _ op_eq (@pv _ 2 _ _ (by rfl) vPlAt_2 (by decide) (by decide)) (@pe_int _ _ _ _) (nomark _)) (@pss_one _ _ _ (@ps_ret _ _ _ _ (@pe_listRange _ _ _ _ _ _ _ rfl (by rfl) T.list (by rfl) T.range (@pa_cK _ _ _ _ _ _ _ _ (@pe_callB _ _ _ _ _ _ _ _ _ call_len_str (by rfl) T.len PySem.boot_len (@pa_cN _ _ _ _ _ _ (@pv _ 0 _ _ (by rfl) vPlAt_0 (by decide) (by decide)) (@pa_nil _)) (by decide) (by decide) (by rfl) (by rfl)) (@pa_nil _)) (by rfl) (by rfl)))) (@pss_nil _)) (@pss_one _ _ _ (@ps_ret _ _ _ _ (@pe_call _ _ _ _ _ _ _ _ _ _ _ _ _ _ _ _ GPo (hr.mono (by decide)) (by rfl) mPo kPo bPo .nil pass0 (@pa_cN _ _ _ _ _ _ (@pv _ 0 _ _ (by rfl) vPlAt_0 (by decide) (by decide)) (@pa_cS _ _ _ _ _ _ _ (@pe_ix _ _ _ _ _ _ _ ix_str (@pv _ 1 _ _ (by rfl) vPlAt_1 (by decide) (by decide)) (@pe_op _ _ _ _ _ _ _ _ op_sub (@pv _ 2 _ _ (by rfl) vPlAt_2 (by decide) (by decide)) (@pe_int _ _ _ _)) (fun _ _ => rfl)) (@pa_nil _))) (by decide) (by rfl) (by rfl))))), ?_⟩
    refine ⟨_, rfl, rfl, _, rfl, ?_⟩
    by_cases e0 : i = 0
    · subst e0
      rw [decide_eq_true (by rfl)]
      refine iteT ?_
      refine ⟨_, rfl, _, rfl, hz, l.length, by rw [txt_length], by omega, by omega, fun p hp => ?_⟩
      exact k p _ (Same.new hp) hp upd_same
    · rw [decide_eq_false (fun e => e0 (by have := V.int.inj e; omega))]
      refine iteF ?_
      have hat := at_getD (l := o) (z := (i : Int) - 1) (by omega) (by omega)
      refine ⟨_, rfl, _, rfl, _, rfl, _, _, rfl, rfl, _, _, _, rfl, rfl, hzo, hat, l, o.getD ((i : Int) - 1).toNat 0, rfl, hW, fun D H' s' hD hL => ?_⟩
      refine k D H' s' hD ?_
      rw [hL]
      unfold pla
      rw [if_neg e0, show ((i : Int) - 1).toNat = i - 1 by omega]
end
end W

set_option Elab.async false
set_option linter.all false
set_option maxRecDepth 100000
set_option maxHeartbeats 4000000
namespace W
open PySem L2 WM
abbrev sBest : Stmt := top 31
abbrev psBest : List Str := ["found"]
theorem scBest : FnScope ["found", "total", "plans", "least"] ["found"] (defScope sBest) := ⟨rfl, rfl, rfl, by decide +kernel, rfl, by decide +kernel, by decide +kernel⟩
theorem lBest_0 : Loc (defScope sBest) "found" := Or.inl (by decide +kernel)
theorem vBest_0 : Vis (defScope sBest) "found" := Or.inl (by decide +kernel)
theorem lBest_3 : Loc (defScope sBest) "least" := Or.inr (by decide +kernel)
theorem vBest_3 : Vis (defScope sBest) "least" := Or.inr (Or.inl (by decide +kernel))
section
variable {P : Program} {w : World} {K : PySem.W.Frag} {mg : Str → Option Value} {base : Heap}
def spBest : Sp := fun vs H Q _ => ∃ (a : Addr) (qs : List Addr) (xs : List (Int × Int)), vs = [.ref a] ∧ H a = some (.lst (qs.map V.ref)) ∧ All2 (Tr2 H) qs xs ∧ 0 < xs.length ∧ xs.length ≤ 1000 ∧
  ∀ (k c : Int) q H', Same H H' → H q = none → k ∈ xs.map (·.1) → (∀ y ∈ xs.map (·.1), k ≤ y) → c = ((xs.filter fun x => decide (x.1 = k)).map (·.2)).sum → Tr2 H' q (k, c) → Q (.ref q) H'
theorem cal_best (D : Def K mg "best_of" sBest psBest) (T : Txt mg) : Cal P w K mg base CX0 1 "best_of" psBest spBest := cal_mk D fun f fd F => by
  refine F.ok scBest (fun vs H Q E h => ?_) (fun cdv A outer s H vs Q E hr h => ?_)
  · obtain ⟨a, qs, xs, rfl, _⟩ := h
    rfl
  · obtain ⟨a, qs, xs, rfl, ha, hqx, h0, h1000, k⟩ := h
    have hlen := hqx.length
    have hz := zip_facts hqx
    refine ⟨_, (@pss_cons _ _ _ _ _ (@ps_set _ _ 3 _ _ _ _ scBest.nd rfl lBest_3 (@pe_callB _ _ _ _ _ _ _ _ _ (cr_min rfl) (by rfl) T.min (by decide +kernel) (@pa_cG _ _ _ _ _ _ _ _ (@pe_lc _ _ _ _ _ _ [("total", 1), ("plans", 2)] _ _ (gTup K 2 (gCons (gName 1) (gCons (gName 2) gNil))) _ _ (by rfl) scBest.nd (@pi_list _ _ _ _ (@pv _ 0 _ _ (by rfl) vBest_0 (by decide) (by decide))) (blkOk_by (own := [("total", 1), ("plans", 2)]) (N := ["found", "total", "plans", "least"]) (sc := defScope sBest) (by decide +kernel)) (fun _ _ _ _ _ => (@pg_tup _ _ _ _ _ _ rfl (@pgs_cons _ _ _ _ _ (@pg_name _ _ 1 _ scBest.nd rfl (Or.inl rfl) (by first | exact .inl rfl | exact .inr rfl | assumption)) (@pgs_cons _ _ _ _ _ (@pg_name _ _ 2 _ scBest.nd rfl (Or.inl rfl) (by first | exact .inl rfl | exact .inr rfl | assumption)) (@pgs_nil _) (by rfl)) (by rfl)) (by rfl) (by rfl))) (fun _ _ _ _ _ => (@pts_nil _)) (fun _ _ _ _ _ => (@pv _ 1 _ _ (by rfl) (by first | exact Or.inl rfl | exact Or.inr (Or.inl rfl) | exact Or.inr (Or.inr rfl)) (by decide) (by decide))) (by intro _ ; rfl)) (@pa_nil _)) (by decide) (by decide) (by rfl) (by rfl)) (by rfl) (by first | exact .inl rfl | exact .inr rfl | assumption)) (@pss_one _ _ _ (@ps_ret _ _ _ _ (@pe_tup _ _ _ _ _ (@pa_cN _ _ _ _ _ _ (@pv _ 3 _ _ (by rfl) vBest_3 (by decide) (by decide)) (@pa_cK _ _ _ _ _ _ _ _ (@pe_callB _ _ _ _ _ _ _ _ _ (cr_sum rfl) (by rfl) T.sum (by decide +kernel) (@pa_cG _ _ _ _ _ _ _ _ (@pe_lc _ _ _ _ _ _ [("total", 1), ("plans", 2)] _ _ (gTup K 2 (gCons (gName 1) (gCons (gName 2) gNil))) _ _ (by rfl) scBest.nd (@pi_list _ _ _ _ (@pv _ 0 _ _ (by rfl) vBest_0 (by decide) (by decide))) (blkOk_by (own := [("total", 1), ("plans", 2)]) (N := ["found", "total", "plans", "least"]) (sc := defScope sBest) (by decide +kernel)) (fun _ _ _ _ _ => (@pg_tup _ _ _ _ _ _ rfl (@pgs_cons _ _ _ _ _ (@pg_name _ _ 1 _ scBest.nd rfl (Or.inl rfl) (by first | exact .inl rfl | exact .inr rfl | assumption)) (@pgs_cons _ _ _ _ _ (@pg_name _ _ 2 _ scBest.nd rfl (Or.inl rfl) (by first | exact .inl rfl | exact .inr rfl | assumption)) (@pgs_nil _) (by rfl)) (by rfl)) (by rfl) (by rfl))) (fun _ _ _ _ _ => (@pts_one _ _ _ (@pt_cmpR _ _ _ _ _ _ _ _ op_eq (@pv _ 1 _ _ (by rfl) (by first | exact Or.inl rfl | exact Or.inr (Or.inl rfl) | exact Or.inr (Or.inr rfl)) (by decide) (by decide)) (@pv _ 3 _ _ (by rfl) (by first | exact Or.inl rfl | exact Or.inr (Or.inl rfl) | exact Or.inr (Or.inr rfl)) (by decide) (by decide)) (nomark _)))) (fun _ _ _ _ _ => (@pv _ 2 _ _ (by rfl) (by first | exact Or.inl rfl | exact Or.inr (Or.inl rfl) | exact Or.inr (Or.inr rfl)) (by decide) (by decide))) (by intro _ ; rfl)) (@pa_nil _)) (by decide) (by decide) (by rfl) (by rfl)) (@pa_nil _))))))), ?_⟩
    refine ⟨_, rfl, a, rfl, ⟨_, SqL.of ha⟩, fun D hD => ?_⟩
    refine lc_listP (as := qs.zip xs) (vf := fun y => V.ref y.1) (fun _ => true) (fun y => V.int y.2.1) (by rw [zip_refs hlen]; exact SqL.of ha) hD (by rw [List.length_zip]; exact small1000 (by omega)) ?_ ?_
    · intro y H2 hy s2 Qy Qn ky kn
      refine ⟨y.1, _, rfl, SqT.of (s2 _ _ (hz y hy)), rfl, _, _, rfl, _, _, rfl, rfl, rfl, ?_⟩
      dsimp only [tYes]
      exact iteT ⟨_, rfl, ky rfl _ (Same.refl _)⟩
    intro H2 s2 hD2
    rw [List.filter_eq_self.mpr (fun _ _ => rfl), zip_snd_map hlen (fun x : Int × Int => V.int x.1)] at hD2
    refine ⟨D, xs.map (·.1), rfl, (by rw [List.map_map]; exact SqL.of hD2), by rw [List.length_map]; exact h0, fun kk hk1 hk2 => ?_⟩
    refine ⟨_, rfl, _, rfl, a, rfl, ⟨_, SqL.of (s2 _ _ ha)⟩, fun D2 hD2' => ?_⟩
    refine lc_listP (as := qs.zip xs) (vf := fun y => V.ref y.1) (fun y => decide (y.2.1 = kk)) (fun y => V.int y.2.2) (by rw [zip_refs hlen]; exact SqL.of (s2 _ _ ha)) hD2' (by rw [List.length_zip]; exact small1000 (by omega)) ?_ ?_
    · intro y H3 hy s3 Qy Qn ky kn
      refine ⟨y.1, _, rfl, SqT.of (s3 _ _ (s2 _ _ (hz y hy))), rfl, _, _, rfl, _, _, rfl, rfl, rfl, ?_⟩
      refine ⟨_, rfl, _, rfl, rfl, _, rfl, ?_⟩
      rw [show decide (V.int y.2.1 = V.int kk) = decide (y.2.1 = kk) from decide_eq_decide.mpr ⟨V.int.inj, congrArg V.int⟩]
      cases e : decide (y.2.1 = kk) with
      | true =>
        rw [e] at ky
        exact iteT ⟨_, rfl, ky rfl _ (Same.refl _)⟩
      | false =>
        rw [e] at kn
        exact iteF (kn rfl _ (Same.refl _))
    intro H3 s3 hD3
    have e3 := zip_filter_map hlen (fun x : Int × Int => decide (x.1 = kk)) (fun x : Int × Int => V.int x.2)
    rw [e3] at hD3
    refine ⟨D2, (xs.filter fun x => decide (x.1 = kk)).map (·.2), rfl, (by rw [List.map_map]; exact SqL.of hD3), (by show 2 ≤ sizeLine; decide), fun q hq => ?_⟩
    exact k kk _ q _ ((s2.trans s3).trans (Same.new hq)) (s2.free (s3.free hq)) hk1 hk2 rfl upd_same
end
end W

set_option Elab.async false
set_option linter.all false
set_option maxRecDepth 100000
set_option maxHeartbeats 4000000
namespace W
open PySem L2 WM

abbrev sNOn : Stmt := top 32
abbrev psNOn : List Str := ["wheel", "stand", "turns", "slack", "behind"]
theorem scNOn : FnScope ["wheel", "stand", "turns", "slack", "behind", "found", "turn", "rest", "plans"] ["wheel", "stand", "turns", "slack", "behind"] (defScope sNOn) := ⟨rfl, rfl, rfl, by decide +kernel, rfl, by decide +kernel, by decide +kernel⟩
theorem lNOn_0 : Loc (defScope sNOn) "wheel" := Or.inl (by decide +kernel)
theorem vNOn_0 : Vis (defScope sNOn) "wheel" := Or.inl (by decide +kernel)
theorem lNOn_1 : Loc (defScope sNOn) "stand" := Or.inl (by decide +kernel)
theorem vNOn_1 : Vis (defScope sNOn) "stand" := Or.inl (by decide +kernel)
theorem lNOn_2 : Loc (defScope sNOn) "turns" := Or.inl (by decide +kernel)
theorem vNOn_2 : Vis (defScope sNOn) "turns" := Or.inl (by decide +kernel)
theorem lNOn_3 : Loc (defScope sNOn) "slack" := Or.inl (by decide +kernel)
theorem vNOn_3 : Vis (defScope sNOn) "slack" := Or.inl (by decide +kernel)
theorem lNOn_4 : Loc (defScope sNOn) "behind" := Or.inl (by decide +kernel)
theorem vNOn_4 : Vis (defScope sNOn) "behind" := Or.inl (by decide +kernel)
theorem lNOn_5 : Loc (defScope sNOn) "found" := Or.inl (by decide +kernel)
theorem vNOn_5 : Vis (defScope sNOn) "found" := Or.inl (by decide +kernel)
theorem lNOn_6 : Loc (defScope sNOn) "turn" := Or.inl (by decide +kernel)
theorem vNOn_6 : Vis (defScope sNOn) "turn" := Or.inl (by decide +kernel)
theorem lNOn_7 : Loc (defScope sNOn) "rest" := Or.inl (by decide +kernel)
theorem vNOn_7 : Vis (defScope sNOn) "rest" := Or.inl (by decide +kernel)
theorem lNOn_8 : Loc (defScope sNOn) "plans" := Or.inl (by decide +kernel)
theorem vNOn_8 : Vis (defScope sNOn) "plans" := Or.inl (by decide +kernel)
section
variable {P : Program} {w : World} {K : PySem.W.Frag} {mg : Str → Option Value} {base : Heap}
def spNOn (K : PySem.W.Frag) : Sp := fun vs H Q _ => ∃ (l : List Nat) (a : Addr) (st : Std) (b : Addr) (c : Nat) (o : List Nat) (s : Int) (d : Addr) (m : List (Std × (Int × Int))), vs = [.str (txt l), .ref a, .ref b, .int s, .ref d] ∧ Wheel l ∧ (∀ x ∈ c :: o, x ∈ l) ∧ SqT K H a [.int st.1, .int st.2] ∧ -1 ≤ st.2 ∧ st.2 ≤ 1 ∧
  H b = some (.lst ((tts l st.1 c).map V.int)) ∧ DicAt H d m ∧ (∀ t ∈ tts l st.1 c, lk m (bh l st t) = some (nd l s o (bh l st t))) ∧ ∀ q H', Same H H' → H q = none → Tr2 H' q (nd l s (c :: o) st) → Q (.ref q) H'
theorem cal_non (D : Def K mg "need_on" sNOn psNOn) (T : Txt mg) (CSb : Cal P w K mg base CX0 2 "stand_behind" ["wheel", "stand", "turn"] (spSBeh K)) (CTc : Cal P w K mg base CX0 1 "turn_cost" ["way", "turn", "slack"] spTCost) (CBe : Cal P w K mg base CX0 1 "best_of" ["found"] spBest) :
    Cal P w K mg base CX0 3 "need_on" psNOn (spNOn K) := cal_mk D fun f fd F => by
  obtain ⟨fSb, dSb, GSb, kSb, bSb, mSb⟩ := CSb
  obtain ⟨fTc, dTc, GTc, kTc, bTc, mTc⟩ := CTc
  obtain ⟨fBe, dBe, GBe, kBe, bBe, mBe⟩ := CBe
  refine F.ok scNOn (fun vs H Q E h => ?_) (fun cdv A outer s H vs Q E hr h => ?_)
  · obtain ⟨l, a, st, b, c, o, s, d, m, rfl, _⟩ := h
    rfl
  · obtain ⟨l, a, st, b, c, o, sl, d, m, rfl, hW, hin, hS, w0, w1, hb, hd, hm, k⟩ := h
    have h1 := hW.pos
    have h2 := hW.le
    have hu := hu_of hr
    have htl := tts_len l st.1 c
    refine ⟨_, (@pss_cons _ _ _ _ _ (@ps_set _ _ 5 _ _ _ _ scNOn.nd rfl lNOn_5 (@pe_lst _ _ _ _ (@pa_nil _)) (by rfl) (by first | exact .inl rfl | exact .inr rfl | assumption)) (@pss_cons _ _ _ _ _ (@ps_for _ _ _ _ _ _ _ _ PassesOwn.never rfl (@pi_list _ _ _ _ (@pv _ 2 _ _ (by rfl) vNOn_2 (by decide) (by decide))) (@pg_name _ _ 6 _ scNOn.nd rfl lNOn_6 (by first | exact .inl rfl | exact .inr rfl | assumption)) (@pss_cons _ _ _ _ _ (@ps_asg _ _ _ _ _ _ (@pe_dget _ _ _ _ _ _ hu (@pv _ 4 _ _ (by rfl) vNOn_4 (by decide) (by decide)) (@pe_call _ _ _ _ _ _ _ _ _ _ _ _ _ _ _ _ GSb (hr.mono (by decide)) (by rfl) mSb kSb bSb .nil pass0 (@pa_cN _ _ _ _ _ _ (@pv _ 0 _ _ (by rfl) vNOn_0 (by decide) (by decide)) (@pa_cN _ _ _ _ _ _ (@pv _ 1 _ _ (by rfl) vNOn_1 (by decide) (by decide)) (@pa_cN _ _ _ _ _ _ (@pv _ 6 _ _ (by rfl) vNOn_6 (by decide) (by decide)) (@pa_nil _)))) (by decide) (by rfl) (by rfl)) (fun _ _ => rfl)) (@pg_tup _ _ _ _ _ _ rfl (@pgs_cons _ _ _ _ _ (@pg_name _ _ 7 _ scNOn.nd rfl lNOn_7 (by first | exact .inl rfl | exact .inr rfl | assumption)) (@pgs_cons _ _ _ _ _ (@pg_name _ _ 8 _ scNOn.nd rfl lNOn_8 (by first | exact .inl rfl | exact .inr rfl | assumption)) (@pgs_nil _) (by rfl)) (by rfl)) (by rfl) (by rfl)) (by rfl) (by rfl) (by rfl)) (@pss_one _ _ _ (@ps_expr _ _ _ _ (@pe_bm _ _ _ _ _ _ _ _ _ _ _ _ PySem.F.plainAttrs_list PySem.F.slot_list_append PySem.F.type_list_append mt_append (@pv _ 5 _ _ (by rfl) vNOn_5 (by decide) (by decide)) (@pa_cT _ _ _ _ _ _ _ (@pe_tup _ _ _ _ _ (@pa_cB _ _ _ _ _ _ _ _ (@pe_op _ _ _ _ _ _ _ _ op_add (@pe_call _ _ _ _ _ _ _ _ _ _ _ _ _ _ _ _ GTc (hr.mono (by decide)) (by rfl) mTc kTc bTc .nil pass0 (@pa_cS _ _ _ _ _ _ _ (@pe_ix _ _ _ _ _ _ _ ix_tup (@pv _ 1 _ _ (by rfl) vNOn_1 (by decide) (by decide)) (@pe_int _ _ _ _) (fun _ _ => rfl)) (@pa_cN _ _ _ _ _ _ (@pv _ 6 _ _ (by rfl) vNOn_6 (by decide) (by decide)) (@pa_cN _ _ _ _ _ _ (@pv _ 3 _ _ (by rfl) vNOn_3 (by decide) (by decide)) (@pa_nil _)))) (by decide) (by rfl) (by rfl)) (@pv _ 7 _ _ (by rfl) vNOn_7 (by decide) (by decide))) (@pa_cN _ _ _ _ _ _ (@pv _ 8 _ _ (by rfl) vNOn_8 (by decide) (by decide)) (@pa_nil _)))) (@pa_nil _)) (by rfl) (by rfl) (by rfl) (by rfl) (by rfl)) (by rfl)))) (by intro _ ; rfl)) (@pss_one _ _ _ (@ps_ret _ _ _ _ (@pe_call _ _ _ _ _ _ _ _ _ _ _ _ _ _ _ _ GBe (hr.mono (by decide)) (by rfl) mBe kBe bBe .nil pass0 (@pa_cN _ _ _ _ _ _ (@pv _ 5 _ _ (by rfl) vNOn_5 (by decide) (by decide)) (@pa_nil _)) (by decide) (by rfl) (by rfl)))))), ?_⟩
    refine ⟨(by show 0 ≤ sizeLine; decide), fun F0 hF0 => ?_⟩
    refine ⟨_, rfl, b, rfl, ⟨_, SqL.of ((Same.new hF0) _ _ hb)⟩, for_list (xs := (tts l st.1 c).map V.int) (fun i σ H2 => ∃ (o6 o7 o8 : Option V) (qs : List Addr), σ = [some (.str (txt l)), some (.ref a), some (.ref b), some (.int sl), some (.ref d), some (.ref F0), o6, o7, o8] ∧ Same H H2 ∧ H2 F0 = some (.lst (qs.map V.ref)) ∧ All2 (Tr2 H2) qs (((tts l st.1 c).take i).map fun t => (tc st.2 t sl + (nd l sl o (bh l st t)).1, (nd l sl o (bh l st t)).2))) ?_ ?_ ?_ ?_⟩
    · exact ⟨_, _, _, [], rfl, Same.new hF0, upd_same, .nil⟩
    · rintro i σ H2 _ ⟨o6, o7, o8, qs, rfl, s2, _⟩
      exact SqL.of (s2 _ _ hb)
    · rintro i v σ H2 hv ⟨o6, o7, o8, qs, rfl, s2, hF2, hqs⟩
      rw [List.getElem?_map] at hv
      cases et : (tts l st.1 c)[i]? with
      | none => rw [et] at hv; cases hv
      | some t =>
        rw [et] at hv
        cases hv
        have htm := List.mem_of_getElem? et
        have etk : (tts l st.1 c).take (i + 1) = (tts l st.1 c).take i ++ [t] := by rw [List.take_add_one, et]; rfl
        have hil := (List.getElem?_eq_some_iff.mp et).1
        refine ⟨_, rfl, _, rfl, _, rfl, _, rfl, l, a, st, t, rfl, hW, hS.same s2, fun q3 H3 s3 hq3 hq33 => ?_⟩
        obtain ⟨qv, dg, hqv⟩ := ((hd.same s2).same s3).get (hm t htm) hq33
        refine ⟨d, _, rfl, dg, qv, _, rfl, SqT.of hqv, rfl, _, _, rfl, _, _, rfl, rfl, ?_⟩
        have hF3 := s3 _ _ hF2
        refine ⟨_, rfl, .inl ⟨rfl, _, SqL.of hF3⟩, ?_⟩
        refine ⟨_, rfl, a, _, _, _, rfl, rfl, (hS.same s2).same s3, atI_nat (j := 1) rfl, _, rfl, _, rfl, st.2, t, sl, rfl, w0, w1, _, rfl, _, _, rfl, rfl, _, rfl, (by show 2 ≤ sizeLine; decide), fun q4 hq4 => ?_⟩
        have hF4 := (Same.new (o := .tup [.int (tc st.2 t sl + (nd l sl o (bh l st t)).1), .int (nd l sl o (bh l st t)).2]) hq4) _ _ hF3
        have hql : qs.length = i := by rw [hqs.length, List.length_map, List.length_take]; omega
        refine ⟨F0, _, _, rfl, rfl, hF4, by rw [List.length_map, hql]; exact small1000 (by omega), ?_⟩
        refine ⟨_, _, _, qs ++ [q4], rfl, ((s2.trans s3).trans (Same.new hq4)).upd' hF0, by rw [upd_same, List.map_append]; rfl, ?_⟩
        rw [etk, List.map_append]
        refine All2.snoc (hqs.imp fun q x _ e => ((e.same s3).same (Same.new hq4)).updL hF4) ?_
        exact Tr2.updL upd_same hF4
    · rintro σ H2 ⟨o6, o7, o8, qs, rfl, s2, hF2, hqs⟩
      rw [List.length_map, List.take_length] at hqs
      obtain ⟨t0, ht0⟩ := tts_ne (p := st.1) h1 (hin c List.mem_cons_self)
      refine ⟨_, rfl, F0, qs, _, rfl, hF2, hqs, ?_, ?_, fun kk cc q H3 s3 hq hk1 hk2 hc hq3 => ?_⟩
      · rw [List.length_map]; exact List.length_pos_of_mem ht0
      · rw [List.length_map]; omega
      · refine k q H3 (s2.trans s3) (s2.free hq) ?_
        rw [nd_cons (k := kk) (n := cc) h1 (fun x hx => hin x (List.mem_cons_of_mem _ hx)) ?_ ?_ ?_]
        · exact hq3
        · rw [List.map_map] at hk1; exact hk1
        · rw [List.map_map] at hk2; exact hk2
        · rw [hc, List.filter_map, List.map_map]; rfl
end
end W

set_option Elab.async false
set_option linter.all false
set_option maxRecDepth 100000
set_option maxHeartbeats 4000000
namespace W
open PySem L2 WM

abbrev sRAh : Stmt := top 33
abbrev psRAh : List Str := ["wheel", "places", "sign", "slack", "behind"]
theorem scRAh : FnScope ["wheel", "places", "sign", "slack", "behind", "row", "place", "turns", "way"] ["wheel", "places", "sign", "slack", "behind"] (defScope sRAh) := ⟨rfl, rfl, rfl, by decide +kernel, rfl, by decide +kernel, by decide +kernel⟩
theorem lRAh_0 : Loc (defScope sRAh) "wheel" := Or.inl (by decide +kernel)
theorem vRAh_0 : Vis (defScope sRAh) "wheel" := Or.inl (by decide +kernel)
theorem lRAh_1 : Loc (defScope sRAh) "places" := Or.inl (by decide +kernel)
theorem vRAh_1 : Vis (defScope sRAh) "places" := Or.inl (by decide +kernel)
theorem lRAh_2 : Loc (defScope sRAh) "sign" := Or.inl (by decide +kernel)
theorem vRAh_2 : Vis (defScope sRAh) "sign" := Or.inl (by decide +kernel)
theorem lRAh_3 : Loc (defScope sRAh) "slack" := Or.inl (by decide +kernel)
theorem vRAh_3 : Vis (defScope sRAh) "slack" := Or.inl (by decide +kernel)
theorem lRAh_4 : Loc (defScope sRAh) "behind" := Or.inl (by decide +kernel)
theorem vRAh_4 : Vis (defScope sRAh) "behind" := Or.inl (by decide +kernel)
theorem lRAh_5 : Loc (defScope sRAh) "row" := Or.inl (by decide +kernel)
theorem vRAh_5 : Vis (defScope sRAh) "row" := Or.inl (by decide +kernel)
theorem lRAh_6 : Loc (defScope sRAh) "place" := Or.inl (by decide +kernel)
theorem vRAh_6 : Vis (defScope sRAh) "place" := Or.inl (by decide +kernel)
theorem lRAh_7 : Loc (defScope sRAh) "turns" := Or.inl (by decide +kernel)
theorem vRAh_7 : Vis (defScope sRAh) "turns" := Or.inl (by decide +kernel)
theorem lRAh_8 : Loc (defScope sRAh) "way" := Or.inl (by decide +kernel)
theorem vRAh_8 : Vis (defScope sRAh) "way" := Or.inl (by decide +kernel)
section
variable {P : Program} {w : World} {K : PySem.W.Frag} {mg : Str → Option Value} {base : Heap}
def ways3 : List V := [.int (-1), .int 0, .int 1]
theorem ways_at {i : Nat} {v : V} (h : ways3[i]? = some v) : i < 3 ∧ v = .int ((i : Int) - 1) := by
  match i, h with
  | 0, h => cases h; exact ⟨by decide, rfl⟩
  | 1, h => cases h; exact ⟨by decide, rfl⟩
  | 2, h => cases h; exact ⟨by decide, rfl⟩
def spRAh : Sp := fun vs H Q _ => ∃ (l : List Nat) (b : Addr) (ps : List Nat) (c : Nat) (o : List Nat) (s : Int) (d : Addr) (m : List (Std × (Int × Int))), vs = [.str (txt l), .ref b, .str (txt [c]), .int s, .ref d] ∧ Wheel l ∧ (∀ x ∈ c :: o, x ∈ l) ∧ H b = some (.lst (ps.map fun j : Nat => V.int j)) ∧ ps.length ≤ 30 ∧ DicAt H d m ∧
  (∀ j ∈ ps, ∀ w : Int, -1 ≤ w → w ≤ 1 → ∀ t ∈ tts l (j : Int) c, lk m (bh l ((j : Int), w) t) = some (nd l s o (bh l ((j : Int), w) t))) ∧
  ∀ e m' H', Same H H' → H e = none → DicAt H' e m' → (∀ j ∈ ps, ∀ w : Int, -1 ≤ w → w ≤ 1 → lk m' ((j : Int), w) = some (nd l s (c :: o) ((j : Int), w))) → Q (.ref e) H'
theorem cal_rah (D : Def K mg "row_ahead" sRAh psRAh) (T : Txt mg) (g_WAYS : GTup K mg "WAYS" ways3) (CTt : Cal P w K mg base CX0 1 "turns_to" ["wheel", "place", "sign"] spTTo) (CNo : Cal P w K mg base CX0 3 "need_on" ["wheel", "stand", "turns", "slack", "behind"] (spNOn K)) :
    Cal P w K mg base CX0 4 "row_ahead" psRAh spRAh := cal_mk D fun f fd F => by
  obtain ⟨fTt, dTt, GTt, kTt, bTt, mTt⟩ := CTt
  obtain ⟨fNo, dNo, GNo, kNo, bNo, mNo⟩ := CNo
  refine F.ok scRAh (fun vs H Q E h => ?_) (fun cdv A outer s H vs Q E hr h => ?_)
  · obtain ⟨l, b, ps, c, o, s, d, m, rfl, _⟩ := h
    rfl
  · obtain ⟨l, b, ps, c, o, sl, d, m, rfl, hW, hin, hb, hps, hd, hm, k⟩ := h
    have h1 := hW.pos
    have h2 := hW.le
    have hu := hu_of hr
    refine ⟨_, (@pss_cons _ _ _ _ _ (@ps_set _ _ 5 _ _ _ _ scRAh.nd rfl lRAh_5 (@pe_dnewT _ _) (by rfl) (by first | exact .inl rfl | exact .inr rfl | assumption)) (@pss_cons _ _ _ _ _ (@ps_for _ _ _ _ _ _ _ _ PassesOwn.never rfl (@pi_list _ _ _ _ (@pv _ 1 _ _ (by rfl) vRAh_1 (by decide) (by decide))) (@pg_name _ _ 6 _ scRAh.nd rfl lRAh_6 (by first | exact .inl rfl | exact .inr rfl | assumption)) (@pss_cons _ _ _ _ _ (@ps_set _ _ 7 _ _ _ _ scRAh.nd rfl lRAh_7 (@pe_call _ _ _ _ _ _ _ _ _ _ _ _ _ _ _ _ GTt (hr.mono (by decide)) (by rfl) mTt kTt bTt .nil pass0 (@pa_cN _ _ _ _ _ _ (@pv _ 0 _ _ (by rfl) vRAh_0 (by decide) (by decide)) (@pa_cN _ _ _ _ _ _ (@pv _ 6 _ _ (by rfl) vRAh_6 (by decide) (by decide)) (@pa_cN _ _ _ _ _ _ (@pv _ 2 _ _ (by rfl) vRAh_2 (by decide) (by decide)) (@pa_nil _)))) (by decide) (by rfl) (by rfl)) (by rfl) (by first | exact .inl rfl | exact .inr rfl | assumption)) (@pss_one _ _ _ (@ps_for _ _ _ _ _ _ _ _ PassesOwn.never rfl (@pi_tup _ _ _ _ (@pe_gref _ _ _ _ (by rfl) g_WAYS (by decide))) (@pg_name _ _ 8 _ scRAh.nd rfl lRAh_8 (by first | exact .inl rfl | exact .inr rfl | assumption)) (@pss_one _ _ _ (@ps_dput _ _ _ _ _ _ _ _ _ hu (@pv _ 5 _ _ (by rfl) vRAh_5 (by decide) (by decide)) (@pe_tup _ _ _ _ _ (@pa_cN _ _ _ _ _ _ (@pv _ 6 _ _ (by rfl) vRAh_6 (by decide) (by decide)) (@pa_cN _ _ _ _ _ _ (@pv _ 8 _ _ (by rfl) vRAh_8 (by decide) (by decide)) (@pa_nil _)))) (@pe_call _ _ _ _ _ _ _ _ _ _ _ _ _ _ _ _ GNo (hr.mono (by decide)) (by rfl) mNo kNo bNo .nil pass0 (@pa_cN _ _ _ _ _ _ (@pv _ 0 _ _ (by rfl) vRAh_0 (by decide) (by decide)) (@pa_cT _ _ _ _ _ _ _ (@pe_tup _ _ _ _ _ (@pa_cN _ _ _ _ _ _ (@pv _ 6 _ _ (by rfl) vRAh_6 (by decide) (by decide)) (@pa_cN _ _ _ _ _ _ (@pv _ 8 _ _ (by rfl) vRAh_8 (by decide) (by decide)) (@pa_nil _)))) (@pa_cN _ _ _ _ _ _ (@pv _ 7 _ _ (by rfl) vRAh_7 (by decide) (by decide)) (@pa_cN _ _ _ _ _ _ (@pv _ 3 _ _ (by rfl) vRAh_3 (by decide) (by decide)) (@pa_cN _ _ _ _ _ _ (@pv _ 4 _ _ (by rfl) vRAh_4 (by decide) (by decide)) (@pa_nil _)))))) (by decide) (by rfl) (by rfl)) rfl)) (by intro _ ; rfl)))) (by intro _ ; rfl)) (@pss_one _ _ _ (@ps_ret _ _ _ _ (@pv _ 5 _ _ (by rfl) vRAh_5 (by decide) (by decide)))))), ?_⟩
    refine fun R hR => ?_
    refine ⟨_, rfl, b, rfl, ⟨_, SqL.of ((Same.new hR) _ _ hb)⟩, for_list (xs := ps.map fun j : Nat => V.int j) (fun i σ H2 => ∃ (o6 o7 o8 : Option V) (m' : List (Std × (Int × Int))), σ = [some (.str (txt l)), some (.ref b), some (.str (txt [c])), some (.int sl), some (.ref d), some (.ref R), o6, o7, o8] ∧ Same H H2 ∧ DicAt H2 R m' ∧ m'.length ≤ 3 * i ∧ ∀ j ∈ ps.take i, ∀ w : Int, -1 ≤ w → w ≤ 1 → lk m' ((j : Int), w) = some (nd l sl (c :: o) ((j : Int), w))) ?_ ?_ ?_ ?_⟩
    · exact ⟨_, _, _, [], rfl, Same.new hR, DicAt.nil, Nat.zero_le _, fun j hj => by rw [List.take_zero] at hj; cases hj⟩
    · rintro i σ H2 _ ⟨o6, o7, o8, m', rfl, s2, _⟩
      exact SqL.of (s2 _ _ hb)
    · rintro i v σ H2 hv ⟨o6, o7, o8, m', rfl, s2, hR2, hml, hmm⟩
      rw [List.getElem?_map] at hv
      cases ej : ps[i]? with
      | none => rw [ej] at hv; cases hv
      | some j =>
        rw [ej] at hv
        cases hv
        have hjm := List.mem_of_getElem? ej
        have hil := (List.getElem?_eq_some_iff.mp ej).1
        have etk : ps.take (i + 1) = ps.take i ++ [j] := by rw [List.take_add_one, ej]; rfl
        refine ⟨_, rfl, _, rfl, _, rfl, l, (j : Int), c, rfl, hW, fun D0 H3 s3 hD0 hD03 => ?_⟩
        refine fun aW hWs => ⟨aW, rfl, ⟨_, hWs H3⟩, for_tup (xs := ways3) (fun x σ H4 => ∃ (o8 : Option V) (m' : List (Std × (Int × Int))), σ = [some (.str (txt l)), some (.ref b), some (.str (txt [c])), some (.int sl), some (.ref d), some (.ref R), some (.int (j : Int)), some (.ref D0), o8] ∧ Same H H4 ∧ H4 D0 = some (.lst ((tts l (j : Int) c).map V.int)) ∧ DicAt H4 R m' ∧ m'.length ≤ 3 * i + x ∧ (∀ j ∈ ps.take i, ∀ w : Int, -1 ≤ w → w ≤ 1 → lk m' ((j : Int), w) = some (nd l sl (c :: o) ((j : Int), w))) ∧ ∀ w : Int, -1 ≤ w → w < (x : Int) - 1 → lk m' ((j : Int), w) = some (nd l sl (c :: o) ((j : Int), w))) ?_ (fun _ _ H _ _ => hWs H) ?_ ?_⟩
        · exact ⟨_, m', rfl, s2.trans s3, hD03, hR2.same s3, by omega, hmm, fun w w0 w1 => by omega⟩
        · rintro x v σ H4 hv ⟨o8', m', rfl, s4, hD4, hR4, hml, hmm, hmw⟩
          obtain ⟨hx3, rfl⟩ := ways_at hv
          refine ⟨_, rfl, _, rfl, _, rfl, (by show 2 ≤ sizeLine; decide), fun q1 hq1 => ?_⟩
          have s45 := Same.new (o := .tup [.int (j : Int), .int ((x : Int) - 1)]) hq1
          refine ⟨_, rfl, _, rfl, _, rfl, l, q1, ((j : Int), (x : Int) - 1), D0, c, o, sl, d, m, rfl, hW, hin, SqT.of upd_same, (by dsimp only; omega), (by dsimp only; omega), s45 _ _ hD4, (hd.same s4).same s45, hm j hjm _ (by omega) (by omega), fun q2 H5 s5 hq2 hq25 => ?_⟩
          have s46 := s45.trans s5
          refine ⟨_, rfl, _, rfl, _, rfl, (by show 2 ≤ sizeLine; decide), fun q3 hq3 => ?_⟩
          have s47 := s46.trans (Same.new (o := .tup [.int (j : Int), .int ((x : Int) - 1)]) hq3)
          obtain ⟨kvs, hRk, dp, hR6⟩ := DicAt.put (st := ((j : Int), (x : Int) - 1)) (hR4.same s47) upd_same (hq25.same (Same.new hq3)) (small1000 (by omega))
          refine ⟨R, _, rfl, dp, ?_⟩
          have hDR : D0 ≠ R := ne_of (s47 _ _ hD4) hRk (fun z => nomatch z)
          refine ⟨_, pt m' ((j : Int), (x : Int) - 1) (nd l sl (c :: o) ((j : Int), (x : Int) - 1)), rfl, (s4.trans s47).upd' hR, by rw [upd_ne hDR]; exact s47 _ _ hD4, hR6, Nat.le_trans (pt_len _ _ _) (by omega), fun j' hj' w w0 w1 => ?_, fun w w0 w1 => ?_⟩
          · rw [lk_pt]
            by_cases e : ((j' : Int), w) = ((j : Int), (x : Int) - 1)
            · rw [if_pos e, e]
            · rw [if_neg e]; exact hmm j' hj' w w0 w1
          · rw [lk_pt]
            by_cases e : ((j : Int), w) = ((j : Int), (x : Int) - 1)
            · rw [if_pos e, e]
            · rw [if_neg e]
              have : w ≠ (x : Int) - 1 := fun z => e (by rw [z])
              exact hmw w w0 (by omega)
        · rintro σ H4 ⟨o8', m', rfl, s4, hD4, hR4, hml, hmm, hmw⟩
          refine ⟨_, _, _, m', rfl, s4, hR4, (by have : ways3.length = 3 := rfl; omega), fun j' hj' w w0 w1 => ?_⟩
          rw [etk] at hj'
          rcases List.mem_append.mp hj' with hj' | hj'
          · exact hmm j' hj' w w0 w1
          · rw [List.mem_singleton.mp hj']
            exact hmw w w0 (by have : ways3.length = 3 := rfl; omega)
    · rintro σ H2 ⟨o6, o7, o8, m', rfl, s2, hR2, hml, hmm⟩
      rw [List.length_map, List.take_length] at hmm
      exact ⟨_, rfl, k R m' H2 s2 hR hR2 hmm⟩
end
end W

set_option Elab.async false
set_option linter.all false
set_option maxRecDepth 100000
set_option maxHeartbeats 4000000
namespace W
open PySem L2 WM

abbrev sNeeds : Stmt := top 34
abbrev psNeeds : List Str := ["wheel", "word", "slack"]
theorem scNeeds : FnScope ["wheel", "word", "slack", "place", "way", "rows", "at"] ["wheel", "word", "slack"] (defScope sNeeds) := ⟨rfl, rfl, rfl, by decide +kernel, rfl, by decide +kernel, by decide +kernel⟩
theorem lNeeds_0 : Loc (defScope sNeeds) "wheel" := Or.inl (by decide +kernel)
theorem vNeeds_0 : Vis (defScope sNeeds) "wheel" := Or.inl (by decide +kernel)
theorem lNeeds_1 : Loc (defScope sNeeds) "word" := Or.inl (by decide +kernel)
theorem vNeeds_1 : Vis (defScope sNeeds) "word" := Or.inl (by decide +kernel)
theorem lNeeds_2 : Loc (defScope sNeeds) "slack" := Or.inl (by decide +kernel)
theorem vNeeds_2 : Vis (defScope sNeeds) "slack" := Or.inl (by decide +kernel)
theorem lNeeds_5 : Loc (defScope sNeeds) "rows" := Or.inl (by decide +kernel)
theorem vNeeds_5 : Vis (defScope sNeeds) "rows" := Or.inl (by decide +kernel)
theorem lNeeds_6 : Loc (defScope sNeeds) "at" := Or.inl (by decide +kernel)
theorem vNeeds_6 : Vis (defScope sNeeds) "at" := Or.inl (by decide +kernel)
section
variable {P : Program} {w : World} {K : PySem.W.Frag} {mg : Str → Option Value} {base : Heap}
def NeedsAt (H : Hp) (R : Addr) (l : List Nat) (s : Int) (o : List Nat) : Prop := ∃ (ds : List Addr) (ms : List (List (Std × (Int × Int)))), H R = some (.lst (ds.map V.ref)) ∧ All2 (DicAt H) ds ms ∧ ms.length = o.length + 1 ∧ ∀ i m, ms[i]? = some m → NeedRow l s o i m
theorem NeedsAt.same {H H' : Hp} {R : Addr} {l : List Nat} {s : Int} {o : List Nat} (e : Same H H') (h : NeedsAt H R l s o) : NeedsAt H' R l s o := by
  obtain ⟨ds, ms, h1, h2, h3, h4⟩ := h
  exact ⟨ds, ms, e _ _ h1, h2.imp fun a m _ r => r.same e, h3, h4⟩
theorem NeedsAt.updL {H : Hp} {R r : Addr} {l : List Nat} {s : Int} {o : List Nat} {u : HO} {xs : List V} (h : NeedsAt H R l s o) (hn : R ≠ r) (hr : H r = some (.lst xs)) : NeedsAt (upd H r u) R l s o := by
  obtain ⟨ds, ms, h1, h2, h3, h4⟩ := h
  exact ⟨ds, ms, by rw [upd_ne hn]; exact h1, h2.imp fun a m _ r => r.updL hr, h3, h4⟩
def spNeeds : Sp := fun vs H Q _ => ∃ (l o : List Nat) (s : Int), vs = [.str (txt l), .str (txt o), .int s] ∧ Wheel l ∧ o.length ≤ 200 ∧ (∀ c ∈ o, c ∈ l) ∧ ∀ R H', Same H H' → H R = none → NeedsAt H' R l s o → Q (.ref R) H'
theorem cal_needs (D : Def K mg "needs" sNeeds psNeeds) (T : Txt mg) (g_WAYS : GTup K mg "WAYS" ways3) (CPa : Cal P w K mg base CX0 6 "places_at" ["wheel", "word", "at"] spPlAt) (CRa : Cal P w K mg base CX0 4 "row_ahead" ["wheel", "places", "sign", "slack", "behind"] spRAh) :
    Cal P w K mg base CX0 7 "needs" psNeeds spNeeds := cal_mk D fun f fd F => by
  obtain ⟨fPa, dPa, GPa, kPa, bPa, mPa⟩ := CPa
  obtain ⟨fRa, dRa, GRa, kRa, bRa, mRa⟩ := CRa
  refine F.ok scNeeds (fun vs H Q E h => ?_) (fun cdv A outer s H vs Q E hr h => ?_)
  · obtain ⟨l, o, s, rfl, _⟩ := h
    rfl
  · obtain ⟨l, o, sl, rfl, hW, ho, hin, k⟩ := h
    have h1 := hW.pos
    have h2 := hW.le
    have hu := hu_of hr
    have hzo : (txt o).length ≤ sizeLine := by rw [txt_length]; exact Nat.le_of_lt (small1000 (by omega))
    refine ⟨_, (@pss_cons _ _ _ _ _ (@ps_set _ _ 5 _ _ _ _ scNeeds.nd rfl lNeeds_5 (@pe_lst _ _ _ _ (@pa_cons _ _ _ _ _ (@pe_dc2 _ _ _ _ _ _ _ _ _ _ [("place", 3), ("way", 4)] [4] _ _ _ (gName 3) (gName 4) _ _ _ _ _ (by rfl) (Nat.lt_of_succ_lt hu) (Or.inl rfl) scNeeds.nd (@pi_list _ _ _ _ (@pe_call _ _ _ _ _ _ _ _ _ _ _ _ _ _ _ _ GPa (hr.mono (by decide)) (by rfl) mPa kPa bPa .nil pass0 (@pa_cN _ _ _ _ _ _ (@pv _ 0 _ _ (by rfl) vNeeds_0 (by decide) (by decide)) (@pa_cN _ _ _ _ _ _ (@pv _ 1 _ _ (by rfl) vNeeds_1 (by decide) (by decide)) (@pa_cK _ _ _ _ _ _ _ _ (@pe_callB _ _ _ _ _ _ _ _ _ call_len_str (by rfl) T.len PySem.boot_len (@pa_cN _ _ _ _ _ _ (@pv _ 1 _ _ (by rfl) vNeeds_1 (by decide) (by decide)) (@pa_nil _)) (by decide) (by decide) (by rfl) (by rfl)) (@pa_nil _)))) (by decide) (by rfl) (by rfl))) (blkOk_by (own := [("place", 3), ("way", 4)]) (N := ["wheel", "word", "slack", "place", "way", "rows", "at"]) (sc := defScope sNeeds) (by decide +kernel)) (by decide) (fun _ _ _ _ _ => (@pg_name _ _ 3 _ scNeeds.nd rfl (Or.inl rfl) (by first | exact .inl rfl | exact .inr rfl | assumption))) (fun _ _ _ _ _ => (@pts_nil _)) (fun _ _ _ _ _ => (@pi_tupK _ K _ _ _ rfl (@pe_grefK _ K _ _ _ _ rfl rfl g_WAYS (by rfl) (by decide)))) (fun _ _ _ _ _ => (@pg_name _ _ 4 _ scNeeds.nd rfl (Or.inl rfl) (by first | exact .inl rfl | exact .inr rfl | assumption))) (fun _ _ _ _ _ => (@pts_nil _)) (fun _ _ _ _ _ => (@pe_tup _ _ _ _ _ (@pa_cN _ _ _ _ _ _ (@pv _ 3 _ _ (by rfl) (by first | exact Or.inl rfl | exact Or.inr (Or.inl rfl) | exact Or.inr (Or.inr rfl)) (by decide) (by decide)) (@pa_cN _ _ _ _ _ _ (@pv _ 4 _ _ (by rfl) (by first | exact Or.inl rfl | exact Or.inr (Or.inl rfl) | exact Or.inr (Or.inr rfl)) (by decide) (by decide)) (@pa_nil _))))) (fun _ _ _ _ _ => (@pe_tup _ _ _ _ _ (@pa_cC _ _ _ _ _ _ _ (@pe_int _ _ _ _) (@pa_cC _ _ _ _ _ _ _ (@pe_int _ _ _ _) (@pa_nil _))))) (by intro _ ; rfl) (by intro _ _ ; rfl)) (@pa_nil _) (by rfl))) (by rfl) (by first | exact .inl rfl | exact .inr rfl | assumption)) (@pss_cons _ _ _ _ _ (@ps_for _ _ _ _ _ _ _ _ PassesOwn.never rfl (@pi_revRange _ _ _ _ _ _ _ _ (by rfl) T.reversed (by rfl) T.range (@pa_cK _ _ _ _ _ _ _ _ (@pe_callB _ _ _ _ _ _ _ _ _ call_len_str (by rfl) T.len PySem.boot_len (@pa_cN _ _ _ _ _ _ (@pv _ 1 _ _ (by rfl) vNeeds_1 (by decide) (by decide)) (@pa_nil _)) (by decide) (by decide) (by rfl) (by rfl)) (@pa_nil _)) (by rfl) (by rfl)) (@pg_name _ _ 6 _ scNeeds.nd rfl lNeeds_6 (by first | exact .inl rfl | exact .inr rfl | assumption)) (@pss_one _ _ _ (@ps_expr _ _ _ _ (@pe_bm _ _ _ _ _ _ _ _ _ _ _ _ PySem.F.plainAttrs_list PySem.F.slot_list_append PySem.F.type_list_append mt_append (@pv _ 5 _ _ (by rfl) vNeeds_5 (by decide) (by decide)) (@pa_cK _ _ _ _ _ _ _ _ (@pe_call _ _ _ _ _ _ _ _ _ _ _ _ _ _ _ _ GRa (hr.mono (by decide)) (by rfl) mRa kRa bRa .nil pass0 (@pa_cN _ _ _ _ _ _ (@pv _ 0 _ _ (by rfl) vNeeds_0 (by decide) (by decide)) (@pa_cK _ _ _ _ _ _ _ _ (@pe_call _ _ _ _ _ _ _ _ _ _ _ _ _ _ _ _ GPa (hr.mono (by decide)) (by rfl) mPa kPa bPa .nil pass0 (@pa_cN _ _ _ _ _ _ (@pv _ 0 _ _ (by rfl) vNeeds_0 (by decide) (by decide)) (@pa_cN _ _ _ _ _ _ (@pv _ 1 _ _ (by rfl) vNeeds_1 (by decide) (by decide)) (@pa_cN _ _ _ _ _ _ (@pv _ 6 _ _ (by rfl) vNeeds_6 (by decide) (by decide)) (@pa_nil _)))) (by decide) (by rfl) (by rfl)) (@pa_cS _ _ _ _ _ _ _ (@pe_ix _ _ _ _ _ _ _ ix_str (@pv _ 1 _ _ (by rfl) vNeeds_1 (by decide) (by decide)) (@pv _ 6 _ _ (by rfl) vNeeds_6 (by decide) (by decide)) (fun _ _ => rfl)) (@pa_cN _ _ _ _ _ _ (@pv _ 2 _ _ (by rfl) vNeeds_2 (by decide) (by decide)) (@pa_cS _ _ _ _ _ _ _ (@pe_ix _ _ _ _ _ _ _ ix_list (@pv _ 5 _ _ (by rfl) vNeeds_5 (by decide) (by decide)) (@pe_un _ _ _ _ _ _ un_neg (@pe_int _ _ _ _)) (fun _ _ => rfl)) (@pa_nil _)))))) (by decide) (by rfl) (by rfl)) (@pa_nil _)) (by rfl) (by rfl) (by rfl) (by rfl) (by rfl)) (by rfl))) (by intro _ ; rfl)) (@pss_one _ _ _ (@ps_ret _ _ _ _ (@pe_sliceRev _ _ _ _ _ _ _ (@pv _ 5 _ _ (by rfl) vNeeds_5 (by decide) (by decide)) (@po_some _ _ _ (@pe_un _ _ _ _ _ _ un_neg (@pe_int _ _ _ _)))))))), ?_⟩
    -- the last row
    refine ⟨_, rfl, _, rfl, _, rfl, _, rfl, hzo, l, o, o.length, (by rw [txt_length]; rfl), hW, by omega, Nat.le_refl _, fun D0 H1 s1 hD0 hD01 => ⟨D0, rfl, ⟨_, SqL.of hD01⟩, fun E0 hE0 => ?_⟩⟩
    have hpl := pla_len l o o.length
    refine it_list (xs := (pla l o o.length).map fun j : Nat => V.int j) (fun i H2 => ∃ m', Same H1 H2 ∧ DicAt H2 E0 m' ∧ m'.length ≤ 3 * i ∧ ∀ j ∈ (pla l o o.length).take i, ∀ w : Int, -1 ≤ w → w ≤ 1 → lk m' ((j : Int), w) = some (0, 1)) ?_ ?_ ?_ ?_
    · exact ⟨[], Same.new hE0, DicAt.nil, Nat.zero_le _, fun j hj => by rw [List.take_zero] at hj; cases hj⟩
    · rintro i H2 _ ⟨m', s2, _⟩
      exact SqL.of (s2 _ _ hD01)
    · rintro i v H2 hv ⟨m', s2, hE2, hml, hmm⟩
      rw [List.getElem?_map] at hv
      cases ej : (pla l o o.length)[i]? with
      | none => rw [ej] at hv; cases hv
      | some j =>
        rw [ej] at hv
        cases hv
        have hil := (List.getElem?_eq_some_iff.mp ej).1
        have etk : (pla l o o.length).take (i + 1) = (pla l o o.length).take i ++ [j] := by rw [List.take_add_one, ej]; rfl
        refine ⟨rfl, ?_⟩
        dsimp only [tYes]
        refine iteT ?_
        refine fun aW hWs => ⟨aW, rfl, ⟨_, hWs _⟩, it_tup (xs := ways3) (fun x H4 => ∃ m', Same H1 H4 ∧ DicAt H4 E0 m' ∧ m'.length ≤ 3 * i + x ∧ (∀ j ∈ (pla l o o.length).take i, ∀ w : Int, -1 ≤ w → w ≤ 1 → lk m' ((j : Int), w) = some (0, 1)) ∧ ∀ w : Int, -1 ≤ w → w < (x : Int) - 1 → lk m' ((j : Int), w) = some (0, 1)) ?_ (fun _ H _ _ => hWs H) ?_ ?_⟩
        · exact ⟨m', s2, hE2, by omega, hmm, fun w w0 w1 => by omega⟩
        · rintro x v H4 hv ⟨m', s4, hE4, hml, hmm, hmw⟩
          obtain ⟨hx3, rfl⟩ := ways_at hv
          refine ⟨rfl, ?_⟩
          dsimp only [tYes]
          refine iteT ?_
          refine ⟨_, rfl, _, rfl, (by show 2 ≤ sizeLine; decide), fun q1 hq1 => ⟨(by show 2 ≤ sizeLine; decide), fun q2 hq2 => ?_⟩⟩
          have s45 := (Same.new (o := .tup [.int (j : Int), .int ((x : Int) - 1)]) hq1).trans (Same.new (o := .tup [.int 0, .int 1]) hq2)
          obtain ⟨kvs, hRk, dp, hE6⟩ := DicAt.put (st := ((j : Int), (x : Int) - 1)) (x := (0, 1)) (hE4.same s45) ((Same.new hq2) _ _ upd_same) upd_same (small1000 (by omega))
          refine ⟨_, dp, pt m' ((j : Int), (x : Int) - 1) (0, 1), (s4.trans s45).upd' hE0, hE6, Nat.le_trans (pt_len _ _ _) (by omega), fun j' hj' w w0 w1 => ?_, fun w w0 w1 => ?_⟩
          · rw [lk_pt]
            by_cases e : ((j' : Int), w) = ((j : Int), (x : Int) - 1)
            · rw [if_pos e]
            · rw [if_neg e]; exact hmm j' hj' w w0 w1
          · rw [lk_pt]
            by_cases e : ((j : Int), w) = ((j : Int), (x : Int) - 1)
            · rw [if_pos e]
            · rw [if_neg e]
              have : w ≠ (x : Int) - 1 := fun z => e (by rw [z])
              exact hmw w w0 (by omega)
        · rintro H4 ⟨m', s4, hE4, hml, hmm, hmw⟩
          refine ⟨m', s4, hE4, (by have : ways3.length = 3 := rfl; omega), fun j' hj' w w0 w1 => ?_⟩
          rw [etk] at hj'
          rcases List.mem_append.mp hj' with hj' | hj'
          · exact hmm j' hj' w w0 w1
          · rw [List.mem_singleton.mp hj']
            exact hmw w w0 (by have : ways3.length = 3 := rfl; omega)
    rintro H2 ⟨m0, s2, hE2, _, hm0⟩
    rw [List.length_map, List.take_length] at hm0
    refine ⟨(by show 1 ≤ sizeLine; decide), fun R hR => ?_⟩
    have s12 := s1.trans s2
    have hRn : H R = none := s12.free hR
    have s2R := Same.new (o := .lst [.ref E0]) hR
    have hE3 := hE2.same s2R
    have hR3 : (upd H2 R (.lst [.ref E0])) R = some (.lst [.ref E0]) := upd_same
    have s3 := s12.trans s2R
    generalize upd H2 R (.lst [.ref E0]) = H3 at hE3 hR3 s3 ⊢
    -- the rows ahead
    refine ⟨_, rfl, _, rfl, hzo, o.length, by rw [txt_length], by omega, for_rangeC (fun i σ H4 => i ≤ o.length ∧ ∃ (o6 : Option V) (ds : List Addr) (ms : List (List (Std × (Int × Int)))), σ = [some (.str (txt l)), some (.str (txt o)), some (.int sl), none, none, some (.ref R), o6] ∧ Same H H4 ∧ H4 R = some (.lst (ds.map V.ref)) ∧ All2 (DicAt H4) ds ms ∧ ms.length = i + 1 ∧ ∀ x m, ms[x]? = some m → NeedRow l sl o (o.length - x) m) ?_ ?_ ?_⟩
    · refine ⟨Nat.zero_le _, _, [E0], [m0], rfl, s3, hR3, .cons hE3 .nil, rfl, fun x m hx => ?_⟩
      cases x with
      | zero =>
        cases hx
        intro j hj w w0 w1
        rw [show o.length - 0 = o.length by omega] at hj ⊢
        rw [List.drop_length, nd_nil]
        exact hm0 j hj w w0 w1
      | succ x => cases hx
    · rintro i σ H4 hi ⟨_, o6, ds, ms, rfl, s4, hR4, hds, hml, hms⟩
      obtain ⟨a, ea⟩ : ∃ a : Nat, a + 1 + i = o.length := ⟨o.length - 1 - i, by omega⟩
      have eI : ((o.length : Int) - 1 + ((i : Nat) : Int) * -1) = (a : Int) := by omega
      obtain ⟨c, hc⟩ : ∃ c, o[a]? = some c := ⟨_, List.getElem?_eq_getElem (by omega)⟩
      have hcm := List.mem_of_getElem? hc
      obtain ⟨m, hm⟩ : ∃ m, ms[i]? = some m := ⟨_, List.getElem?_eq_getElem (by omega)⟩
      obtain ⟨dl, hdl, hdm⟩ := hds.get' hm
      have hdsl : ds.length = i + 1 := by rw [hds.length, hml]
      have hlast := last_at hdsl hdl
      have hrow := hms i m hm
      rw [show o.length - i = a + 1 by omega] at hrow
      have hat := at_getD (l := o) (z := (a : Int)) (by omega) (by omega)
      have hgc : o.getD ((a : Int)).toNat 0 = c := by rw [Int.toNat_natCast, List.getD_eq_getElem?_getD, hc]; rfl
      rw [hgc] at hat
      rw [eI]
      refine ⟨_, rfl, .inl ⟨rfl, _, SqL.of hR4⟩, ?_⟩
      refine ⟨_, rfl, _, rfl, _, rfl, _, rfl, l, o, a, rfl, hW, by omega, by omega, fun D1 H5 s5 hD1 hD15 => ?_⟩
      have hR5 := s5 _ _ hR4
      refine ⟨_, rfl, _, rfl, _, _, _, rfl, rfl, hzo, hat, _, rfl, _, rfl, _, rfl, R, _, _, _, rfl, rfl, SqL.of hR5, hlast, ?_⟩
      refine ⟨l, D1, pla l o a, c, o.drop (a + 1), sl, dl, m, rfl, hW, fun x hx => ?_, hD15, by have := pla_len l o a; omega, hdm.same s5, fun j hj w w0 w1 t ht => hrow.on h1 hc w0 w1 ht, fun e m' H6 s6 he hE6 hm' => ?_⟩
      · rcases List.mem_cons.mp hx with rfl | hx
        · exact hin _ hcm
        · exact hin x (List.mem_of_mem_drop hx)
      have hR6 := s6 _ _ hR5
      refine ⟨R, _, _, rfl, rfl, hR6, by rw [List.length_map, hdsl]; exact small1000 (by omega), ?_⟩
      refine ⟨hi, _, ds ++ [e], ms ++ [m'], rfl, ((s4.trans s5).trans s6).upd' hRn, by rw [upd_same, List.map_append]; rfl, ?_, by rw [List.length_append, hml]; rfl, fun x mx hx => ?_⟩
      · exact All2.snoc (hds.imp fun x y _ r => ((r.same s5).same s6).updL hR6) (hE6.updL hR6)
      · by_cases hxi : x < ms.length
        · rw [List.getElem?_append_left hxi] at hx
          exact hms x mx hx
        · have hx2 : x = i + 1 := by
            have := (List.getElem?_eq_some_iff.mp hx).1
            rw [List.length_append] at this
            have : x < ms.length + 1 := this
            omega
          subst hx2
          rw [List.getElem?_append_right (by omega), show i + 1 - ms.length = 0 by omega] at hx
          cases hx
          intro j hj w w0 w1
          rw [show o.length - (i + 1) = a by omega] at hj ⊢
          rw [drop_cons hc]
          exact hm' j hj w w0 w1
    · rintro σ H4 ⟨_, o6, ds, ms, rfl, s4, hR4, hds, hml, hms⟩
      refine ⟨_, rfl, _, rfl, _, rfl, rfl, R, _, rfl, SqL.of hR4, fun p hp => ?_⟩
      have sp := Same.new (o := .lst (ds.map V.ref).reverse) hp
      refine k p _ (s4.trans sp) (s4.free hp) ⟨ds.reverse, ms.reverse, by rw [upd_same, List.map_reverse], (hds.imp fun x y _ r => r.same sp).rev, by rw [List.length_reverse, hml], fun i m hi => ?_⟩
      have hil := (List.getElem?_eq_some_iff.mp hi).1
      rw [List.length_reverse] at hil
      rw [List.getElem?_reverse hil] at hi
      have := hms _ m hi
      rwa [show o.length - (ms.length - 1 - i) = i by omega] at this
end
end W

set_option Elab.async false
set_option linter.all false
set_option maxRecDepth 100000
set_option maxHeartbeats 4000000
namespace W
open PySem L2 WM

abbrev sFTu : Stmt := top 35
abbrev psFTu : List Str := ["wheel", "stand", "sign", "slack", "least", "behind"]
theorem scFTu : FnScope ["wheel", "stand", "sign", "slack", "least", "behind", "turn", "fitting"] ["wheel", "stand", "sign", "slack", "least", "behind"] (defScope sFTu) := ⟨rfl, rfl, rfl, by decide +kernel, rfl, by decide +kernel, by decide +kernel⟩
theorem lFTu_0 : Loc (defScope sFTu) "wheel" := Or.inr (by decide +kernel)
theorem vFTu_0 : Vis (defScope sFTu) "wheel" := Or.inr (Or.inl (by decide +kernel))
theorem lFTu_1 : Loc (defScope sFTu) "stand" := Or.inr (by decide +kernel)
theorem vFTu_1 : Vis (defScope sFTu) "stand" := Or.inr (Or.inl (by decide +kernel))
theorem lFTu_2 : Loc (defScope sFTu) "sign" := Or.inl (by decide +kernel)
theorem vFTu_2 : Vis (defScope sFTu) "sign" := Or.inl (by decide +kernel)
theorem lFTu_7 : Loc (defScope sFTu) "fitting" := Or.inl (by decide +kernel)
theorem vFTu_7 : Vis (defScope sFTu) "fitting" := Or.inl (by decide +kernel)
section
variable {P : Program} {w : World} {K : PySem.W.Frag} {mg : Str → Option Value} {base : Heap}
def spFTu (K : PySem.W.Frag) : Sp := fun vs H Q _ => ∃ (l : List Nat) (a : Addr) (st : Std) (c : Nat) (o : List Nat) (s : Int) (d : Addr) (m : List (Std × (Int × Int))), vs = [.str (txt l), .ref a, .str (txt [c]), .int s, .int (nd l s (c :: o) st).1, .ref d] ∧ Wheel l ∧ (∀ x ∈ c :: o, x ∈ l) ∧ SqT K H a [.int st.1, .int st.2] ∧ -1 ≤ st.2 ∧ st.2 ≤ 1 ∧
  DicAt H d m ∧ (∀ t ∈ tts l st.1 c, lk m (bh l st t) = some (nd l s o (bh l st t))) ∧ ∀ H', Same H H' → Q (.int ((fit l s c o st).headD 0)) H'
theorem cal_ftu (D : Def K mg "first_turn" sFTu psFTu) (T : Txt mg) (CTt : Cal P w K mg base CX0 1 "turns_to" ["wheel", "place", "sign"] spTTo) (CSb : Cal P w K mg base CX0 2 "stand_behind" ["wheel", "stand", "turn"] (spSBeh K)) (CTc : Cal P w K mg base CX0 1 "turn_cost" ["way", "turn", "slack"] spTCost) :
    Cal P w K mg base CX0 3 "first_turn" psFTu (spFTu K) := cal_mk D fun f fd F => by
  obtain ⟨fTt, dTt, GTt, kTt, bTt, mTt⟩ := CTt
  obtain ⟨fSb, dSb, GSb, kSb, bSb, mSb⟩ := CSb
  obtain ⟨fTc, dTc, GTc, kTc, bTc, mTc⟩ := CTc
  refine F.ok scFTu (fun vs H Q E h => ?_) (fun cdv A outer s H vs Q E hr h => ?_)
  · obtain ⟨l, a, st, c, o, s, d, m, rfl, _⟩ := h
    rfl
  · obtain ⟨l, a, st, c, o, sl, d, m, rfl, hW, hin, hS, w0, w1, hd, hm, k⟩ := h
    have h1 := hW.pos
    have h2 := hW.le
    have hu := hu_of hr
    have htl := tts_len l st.1 c
    refine ⟨_, (@pss_cons _ _ _ _ _ (@ps_setLc _ 7 _ _ _ _ _ _ _ [("turn", 6)] _ _ _ (gName 6) _ _ (by rfl) scFTu.nd rfl rfl (sw_true rfl rfl rfl (by decide +kernel)) (@pi_list _ _ _ _ (@pe_call _ _ _ _ _ _ _ _ _ _ _ _ _ _ _ _ GTt (hr.mono (by decide)) (by rfl) mTt kTt bTt .nil pass0 (@pa_cN _ _ _ _ _ _ (@pv _ 0 _ _ (by rfl) vFTu_0 (by decide) (by decide)) (@pa_cS _ _ _ _ _ _ _ (@pe_ix _ _ _ _ _ _ _ ix_tup (@pv _ 1 _ _ (by rfl) vFTu_1 (by decide) (by decide)) (@pe_int _ _ _ _) (fun _ _ => rfl)) (@pa_cN _ _ _ _ _ _ (@pv _ 2 _ _ (by rfl) vFTu_2 (by decide) (by decide)) (@pa_nil _)))) (by decide) (by rfl) (by rfl))) (blkOk_by (own := [("turn", 6)]) (N := ["wheel", "stand", "sign", "slack", "least", "behind", "turn", "fitting"]) (sc := defScope sFTu) (by decide +kernel)) (fun _ _ _ _ _ => (@pg_name _ _ 6 _ scFTu.nd rfl (Or.inl rfl) (by first | exact .inl rfl | exact .inr rfl | assumption))) (fun _ _ _ _ _ => (@pts_one _ _ _ (@pt_cmpR _ _ _ _ _ _ _ _ op_eq (@pe_op _ _ _ _ _ _ _ _ op_add (@pe_call _ _ _ _ _ _ _ _ _ _ _ _ _ _ _ _ GTc (hr.mono (by decide)) (by rfl) mTc kTc bTc .nil pass0 (@pa_cS _ _ _ _ _ _ _ (@pe_ix _ _ _ _ _ _ (rIxT K) ix_tup (@pv _ 1 _ _ (by rfl) (by first | exact Or.inl rfl | exact Or.inr (Or.inl rfl) | exact Or.inr (Or.inr rfl)) (by decide) (by decide)) (@pe_int _ _ _ _) (fun _ _ => rfl)) (@pa_cN _ _ _ _ _ _ (@pv _ 6 _ _ (by rfl) (by first | exact Or.inl rfl | exact Or.inr (Or.inl rfl) | exact Or.inr (Or.inr rfl)) (by decide) (by decide)) (@pa_cN _ _ _ _ _ _ (@pv _ 3 _ _ (by rfl) (by first | exact Or.inl rfl | exact Or.inr (Or.inl rfl) | exact Or.inr (Or.inr rfl)) (by decide) (by decide)) (@pa_nil _)))) (by decide) (by rfl) (by rfl)) (@pe_ix _ _ _ _ _ _ (rIxT K) ix_tup (@pe_dget _ _ _ _ _ _ hu (@pv _ 5 _ _ (by rfl) (by first | exact Or.inl rfl | exact Or.inr (Or.inl rfl) | exact Or.inr (Or.inr rfl)) (by decide) (by decide)) (@pe_call _ _ _ _ _ _ _ _ _ _ _ _ _ _ _ _ GSb (hr.mono (by decide)) (by rfl) mSb kSb bSb .nil pass0 (@pa_cN _ _ _ _ _ _ (@pv _ 0 _ _ (by rfl) (by first | exact Or.inl rfl | exact Or.inr (Or.inl rfl) | exact Or.inr (Or.inr rfl)) (by decide) (by decide)) (@pa_cN _ _ _ _ _ _ (@pv _ 1 _ _ (by rfl) (by first | exact Or.inl rfl | exact Or.inr (Or.inl rfl) | exact Or.inr (Or.inr rfl)) (by decide) (by decide)) (@pa_cN _ _ _ _ _ _ (@pv _ 6 _ _ (by rfl) (by first | exact Or.inl rfl | exact Or.inr (Or.inl rfl) | exact Or.inr (Or.inr rfl)) (by decide) (by decide)) (@pa_nil _)))) (by decide) (by rfl) (by rfl)) (fun _ _ => rfl)) (@pe_int _ _ _ _) (fun _ _ => rfl))) (@pv _ 4 _ _ (by rfl) (by first | exact Or.inl rfl | exact Or.inr (Or.inl rfl) | exact Or.inr (Or.inr rfl)) (by decide) (by decide)) (nomark _)))) (fun _ _ _ _ _ => (@pv _ 6 _ _ (by rfl) (by first | exact Or.inl rfl | exact Or.inr (Or.inl rfl) | exact Or.inr (Or.inr rfl)) (by decide) (by decide))) (by intro _ ; rfl)) (@pss_one _ _ _ (@ps_ret _ _ _ _ (@pe_ix _ _ _ _ _ _ _ ix_list (@pv _ 7 _ _ (by rfl) vFTu_7 (by decide) (by decide)) (@pe_int _ _ _ _) (fun _ _ => rfl))))), ?_⟩
    refine ⟨_, rfl, _, rfl, a, _, _, _, rfl, rfl, hS, atI_nat (j := 0) rfl, _, rfl, l, st.1, c, rfl, hW, fun D0 H1 s1 hD0 hD01 => ⟨D0, rfl, ⟨_, SqL.of hD01⟩, fun D hD => ?_⟩⟩
    refine lc_listP (as := tts l st.1 c) (vf := V.int) (fun t => decide (tc st.2 t sl + (nd l sl o (bh l st t)).1 = (nd l sl (c :: o) st).1)) V.int (SqL.of hD01) hD (small1000 (by omega)) ?_ ?_
    · intro t H2 ht s2 Qy Qn ky kn
      refine ⟨rfl, ?_⟩
      have s12 := s1.trans s2
      refine ⟨_, rfl, a, _, _, _, rfl, rfl, hS.same s12, atI_nat (j := 1) rfl, _, rfl, _, rfl, st.2, t, sl, rfl, w0, w1, ?_⟩
      refine ⟨_, rfl, _, rfl, _, rfl, _, rfl, l, a, st, t, rfl, hW, hS.same s12, fun q3 H3 s3 hq3 hq33 => ?_⟩
      obtain ⟨qv, dg, hqv⟩ := ((hd.same s12).same s3).get (hm t ht) hq33
      refine ⟨d, _, rfl, dg, qv, _, _, _, rfl, rfl, SqT.of hqv, atI_nat (j := 0) rfl, _, _, rfl, rfl, _, rfl, rfl, _, rfl, ?_⟩
      rw [show decide (V.int (tc st.2 t sl + (nd l sl o (bh l st t)).1) = V.int (nd l sl (c :: o) st).1) = decide (tc st.2 t sl + (nd l sl o (bh l st t)).1 = (nd l sl (c :: o) st).1) from decide_eq_decide.mpr ⟨V.int.inj, congrArg V.int⟩]
      cases e : decide (tc st.2 t sl + (nd l sl o (bh l st t)).1 = (nd l sl (c :: o) st).1) with
      | true =>
        rw [e] at ky
        exact iteT ⟨_, rfl, ky rfl _ s3⟩
      | false =>
        rw [e] at kn
        exact iteF (kn rfl _ s3)
    intro H2 s2 hD2
    obtain ⟨t, r, ef⟩ := fit_ne (s := sl) h1 hin st
    have hD2' : H2 D = some (.lst ((fit l sl c o st).map V.int)) := hD2
    rw [ef] at hD2' k
    exact ⟨_, rfl, D, _, _, _, rfl, rfl, SqL.of hD2', atI_nat (j := 0) rfl, k H2 (s1.trans s2)⟩
end
end W

set_option Elab.async false
set_option linter.all false
set_option maxRecDepth 100000
set_option maxHeartbeats 4000000
namespace W
open PySem L2 WM

abbrev sPFr : Stmt := top 36
abbrev psPFr : List Str := ["wheel", "word", "slack", "stand"]
theorem scPFr : FnScope ["wheel", "word", "slack", "stand", "rows", "plan", "at", "sign", "turn"] ["wheel", "word", "slack", "stand"] (defScope sPFr) := ⟨rfl, rfl, rfl, by decide +kernel, rfl, by decide +kernel, by decide +kernel⟩
theorem lPFr_0 : Loc (defScope sPFr) "wheel" := Or.inl (by decide +kernel)
theorem vPFr_0 : Vis (defScope sPFr) "wheel" := Or.inl (by decide +kernel)
theorem lPFr_1 : Loc (defScope sPFr) "word" := Or.inl (by decide +kernel)
theorem vPFr_1 : Vis (defScope sPFr) "word" := Or.inl (by decide +kernel)
theorem lPFr_2 : Loc (defScope sPFr) "slack" := Or.inl (by decide +kernel)
theorem vPFr_2 : Vis (defScope sPFr) "slack" := Or.inl (by decide +kernel)
theorem lPFr_3 : Loc (defScope sPFr) "stand" := Or.inl (by decide +kernel)
theorem vPFr_3 : Vis (defScope sPFr) "stand" := Or.inl (by decide +kernel)
theorem lPFr_4 : Loc (defScope sPFr) "rows" := Or.inl (by decide +kernel)
theorem vPFr_4 : Vis (defScope sPFr) "rows" := Or.inl (by decide +kernel)
theorem lPFr_5 : Loc (defScope sPFr) "plan" := Or.inl (by decide +kernel)
theorem vPFr_5 : Vis (defScope sPFr) "plan" := Or.inl (by decide +kernel)
theorem lPFr_6 : Loc (defScope sPFr) "at" := Or.inl (by decide +kernel)
theorem vPFr_6 : Vis (defScope sPFr) "at" := Or.inl (by decide +kernel)
theorem lPFr_7 : Loc (defScope sPFr) "sign" := Or.inl (by decide +kernel)
theorem vPFr_7 : Vis (defScope sPFr) "sign" := Or.inl (by decide +kernel)
theorem lPFr_8 : Loc (defScope sPFr) "turn" := Or.inl (by decide +kernel)
theorem vPFr_8 : Vis (defScope sPFr) "turn" := Or.inl (by decide +kernel)
section
variable {P : Program} {w : World} {K : PySem.W.Frag} {mg : Str → Option Value} {base : Heap}
def spPFr (K : PySem.W.Frag) : Sp := fun vs H Q _ => ∃ (l o : List Nat) (s : Int) (a : Addr) (st : Std), vs = [.str (txt l), .str (txt o), .int s, .ref a] ∧ Wheel l ∧ o.length ≤ 200 ∧ (∀ c ∈ o, c ∈ l) ∧ SqT K H a [.int st.1, .int st.2] ∧ InW l.length st ∧ ∀ D H', Same H H' → H D = none → H' D = some (.lst ((lp l s o st).map V.int)) → Q (.ref D) H'
theorem cal_pfr (D : Def K mg "plan_from" sPFr psPFr) (T : Txt mg) (CNe : Cal P w K mg base CX0 7 "needs" ["wheel", "word", "slack"] spNeeds) (CFt : Cal P w K mg base CX0 3 "first_turn" ["wheel", "stand", "sign", "slack", "least", "behind"] (spFTu K)) (CSb : Cal P w K mg base CX0 2 "stand_behind" ["wheel", "stand", "turn"] (spSBeh K)) :
    Cal P w K mg base CX0 8 "plan_from" psPFr (spPFr K) := cal_mk D fun f fd F => by
  obtain ⟨fNe, dNe, GNe, kNe, bNe, mNe⟩ := CNe
  obtain ⟨fFt, dFt, GFt, kFt, bFt, mFt⟩ := CFt
  obtain ⟨fSb, dSb, GSb, kSb, bSb, mSb⟩ := CSb
  refine F.ok scPFr (fun vs H Q E h => ?_) (fun cdv A outer s H vs Q E hr h => ?_)
  · obtain ⟨l, o, s, a, st, rfl, _⟩ := h
    rfl
  · obtain ⟨l, o, sl, a0, st0, rfl, hW, ho, hin, hS, hst, k⟩ := h
    have h1 := hW.pos
    have h2 := hW.le
    have hu := hu_of hr
    refine ⟨_, (@pss_cons _ _ _ _ _ (@ps_set _ _ 4 _ _ _ _ scPFr.nd rfl lPFr_4 (@pe_call _ _ _ _ _ _ _ _ _ _ _ _ _ _ _ _ GNe (hr.mono (by decide)) (by rfl) mNe kNe bNe .nil pass0 (@pa_cN _ _ _ _ _ _ (@pv _ 0 _ _ (by rfl) vPFr_0 (by decide) (by decide)) (@pa_cN _ _ _ _ _ _ (@pv _ 1 _ _ (by rfl) vPFr_1 (by decide) (by decide)) (@pa_cN _ _ _ _ _ _ (@pv _ 2 _ _ (by rfl) vPFr_2 (by decide) (by decide)) (@pa_nil _)))) (by decide) (by rfl) (by rfl)) (by rfl) (by first | exact .inl rfl | exact .inr rfl | assumption)) (@pss_cons _ _ _ _ _ (@ps_set _ _ 5 _ _ _ _ scPFr.nd rfl lPFr_5 (@pe_lst _ _ _ _ (@pa_nil _)) (by rfl) (by first | exact .inl rfl | exact .inr rfl | assumption)) (@pss_cons _ _ _ _ _ (@ps_for _ _ _ _ _ _ _ _ PassesOwn.never rfl (@pi_enumS _ _ _ _ _ _ _ _ (by rfl) T.enum (@pa_cN _ _ _ _ _ _ (@pv _ 1 _ _ (by rfl) vPFr_1 (by decide) (by decide)) (@pa_nil _)) (by rfl)) (@pg_tup _ _ _ _ _ _ rfl (@pgs_cons _ _ _ _ _ (@pg_name _ _ 6 _ scPFr.nd rfl lPFr_6 (by first | exact .inl rfl | exact .inr rfl | assumption)) (@pgs_cons _ _ _ _ _ (@pg_name _ _ 7 _ scPFr.nd rfl lPFr_7 (by first | exact .inl rfl | exact .inr rfl | assumption)) (@pgs_nil _) (by rfl)) (by rfl)) (by rfl) (by rfl)) (@pss_cons _ _ _ _ _ (@ps_set _ _ 8 _ _ _ _ scPFr.nd rfl lPFr_8 (@pe_call _ _ _ _ _ _ _ _ _ _ _ _ _ _ _ _ GFt (hr.mono (by decide)) (by rfl) mFt kFt bFt .nil pass0 (@pa_cN _ _ _ _ _ _ (@pv _ 0 _ _ (by rfl) vPFr_0 (by decide) (by decide)) (@pa_cN _ _ _ _ _ _ (@pv _ 3 _ _ (by rfl) vPFr_3 (by decide) (by decide)) (@pa_cN _ _ _ _ _ _ (@pv _ 7 _ _ (by rfl) vPFr_7 (by decide) (by decide)) (@pa_cN _ _ _ _ _ _ (@pv _ 2 _ _ (by rfl) vPFr_2 (by decide) (by decide)) (@pa_cS _ _ _ _ _ _ _ (@pe_ix _ _ _ _ _ _ _ ix_tup (@pe_dgetS _ _ _ _ _ _ hu (@pe_ix _ _ _ _ _ _ _ ix_list (@pv _ 4 _ _ (by rfl) vPFr_4 (by decide) (by decide)) (@pv _ 6 _ _ (by rfl) vPFr_6 (by decide) (by decide)) (fun _ _ => rfl)) (@pv _ 3 _ _ (by rfl) vPFr_3 (by decide) (by decide)) (fun _ _ => rfl)) (@pe_int _ _ _ _) (fun _ _ => rfl)) (@pa_cS _ _ _ _ _ _ _ (@pe_ix _ _ _ _ _ _ _ ix_list (@pv _ 4 _ _ (by rfl) vPFr_4 (by decide) (by decide)) (@pe_op _ _ _ _ _ _ _ _ op_add (@pv _ 6 _ _ (by rfl) vPFr_6 (by decide) (by decide)) (@pe_int _ _ _ _)) (fun _ _ => rfl)) (@pa_nil _))))))) (by decide) (by rfl) (by rfl)) (by rfl) (by first | exact .inl rfl | exact .inr rfl | assumption)) (@pss_cons _ _ _ _ _ (@ps_expr _ _ _ _ (@pe_bm _ _ _ _ _ _ _ _ _ _ _ _ PySem.F.plainAttrs_list PySem.F.slot_list_append PySem.F.type_list_append mt_append (@pv _ 5 _ _ (by rfl) vPFr_5 (by decide) (by decide)) (@pa_cN _ _ _ _ _ _ (@pv _ 8 _ _ (by rfl) vPFr_8 (by decide) (by decide)) (@pa_nil _)) (by rfl) (by rfl) (by rfl) (by rfl) (by rfl)) (by rfl)) (@pss_one _ _ _ (@ps_set _ _ 3 _ _ _ _ scPFr.nd rfl lPFr_3 (@pe_call _ _ _ _ _ _ _ _ _ _ _ _ _ _ _ _ GSb (hr.mono (by decide)) (by rfl) mSb kSb bSb .nil pass0 (@pa_cN _ _ _ _ _ _ (@pv _ 0 _ _ (by rfl) vPFr_0 (by decide) (by decide)) (@pa_cN _ _ _ _ _ _ (@pv _ 3 _ _ (by rfl) vPFr_3 (by decide) (by decide)) (@pa_cN _ _ _ _ _ _ (@pv _ 8 _ _ (by rfl) vPFr_8 (by decide) (by decide)) (@pa_nil _)))) (by decide) (by rfl) (by rfl)) (by rfl) (by first | exact .inl rfl | exact .inr rfl | assumption))))) (by intro _ ; rfl)) (@pss_one _ _ _ (@ps_ret _ _ _ _ (@pv _ 5 _ _ (by rfl) vPFr_5 (by decide) (by decide))))))), ?_⟩
    refine ⟨_, rfl, _, rfl, _, rfl, l, o, sl, rfl, hW, ho, hin, fun R H1 s1 hR hN1 => ?_⟩
    refine ⟨(by show 0 ≤ sizeLine; decide), fun PL hPL => ?_⟩
    have hPn : H PL = none := s1.free hPL
    have hRP : R ≠ PL := by
      obtain ⟨ds, ms, hR1, _⟩ := id hN1
      exact ne_of_none hR1 hPL
    have s12 := s1.trans (Same.new (o := .lst []) hPL)
    refine ⟨_, rfl, _, rfl, for_enumS (l := o) (fun i σ H2 => i ≤ o.length ∧ ∃ (o6 o7 o8 : Option V) (a : Addr) (st : Std) (ts : List Int) (j : Nat), σ = [some (.str (txt l)), some (.str (txt o)), some (.int sl), some (.ref a), some (.ref R), some (.ref PL), o6, o7, o8] ∧ Same H H2 ∧ NeedsAt H2 R l sl o ∧ SqT K H2 a [.int st.1, .int st.2] ∧ st.1 = (j : Int) ∧ j ∈ pla l o i ∧ -1 ≤ st.2 ∧ st.2 ≤ 1 ∧ H2 PL = some (.lst (ts.map V.int)) ∧ ts.length = i ∧ ts ++ lp l sl (o.drop i) st = lp l sl o st0) ?_ ?_ ?_⟩
    · refine ⟨Nat.zero_le _, _, _, _, a0, st0, [], st0.1.toNat, rfl, s12, hN1.same (Same.new hPL), hS.same s12, ?_, ?_, hst.w0, hst.w1, upd_same, rfl, ?_⟩
      · have := hst.p0; omega
      · unfold pla
        rw [if_pos rfl, List.mem_range]
        have := hst.p0
        have := hst.p1
        omega
      · rw [List.drop_zero]; rfl
    · rintro i c T' σ H2 hc ⟨hi, o6, o7, o8, a, st, ts, j, rfl, s2, hN2, hS2, ej, hj, w0, w1, hP2, htl, hlp⟩ hT
      have hil := (List.getElem?_eq_some_iff.mp hc).1
      have hcm := List.mem_of_getElem? hc
      have hino : ∀ x ∈ c :: o.drop (i + 1), x ∈ l := fun x hx => by
        rcases List.mem_cons.mp hx with rfl | hx
        · exact hin _ hcm
        · exact hin x (List.mem_of_mem_drop hx)
      refine ⟨T', _, rfl, SqT.of upd_same, rfl, _, _, rfl, _, _, rfl, rfl, ?_⟩
      have s23 := Same.new (o := .tup [.int (i : Nat), .str (txt [c])]) hT
      have hN3 := hN2.same s23
      have hS3 := hS2.same s23
      have hP3 := s23 _ _ hP2
      have s3 := s2.trans s23
      generalize upd H2 T' (.tup [.int (i : Nat), .str (txt [c])]) = H3 at hN3 hS3 hP3 s3 ⊢
      obtain ⟨ds, ms, hR3, hds, hml, hms⟩ := id hN3
      obtain ⟨m, hm⟩ : ∃ m, ms[i]? = some m := ⟨_, List.getElem?_eq_getElem (by omega)⟩
      obtain ⟨m1, hm1⟩ : ∃ m, ms[i + 1]? = some m := ⟨_, List.getElem?_eq_getElem (by omega)⟩
      obtain ⟨d, hd, hdm⟩ := hds.get' hm
      obtain ⟨d1, hd1, hdm1⟩ := hds.get' hm1
      have hrow := hms i m hm
      have hrow1 := hms (i + 1) m1 hm1
      have hst' : st = ((j : Int), st.2) := Prod.ext ej rfl
      have hlk : lk m st = some (nd l sl (c :: o.drop (i + 1)) st) := by
        rw [hst', ← drop_cons hc]
        exact hrow j hj _ w0 w1
      have hg0 : atI (ds.map V.ref) (i : Int) = some (.ref d) := atI_nat (by rw [List.getElem?_map, hd]; rfl)
      have hg1 : atI (ds.map V.ref) ((i : Int) + 1) = some (.ref d1) := by
        have : ((i : Int) + 1) = ((i + 1 : Nat) : Int) := by omega
        rw [this]
        exact atI_nat (by rw [List.getElem?_map, hd1]; rfl)
      obtain ⟨kvs, kk, v, qv, hRd, hSk, hval, ev, hqv⟩ := hdm.getS hlk hS3
      subst ev
      refine ⟨_, rfl, _, rfl, _, rfl, _, rfl, _, rfl, _, rfl, R, _, _, _, rfl, rfl, SqL.of hR3, hg0, _, rfl, d, a, kvs, kk, _, rfl, rfl, hRd, hSk, hval, qv, _, _, _, rfl, rfl, SqT.of hqv, atI_nat (j := 0) rfl, ?_⟩
      refine ⟨_, rfl, _, rfl, _, _, rfl, rfl, R, _, _, _, rfl, rfl, SqL.of hR3, hg1, ?_⟩
      refine ⟨l, a, st, c, o.drop (i + 1), sl, d1, m1, rfl, hW, hino, hS3, w0, w1, hdm1, fun t ht => ?_, fun H4 s4 => ?_⟩
      · rw [hst'] at ht ⊢
        exact hrow1.on h1 hc w0 w1 ht
      obtain ⟨t, r, ef⟩ := fit_ne (s := sl) h1 hino st
      have elp : lp l sl (o.drop i) st = t :: lp l sl (o.drop (i + 1)) (bh l st t) := by
        rw [drop_cons hc]
        show (fit l sl c (o.drop (i + 1)) st).headD 0 :: lp l sl (o.drop (i + 1)) (bh l st ((fit l sl c (o.drop (i + 1)) st).headD 0)) = _
        rw [ef]; rfl
      have htt : t ∈ tts l st.1 c := by
        have : t ∈ fit l sl c (o.drop (i + 1)) st := by rw [ef]; exact List.mem_cons_self
        exact (List.mem_filter.mp this).1
      rw [ef, List.headD_cons]
      have hP4 := s4 _ _ hP3
      refine ⟨_, rfl, .inl ⟨rfl, _, SqL.of hP4⟩, _, rfl, PL, _, _, rfl, rfl, hP4, by rw [List.length_map, htl]; exact small1000 (by omega), ?_⟩
      have s34 := s3.trans s4
      have hN5 : NeedsAt (upd H4 PL (.lst (ts.map V.int ++ [.int t]))) R l sl o := (hN3.same s4).updL hRP hP4
      have s5 : Same H (upd H4 PL (.lst (ts.map V.int ++ [.int t]))) := s34.upd' hPn
      have hP5 : (upd H4 PL (.lst (ts.map V.int ++ [.int t]))) PL = some (.lst ((ts ++ [t]).map V.int)) := by rw [upd_same, List.map_append]; rfl
      have hS5 : SqT K (upd H4 PL (.lst (ts.map V.int ++ [.int t]))) a [.int st.1, .int st.2] := SqT.updL (hS3.same s4) hP4
      generalize upd H4 PL (.lst (ts.map V.int ++ [.int t])) = H5 at hN5 s5 hP5 hS5 ⊢
      refine ⟨_, rfl, _, rfl, _, rfl, l, a, st, t, rfl, hW, hS5, fun q H6 s6 hq hq6 => ?_⟩
      obtain ⟨j', hj', ej'⟩ := pla_on (p := st.1) h1 hc htt
      have hw := wb_in (t := t) ⟨w0, w1⟩
      refine ⟨hil, _, _, _, q, bh l st t, ts ++ [t], j', rfl, s5.trans s6, hN5.same s6, SqT.of hq6, ej', hj', hw.1, hw.2, s6 _ _ hP5, by rw [List.length_append, htl]; rfl, ?_⟩
      rw [List.append_assoc, ← hlp, elp]
      rfl
    · rintro σ H2 ⟨_, o6, o7, o8, a, st, ts, j, rfl, s2, hN2, hS2, ej, hj, w0, w1, hP2, htl, hlp⟩
      rw [List.drop_length] at hlp
      have : ts = lp l sl o st0 := by rw [← hlp]; show ts = ts ++ []; rw [List.append_nil]
      rw [this] at hP2
      exact ⟨_, rfl, k PL H2 s2 hPn hP2⟩
end
end W

set_option Elab.async false
set_option linter.all false
set_option maxRecDepth 100000
set_option maxHeartbeats 4000000
namespace W
open PySem L2 WM

section
variable {P : Program} {w : World} {K : PySem.W.Frag} {mg : Str → Option Value} {base : Heap}
/-- a door: what is refused, in order, or its answer -/
def spDoor (C11 C12 C8 C0 : Addr) (ans : List Nat → Int → List Nat → Hp → VK → Prop) : Sp := fun vs H Q E => ∃ (l o : List Nat) (s : Int), vs = [.str (txt l), .str (txt o), .int s] ∧ l.length ≤ 1000 ∧ o.length ≤ 1000 ∧
  (tsk l o s = 99 → ans l s o H Q) ∧ (tsk l o s = 11 → ∀ H', Same H H' → E (.ref C11) none H') ∧ (tsk l o s = 12 → ∀ H', Same H H' → E (.ref C12) none H') ∧ (tsk l o s = 8 → ∀ H', Same H H' → E (.ref C8) none H') ∧ (tsk l o s = 0 → ∀ H', Same H H' → E (.ref C0) none H')
abbrev spLPl (C11 C12 C8 C0 : Addr) : Sp := spDoor C11 C12 C8 C0 fun l s o H Q => ∀ D H', Same H H' → H D = none → H' D = some (.lst ((lp l s o (0, 0)).map V.int)) → Q (.ref D) H'
abbrev sLPl : Stmt := top 37
abbrev psLPl : List Str := ["wheel", "word", "slack"]
theorem scLPl : FnScope ["wheel", "word", "slack"] ["wheel", "word", "slack"] (defScope sLPl) := ⟨rfl, rfl, rfl, by decide +kernel, rfl, by decide +kernel, by decide +kernel⟩
theorem lLPl_0 : Loc (defScope sLPl) "wheel" := Or.inl (by decide +kernel)
theorem vLPl_0 : Vis (defScope sLPl) "wheel" := Or.inl (by decide +kernel)
theorem lLPl_1 : Loc (defScope sLPl) "word" := Or.inl (by decide +kernel)
theorem vLPl_1 : Vis (defScope sLPl) "word" := Or.inl (by decide +kernel)
theorem lLPl_2 : Loc (defScope sLPl) "slack" := Or.inl (by decide +kernel)
theorem vLPl_2 : Vis (defScope sLPl) "slack" := Or.inl (by decide +kernel)
theorem cal_lpl {C11 C12 C8 C0 : Addr} (D : Def K mg "least_plan" sLPl psLPl) (T : Txt mg) (g_FIRST_STAND : GTup K mg "FIRST_STAND" [.int 0, .int 0]) (CTa : Cal P w K mg base (CX1 P w) 5 "need_task" ["wheel", "word", "slack"] (spTask C11 C12 C8 C0)) (CPf : Cal P w K mg base CX0 8 "plan_from" ["wheel", "word", "slack", "stand"] (spPFr K)) :
    Cal P w K mg base (CX1 P w) 9 "least_plan" psLPl (spDoor C11 C12 C8 C0 fun l s o H Q => ∀ D H', Same H H' → H D = none → H' D = some (.lst ((lp l s o (0, 0)).map V.int)) → Q (.ref D) H') := cal_mk D fun f fd F => by
  obtain ⟨fTa, dTa, GTa, kTa, bTa, mTa⟩ := CTa
  obtain ⟨fPf, dPf, GPf, kPf, bPf, mPf⟩ := CPf
  refine F.okX scLPl (fun vs H Q E h => ?_) (fun cdv A outer s H vs Q E hr h => ?_)
  · obtain ⟨l, o, sl, rfl, _⟩ := h
    rfl
  · obtain ⟨l, o, sl, rfl, hl, ho, k99, k11, k12, k8, k0⟩ := h
    refine ⟨_, (@pss_cons _ _ _ _ _ (@ps_expr _ _ _ _ (@pe_call _ _ _ _ _ _ _ _ _ _ _ _ _ _ _ _ GTa (hr.mono (by decide)) (by rfl) mTa kTa bTa .nil pass_up (@pa_cN _ _ _ _ _ _ (@pv _ 0 _ _ (by rfl) vLPl_0 (by decide) (by decide)) (@pa_cN _ _ _ _ _ _ (@pv _ 1 _ _ (by rfl) vLPl_1 (by decide) (by decide)) (@pa_cN _ _ _ _ _ _ (@pv _ 2 _ _ (by rfl) vLPl_2 (by decide) (by decide)) (@pa_nil _)))) (by decide) (by rfl) (by rfl)) (by rfl)) (@pss_one _ _ _ (@ps_ret _ _ _ _ (@pe_call _ _ _ _ _ _ _ _ _ _ _ _ _ _ _ _ GPf (hr.mono (by decide)) (by rfl) mPf kPf bPf .nil pass0 (@pa_cN _ _ _ _ _ _ (@pv _ 0 _ _ (by rfl) vLPl_0 (by decide) (by decide)) (@pa_cN _ _ _ _ _ _ (@pv _ 1 _ _ (by rfl) vLPl_1 (by decide) (by decide)) (@pa_cN _ _ _ _ _ _ (@pv _ 2 _ _ (by rfl) vLPl_2 (by decide) (by decide)) (@pa_cN _ _ _ _ _ _ (@pe_gref _ _ _ _ (by rfl) g_FIRST_STAND (by decide)) (@pa_nil _))))) (by decide) (by rfl) (by rfl))))), ?_⟩
    refine ⟨_, rfl, _, rfl, _, rfl, l, o, sl, rfl, hl, ho, fun ht H1 s1 => ?_, k11, k12, k8, k0⟩
    obtain ⟨hw, hwo, hs, hall⟩ := tsk_ok ht
    have hW := wheel_of hw
    have h1 := hW.pos
    have ho80 := isW_len hwo
    refine ⟨_, rfl, _, rfl, _, rfl, fun aF hF => ?_⟩
    refine ⟨l, o, sl, aF, (0, 0), rfl, hW, by omega, hall, hF H1, ⟨by decide, by show (0 : Int) < l.length; omega, by decide, by decide⟩, fun D H2 s2 hD hD2 => ?_⟩
    exact k99 ht D H2 (s1.trans s2) (s1.free hD) hD2
end
end W

set_option Elab.async false
set_option linter.all false
set_option maxRecDepth 100000
set_option maxHeartbeats 4000000
namespace W
open PySem L2 WM

abbrev sNRow : Stmt := top 28
abbrev psNRow : List Str := ["wheel", "row", "sign", "slack"]
theorem scNRow : FnScope ["wheel", "row", "sign", "slack", "least", "place", "way", "spent", "turn", "stand", "total"] ["wheel", "row", "sign", "slack"] (defScope sNRow) := ⟨rfl, rfl, rfl, by decide +kernel, rfl, by decide +kernel, by decide +kernel⟩
theorem lNRow_0 : Loc (defScope sNRow) "wheel" := Or.inl (by decide +kernel)
theorem vNRow_0 : Vis (defScope sNRow) "wheel" := Or.inl (by decide +kernel)
theorem lNRow_1 : Loc (defScope sNRow) "row" := Or.inl (by decide +kernel)
theorem vNRow_1 : Vis (defScope sNRow) "row" := Or.inl (by decide +kernel)
theorem lNRow_2 : Loc (defScope sNRow) "sign" := Or.inl (by decide +kernel)
theorem vNRow_2 : Vis (defScope sNRow) "sign" := Or.inl (by decide +kernel)
theorem lNRow_3 : Loc (defScope sNRow) "slack" := Or.inl (by decide +kernel)
theorem vNRow_3 : Vis (defScope sNRow) "slack" := Or.inl (by decide +kernel)
theorem lNRow_4 : Loc (defScope sNRow) "least" := Or.inr (by decide +kernel)
theorem vNRow_4 : Vis (defScope sNRow) "least" := Or.inr (Or.inl (by decide +kernel))
theorem lNRow_5 : Loc (defScope sNRow) "place" := Or.inl (by decide +kernel)
theorem vNRow_5 : Vis (defScope sNRow) "place" := Or.inl (by decide +kernel)
theorem lNRow_6 : Loc (defScope sNRow) "way" := Or.inl (by decide +kernel)
theorem vNRow_6 : Vis (defScope sNRow) "way" := Or.inl (by decide +kernel)
theorem lNRow_7 : Loc (defScope sNRow) "spent" := Or.inl (by decide +kernel)
theorem vNRow_7 : Vis (defScope sNRow) "spent" := Or.inl (by decide +kernel)
theorem lNRow_8 : Loc (defScope sNRow) "turn" := Or.inl (by decide +kernel)
theorem vNRow_8 : Vis (defScope sNRow) "turn" := Or.inl (by decide +kernel)
theorem lNRow_9 : Loc (defScope sNRow) "stand" := Or.inl (by decide +kernel)
theorem vNRow_9 : Vis (defScope sNRow) "stand" := Or.inl (by decide +kernel)
theorem lNRow_10 : Loc (defScope sNRow) "total" := Or.inl (by decide +kernel)
theorem vNRow_10 : Vis (defScope sNRow) "total" := Or.inl (by decide +kernel)
section
variable {P : Program} {w : World} {K : PySem.W.Frag} {mg : Str → Option Value} {base : Heap}
def spNRow : Sp := fun vs H Q _ => ∃ (l : List Nat) (a : Addr) (row : List (Std × Int)) (c : Nat) (s : Int), vs = [.str (txt l), .ref a, .str (txt [c]), .int s] ∧ Wheel l ∧ RowAt H a row ∧ (∀ x ∈ row, InW l.length x.1) ∧
  ∀ D r' H', Same H H' → H D = none → RowAt H' D r' → IsRow (stp l c s row) r' → Q (.ref D) H'
theorem cal_nrow (D : Def K mg "next_row" sNRow psNRow) (T : Txt mg) (CTt : Cal P w K mg base CX0 1 "turns_to" ["wheel", "place", "sign"] spTTo) (CSb : Cal P w K mg base CX0 2 "stand_behind" ["wheel", "stand", "turn"] (spSBeh K)) (CTc : Cal P w K mg base CX0 1 "turn_cost" ["way", "turn", "slack"] spTCost) :
    Cal P w K mg base CX0 3 "next_row" psNRow spNRow := cal_mk D fun f fd F => by
  obtain ⟨fTt, dTt, GTt, kTt, bTt, mTt⟩ := CTt
  obtain ⟨fSb, dSb, GSb, kSb, bSb, mSb⟩ := CSb
  obtain ⟨fTc, dTc, GTc, kTc, bTc, mTc⟩ := CTc
  refine F.ok scNRow (fun vs H Q E h => ?_) (fun cdv A outer s H vs Q E hr h => ?_)
  · obtain ⟨l, a, row, c, sl, rfl, _⟩ := h
    rfl
  · obtain ⟨l, a, row, c, sl, rfl, hW, ⟨qs, hqs, hrow⟩, hin, k⟩ := h
    have h1 := hW.pos
    have h2 := hW.le
    have hu := hu_of hr
    refine ⟨_, (@pss_cons _ _ _ _ _ (@ps_set _ _ 4 _ _ _ _ scNRow.nd rfl lNRow_4 (@pe_dnewT _ _) (by rfl) (by first | exact .inl rfl | exact .inr rfl | assumption)) (@pss_cons _ _ _ _ _ (@ps_for _ _ _ _ _ _ _ _ PassesOwn.never rfl (@pi_list _ _ _ _ (@pv _ 1 _ _ (by rfl) vNRow_1 (by decide) (by decide))) (@pg_tup _ _ _ _ _ _ rfl (@pgs_cons _ _ _ _ _ (@pg_name _ _ 5 _ scNRow.nd rfl lNRow_5 (by first | exact .inl rfl | exact .inr rfl | assumption)) (@pgs_cons _ _ _ _ _ (@pg_name _ _ 6 _ scNRow.nd rfl lNRow_6 (by first | exact .inl rfl | exact .inr rfl | assumption)) (@pgs_cons _ _ _ _ _ (@pg_name _ _ 7 _ scNRow.nd rfl lNRow_7 (by first | exact .inl rfl | exact .inr rfl | assumption)) (@pgs_nil _) (by rfl)) (by rfl)) (by rfl)) (by rfl) (by rfl)) (@pss_one _ _ _ (@ps_for _ _ _ _ _ _ _ _ PassesOwn.never rfl (@pi_list _ _ _ _ (@pe_call _ _ _ _ _ _ _ _ _ _ _ _ _ _ _ _ GTt (hr.mono (by decide)) (by rfl) mTt kTt bTt .nil pass0 (@pa_cN _ _ _ _ _ _ (@pv _ 0 _ _ (by rfl) vNRow_0 (by decide) (by decide)) (@pa_cN _ _ _ _ _ _ (@pv _ 5 _ _ (by rfl) vNRow_5 (by decide) (by decide)) (@pa_cN _ _ _ _ _ _ (@pv _ 2 _ _ (by rfl) vNRow_2 (by decide) (by decide)) (@pa_nil _)))) (by decide) (by rfl) (by rfl))) (@pg_name _ _ 8 _ scNRow.nd rfl lNRow_8 (by first | exact .inl rfl | exact .inr rfl | assumption)) (@pss_cons _ _ _ _ _ (@ps_set _ _ 9 _ _ _ _ scNRow.nd rfl lNRow_9 (@pe_call _ _ _ _ _ _ _ _ _ _ _ _ _ _ _ _ GSb (hr.mono (by decide)) (by rfl) mSb kSb bSb .nil pass0 (@pa_cN _ _ _ _ _ _ (@pv _ 0 _ _ (by rfl) vNRow_0 (by decide) (by decide)) (@pa_cT _ _ _ _ _ _ _ (@pe_tup _ _ _ _ _ (@pa_cN _ _ _ _ _ _ (@pv _ 5 _ _ (by rfl) vNRow_5 (by decide) (by decide)) (@pa_cN _ _ _ _ _ _ (@pv _ 6 _ _ (by rfl) vNRow_6 (by decide) (by decide)) (@pa_nil _)))) (@pa_cN _ _ _ _ _ _ (@pv _ 8 _ _ (by rfl) vNRow_8 (by decide) (by decide)) (@pa_nil _)))) (by decide) (by rfl) (by rfl)) (by rfl) (by first | exact .inl rfl | exact .inr rfl | assumption)) (@pss_cons _ _ _ _ _ (@ps_set _ _ 10 _ _ _ _ scNRow.nd rfl lNRow_10 (@pe_op _ _ _ _ _ _ _ _ op_add (@pv _ 7 _ _ (by rfl) vNRow_7 (by decide) (by decide)) (@pe_call _ _ _ _ _ _ _ _ _ _ _ _ _ _ _ _ GTc (hr.mono (by decide)) (by rfl) mTc kTc bTc .nil pass0 (@pa_cN _ _ _ _ _ _ (@pv _ 6 _ _ (by rfl) vNRow_6 (by decide) (by decide)) (@pa_cN _ _ _ _ _ _ (@pv _ 8 _ _ (by rfl) vNRow_8 (by decide) (by decide)) (@pa_cN _ _ _ _ _ _ (@pv _ 3 _ _ (by rfl) vNRow_3 (by decide) (by decide)) (@pa_nil _)))) (by decide) (by rfl) (by rfl))) (by rfl) (by first | exact .inl rfl | exact .inr rfl | assumption)) (@pss_one _ _ _ (@ps_if _ _ _ _ _ _ _ _ (@PW.pt _ _ _ (@pw_or _ _ _ _ _ _ _ (@pt_cmp _ _ _ _ _ _ (@pc_dnotin _ _ _ _ _ hu (@pv _ 9 _ _ (by rfl) vNRow_9 (by decide) (by decide)) (@pv _ 4 _ _ (by rfl) vNRow_4 (by decide) (by decide))) (by first | exact nobehind _ (  by decide ) (  by decide ) | rfl)) (@pw_or1 _ _ _ _ (@pt_cmpR _ _ _ _ _ _ _ _ op_lt (@pv _ 10 _ _ (by rfl) vNRow_10 (by decide) (by decide)) (@pe_dget _ _ _ _ _ _ hu (@pv _ 4 _ _ (by rfl) vNRow_4 (by decide) (by decide)) (@pv _ 9 _ _ (by rfl) vNRow_9 (by decide) (by decide)) (fun _ _ => rfl)) (nomark _))))) (@pss_one _ _ _ (@ps_dput _ _ _ _ _ _ _ _ _ hu (@pv _ 4 _ _ (by rfl) vNRow_4 (by decide) (by decide)) (@pv _ 9 _ _ (by rfl) vNRow_9 (by decide) (by decide)) (@pv _ 10 _ _ (by rfl) vNRow_10 (by decide) (by decide)) rfl)) (@pss_nil _))))) (by intro _ ; rfl))) (by intro _ ; rfl)) (@pss_one _ _ _ (@ps_ret _ _ _ _ (@pe_lc _ _ _ _ _ _ [("place", 5), ("way", 6)] _ _ (gTup K 2 (gCons (gName 5) (gCons (gName 6) gNil))) _ _ (by rfl) scNRow.nd (@pi_list _ _ _ _ (@pe_callB _ _ _ _ _ _ _ _ _ (cr_sortedDT (fun _ => false) rfl) (by rfl) T.sorted (by decide +kernel) (@pa_cN _ _ _ _ _ _ (@pv _ 4 _ _ (by rfl) vNRow_4 (by decide) (by decide)) (@pa_nil _)) (by decide) (by decide) (by rfl) (by rfl))) (blkOk_by (own := [("place", 5), ("way", 6)]) (N := ["wheel", "row", "sign", "slack", "least", "place", "way", "spent", "turn", "stand", "total"]) (sc := defScope sNRow) (by decide +kernel)) (fun _ _ _ _ _ => (@pg_tup _ _ _ _ _ _ rfl (@pgs_cons _ _ _ _ _ (@pg_name _ _ 5 _ scNRow.nd rfl (Or.inl rfl) (by first | exact .inl rfl | exact .inr rfl | assumption)) (@pgs_cons _ _ _ _ _ (@pg_name _ _ 6 _ scNRow.nd rfl (Or.inl rfl) (by first | exact .inl rfl | exact .inr rfl | assumption)) (@pgs_nil _) (by rfl)) (by rfl)) (by rfl) (by rfl))) (fun _ _ _ _ _ => (@pts_nil _)) (fun _ _ _ _ _ => (@pe_tup _ _ _ _ _ (@pa_cN _ _ _ _ _ _ (@pv _ 5 _ _ (by rfl) (by first | exact Or.inl rfl | exact Or.inr (Or.inl rfl) | exact Or.inr (Or.inr rfl)) (by decide) (by decide)) (@pa_cN _ _ _ _ _ _ (@pv _ 6 _ _ (by rfl) (by first | exact Or.inl rfl | exact Or.inr (Or.inl rfl) | exact Or.inr (Or.inr rfl)) (by decide) (by decide)) (@pa_cS _ _ _ _ _ _ _ (@pe_dget _ _ _ _ _ _ hu (@pv _ 4 _ _ (by rfl) (by first | exact Or.inl rfl | exact Or.inr (Or.inl rfl) | exact Or.inr (Or.inr rfl)) (by decide) (by decide)) (@pe_tup _ _ _ _ _ (@pa_cN _ _ _ _ _ _ (@pv _ 5 _ _ (by rfl) (by first | exact Or.inl rfl | exact Or.inr (Or.inl rfl) | exact Or.inr (Or.inr rfl)) (by decide) (by decide)) (@pa_cN _ _ _ _ _ _ (@pv _ 6 _ _ (by rfl) (by first | exact Or.inl rfl | exact Or.inr (Or.inl rfl) | exact Or.inr (Or.inr rfl)) (by decide) (by decide)) (@pa_nil _)))) (fun _ _ => rfl)) (@pa_nil _)))))) (by intro _ ; rfl)))))), ?_⟩
    refine fun d hd => ?_
    refine ⟨_, rfl, a, rfl, ⟨_, SqL.of ((Same.new hd) _ _ hqs)⟩, for_list (xs := qs.map V.ref) (fun i σ H2 => ∃ (o5 o6 o7 o8 o9 o10 : Option V) (m : List (Std × Int)) (kvs : List (List Key × V)), σ = [some (.str (txt l)), some (.ref a), some (.str (txt [c])), some (.int sl), some (.ref d), o5, o6, o7, o8, o9, o10] ∧ Same H H2 ∧ H2 d = some (.dT kvs) ∧ All2 RI m kvs ∧ MinOf m (stp l c sl (row.take i))) ?_ ?_ ?_ ?_⟩
    · exact ⟨_, _, _, _, _, _, [], [], rfl, Same.new hd, upd_same, .nil, MinOf.nil⟩
    · rintro i σ H2 _ ⟨o5, o6, o7, o8, o9, o10, m, kvs, rfl, s2, _⟩
      exact SqL.of (s2 _ _ hqs)
    · rintro i v σ H2 hv ⟨o5, o6, o7, o8, o9, o10, m, kvs, rfl, s2, hd2, hmk, hmin⟩
      rw [List.getElem?_map] at hv
      cases eq : qs[i]? with
      | none => rw [eq] at hv; cases hv
      | some q =>
        rw [eq] at hv
        cases hv
        obtain ⟨x, hx, hq⟩ := hrow.get eq
        have hxm := List.mem_of_getElem? hx
        have hxin := hin x hxm
        refine ⟨q, _, rfl, SqT.of (s2 _ _ hq), rfl, _, _, rfl, _, _, rfl, _, _, rfl, rfl, ?_⟩
        refine ⟨_, rfl, _, rfl, _, rfl, l, x.1.1, c, rfl, hW, fun D0 H3 s3 hD0 hD03 => ?_⟩
        refine ⟨D0, rfl, ⟨_, SqL.of hD03⟩, for_list (xs := (tts l x.1.1 c).map V.int) (fun j σ H2 => ∃ (o8 o9 o10 : Option V) (m : List (Std × Int)) (kvs : List (List Key × V)), σ = [some (.str (txt l)), some (.ref a), some (.str (txt [c])), some (.int sl), some (.ref d), some (.int x.1.1), some (.int x.1.2), some (.int x.2), o8, o9, o10] ∧ Same H H2 ∧ H2 d = some (.dT kvs) ∧ H2 D0 = some (.lst ((tts l x.1.1 c).map V.int)) ∧ All2 RI m kvs ∧ MinOf m (stp l c sl (row.take i) ++ ((tts l x.1.1 c).take j).map (cnd1 l sl x))) ?_ ?_ ?_ ?_⟩
        · exact ⟨_, _, _, m, kvs, rfl, s2.trans s3, s3 _ _ hd2, hD03, hmk, by rw [List.take_zero, List.map_nil, List.append_nil]; exact hmin⟩
        · rintro j σ H4 _ ⟨o8, o9, o10, m, kvs, rfl, _, _, h4, _⟩
          exact SqL.of h4
        · rintro j v σ H4 hv ⟨o8', o9', o10', m, kvs, rfl, s4, hd4, hD4, hmk, hmin⟩
          rw [List.getElem?_map] at hv
          cases et : (tts l x.1.1 c)[j]? with
          | none => rw [et] at hv; cases hv
          | some t =>
            rw [et] at hv
            cases hv
            have etk : (tts l x.1.1 c).take (j + 1) = (tts l x.1.1 c).take j ++ [t] := by rw [List.take_add_one, et]; rfl
            refine ⟨_, rfl, _, rfl, _, rfl, (by show 2 ≤ sizeLine; decide), fun q1 hq1 => ?_⟩
            refine ⟨_, rfl, l, q1, x.1, t, rfl, hW, SqT.of upd_same, fun q2 H5 s5 hq2 hq25 => ?_⟩
            have s45 : Same H4 H5 := (Same.new hq1).trans s5
            have hd5 := s45 _ _ hd4
            have hD5 := s45 _ _ hD4
            refine ⟨_, rfl, _, rfl, _, rfl, _, rfl, x.1.2, t, sl, rfl, hxin.w0, hxin.w1, _, _, rfl, rfl, ?_⟩
            have hkey : H5 q2 = some (.tup ((key (cnd1 l sl x t).1).map kV)) := hq25
            have hin2 : ∀ y ∈ stp l c sl (row.take i) ++ ((tts l x.1.1 c).take j).map (cnd1 l sl x), InW l.length y.1 := fun y hy => by
              rcases List.mem_append.mp hy with hy | hy
              · exact stp_in h1 (fun z hz => hin z (List.mem_of_mem_take hz)) y hy
              · obtain ⟨t', _, rfl⟩ := List.mem_map.mp hy
                exact cnd1_in h1 hxin
            have hml := min_len hmin hin2
            have hkl : kvs.length < sizeLine := by rw [← hmk.length]; exact small1000 (by omega)
            have hDd : D0 ≠ d := ne_of hD5 hd5 (fun z => nomatch z)
            have done : ∀ (m' : List (Std × Int)) (kvs' : List (List Key × V)) (H6 : Hp), Same H H6 → H6 d = some (.dT kvs') → H6 D0 = some (.lst ((tts l x.1.1 c).map V.int)) → All2 RI m' kvs' → MinOf m' ((stp l c sl (row.take i) ++ ((tts l x.1.1 c).take j).map (cnd1 l sl x)) ++ [cnd1 l sl x t]) →
                ∃ (o8 o9 o10 : Option V) (m : List (Std × Int)) (kvs : List (List Key × V)), [some (V.str (txt l)), some (.ref a), some (.str (txt [c])), some (.int sl), some (.ref d), some (.int x.1.1), some (.int x.1.2), some (.int x.2), some (.int t), some (.ref q2), some (.int (x.2 + tc x.1.2 t sl))] = [some (.str (txt l)), some (.ref a), some (.str (txt [c])), some (.int sl), some (.ref d), some (.int x.1.1), some (.int x.1.2), some (.int x.2), o8, o9, o10] ∧ Same H H6 ∧ H6 d = some (.dT kvs) ∧ H6 D0 = some (.lst ((tts l x.1.1 c).map V.int)) ∧ All2 RI m kvs ∧ MinOf m (stp l c sl (row.take i) ++ ((tts l x.1.1 c).take (j + 1)).map (cnd1 l sl x)) := by
              intro m' kvs' H6 a1 a2 a3 a4 a5
              refine ⟨_, _, _, m', kvs', rfl, a1, a2, a3, a4, ?_⟩
              rw [etk, List.map_append, ← List.append_assoc]
              exact a5
            have put : (∀ k0, lk m (cnd1 l sl x t).1 = some k0 → (cnd1 l sl x t).2 < k0) → ∃ (a' : Addr) (H6 : Hp), V.ref d = .ref a' ∧ DPut H5 a' (.ref q2) (.int (x.2 + tc x.1.2 t sl)) H6 ∧ ∃ (o8 o9 o10 : Option V) (m : List (Std × Int)) (kvs : List (List Key × V)), [some (V.str (txt l)), some (.ref a), some (.str (txt [c])), some (.int sl), some (.ref d), some (.int x.1.1), some (.int x.1.2), some (.int x.2), some (.int t), some (.ref q2), some (.int (x.2 + tc x.1.2 t sl))] = [some (.str (txt l)), some (.ref a), some (.str (txt [c])), some (.int sl), some (.ref d), some (.int x.1.1), some (.int x.1.2), some (.int x.2), o8, o9, o10] ∧ Same H H6 ∧ H6 d = some (.dT kvs) ∧ H6 D0 = some (.lst ((tts l x.1.1 c).map V.int)) ∧ All2 RI m kvs ∧ MinOf m (stp l c sl (row.take i) ++ ((tts l x.1.1 c).take (j + 1)).map (cnd1 l sl x)) := by
              intro hk
              refine ⟨d, _, rfl, DPut.t hd5 hkey hkl, done (pt m (cnd1 l sl x t).1 (cnd1 l sl x t).2) _ _ ((s4.trans s45).upd' hd) upd_same (by rw [upd_ne hDd]; exact hD5) (all2_put RI.k hmk rfl) (hmin.put hk)⟩
            refine ⟨_, rfl, _, rfl, d, _, rfl, DGet.t hd5 hkey, _, rfl, ?_⟩
            rcases all2_val RI.k hmk (cnd1 l sl x t).1 with ⟨e1, e2⟩ | ⟨k0, v0, e1, e2, rv⟩
            · rw [e2]
              refine iteT (iteT ?_)
              refine ⟨_, rfl, _, rfl, _, rfl, ?_⟩
              exact put fun k0 h0 => by rw [e1] at h0; cases h0
            · rw [e2]
              refine iteF ?_
              have ev : v0 = .int k0 := (Prod.mk.inj rv).2
              subst ev
              refine ⟨_, rfl, _, rfl, _, rfl, d, _, rfl, (by have := DGet.t (k := key (cnd1 l sl x t).1) hd5 hkey; rw [e2] at this; exact this), _, _, rfl, rfl, _, rfl, ?_⟩
              by_cases hlt : x.2 + tc x.1.2 t sl < k0
              · rw [decide_eq_true hlt]
                refine iteT ?_
                refine ⟨_, rfl, _, rfl, _, rfl, ?_⟩
                exact put fun k0' h0 => by rw [e1] at h0; cases h0; exact hlt
              · rw [decide_eq_false hlt]
                refine iteF ?_
                exact done m kvs H5 (s4.trans s45) hd5 hD5 hmk (hmin.skip e1 (by show k0 ≤ x.2 + tc x.1.2 t sl; omega))
        · rintro σ H4 ⟨o8', o9', o10', m, kvs, rfl, s4, hd4, hD4, hmk, hmin⟩
          refine ⟨_, _, _, _, _, _, m, kvs, rfl, s4, hd4, hmk, ?_⟩
          rw [List.length_map, List.take_length] at hmin
          rw [stp_take hx]
          exact hmin
    · rintro σ H2 ⟨o5, o6, o7, o8, o9, o10, m, kvs, rfl, s2, hd2, hmk, hmin⟩
      rw [List.length_map, hrow.length, List.take_length] at hmin
      have hml := min_len hmin (stp_in h1 hin)
      refine ⟨_, rfl, d, kvs, rfl, hd2, (fun kv hkv => ?_), fun qs' kss' p hperm hpw hT hp => ?_⟩
      · obtain ⟨i, hi⟩ := List.getElem?_of_mem hkv
        obtain ⟨y, _, hy⟩ := hmk.get' hi
        rw [hy]
        exact key_sh y.1
      rw [RI.keys hmk] at hperm
      obtain ⟨sts, rfl, hp1, hp2⟩ := stds_of hmin.nd hperm hpw
      have hlq : qs'.length = sts.length := by rw [hT.length, List.length_map]
      have hsl : sts.length ≤ 90 := by rw [hp1.length_eq, List.length_map]; omega
      have hTz : ∀ y ∈ qs'.zip sts, H2 y.1 = some (.tup [.int y.2.1, .int y.2.2]) := by
        intro y hy
        obtain ⟨i, hi⟩ := List.getElem?_of_mem hy
        obtain ⟨g1, g2⟩ := List.getElem?_zip_eq_some.mp hi
        obtain ⟨ks, g3, g4⟩ := hT.get g1
        rw [List.getElem?_map, g2] at g3
        cases g3
        exact g4
      have hd3 : (upd H2 p (.lst (qs'.map V.ref))) d = some (.dT kvs) := (Same.new hp) _ _ hd2
      refine ⟨p, rfl, ⟨_, SqL.of upd_same⟩, fun D hD => lc_listR (as := qs'.zip sts) (vf := fun x => V.ref x.1) (fun _ => true) (fun x y H => ∃ q, y = V.ref q ∧ Tr3 H q (x.2, (lk m x.2).getD 0)) (fun x y H H' r s => ?_) (by rw [zip_refs hlq]; exact SqL.of upd_same) hD (by rw [List.length_zip]; exact small1000 (by omega)) ?_ ?_⟩
      · obtain ⟨q, e, t⟩ := r
        exact ⟨q, e, s _ _ t⟩
      · intro y H' hy hDl s' Qy Qn ky kn
        have hyq := s' _ _ ((Same.new hp) _ _ (hTz y hy))
        have hd' := s' _ _ hd3
        refine ⟨y.1, _, rfl, SqT.of hyq, rfl, _, _, rfl, _, _, rfl, rfl, rfl, ?_⟩
        dsimp only [tYes]
        refine iteT ?_
        have hys : y.2 ∈ sts := (List.of_mem_zip hy).2
        obtain ⟨k0, hk0, hg⟩ := lk_some hmin hp1 hys
        rcases all2_val RI.k hmk y.2 with ⟨e1, _⟩ | ⟨k1, v1, e1, e2, rv⟩
        · rw [hk0] at e1; cases e1
        rw [hk0] at e1
        cases e1
        have ev : v1 = .int k0 := (Prod.mk.inj rv).2
        subst ev
        refine ⟨_, rfl, _, rfl, _, rfl, _, rfl, _, rfl, (by show 2 ≤ sizeLine; decide), fun b hb => ?_⟩
        have hdb : (upd H' b (.tup [.int y.2.1, .int y.2.2])) d = some (.dT kvs) := (Same.new hb) _ _ hd'
        refine ⟨d, _, rfl, (by have := DGet.t (k := key y.2) (b := b) hdb upd_same; rw [e2] at this; exact this), (by show 3 ≤ sizeLine; decide), fun q hq => ?_⟩
        obtain ⟨ll, hll⟩ := hDl
        have hqD : q ≠ D := (ne_of_none ((Same.new hb) _ _ hll) hq).symm
        refine ky rfl _ _ ((Same.new hb).trans (Same.new hq)) ⟨q, rfl, ?_⟩
        unfold Tr3
        rw [del_ne hqD, upd_same, hg]
      · intro H' ys s' hL ha
        rw [List.filter_eq_self.mpr (fun _ _ => rfl)] at ha
        obtain ⟨qq, rfl, hqq⟩ := refs_of (f := fun x : Addr × Std => (x.2, (lk m x.2).getD 0)) ha
        have er : (qs'.zip sts).map (fun x : Addr × Std => (x.2, (lk m x.2).getD 0)) = rowOf m sts := by
          unfold rowOf
          have := zip_snd hlq
          have e2 : (qs'.zip sts).map (fun x : Addr × Std => (x.2, (lk m x.2).getD 0)) = ((qs'.zip sts).map (·.2)).map (fun st => (st, (lk m st).getD 0)) := by rw [List.map_map]; rfl
          rw [e2, this]
        rw [er] at hqq
        exact k D _ H' (s2.trans ((Same.new hp).trans s')) (s2.free ((Same.new (o := .lst (qs'.map V.ref)) hp).free hD)) ⟨qq, hL, hqq⟩ (row_of hmin hp1 hp2)
end
end W

set_option Elab.async false
set_option linter.all false
set_option maxRecDepth 100000
set_option maxHeartbeats 4000000
namespace W
open PySem L2 WM

abbrev sTable : Stmt := top 29
abbrev psTable : List Str := ["wheel", "word", "slack"]
theorem scTable : FnScope ["wheel", "word", "slack", "rows", "sign"] ["wheel", "word", "slack"] (defScope sTable) := ⟨rfl, rfl, rfl, by decide +kernel, rfl, by decide +kernel, by decide +kernel⟩
theorem lTable_0 : Loc (defScope sTable) "wheel" := Or.inl (by decide +kernel)
theorem vTable_0 : Vis (defScope sTable) "wheel" := Or.inl (by decide +kernel)
theorem lTable_1 : Loc (defScope sTable) "word" := Or.inl (by decide +kernel)
theorem vTable_1 : Vis (defScope sTable) "word" := Or.inl (by decide +kernel)
theorem lTable_2 : Loc (defScope sTable) "slack" := Or.inl (by decide +kernel)
theorem vTable_2 : Vis (defScope sTable) "slack" := Or.inl (by decide +kernel)
theorem lTable_3 : Loc (defScope sTable) "rows" := Or.inl (by decide +kernel)
theorem vTable_3 : Vis (defScope sTable) "rows" := Or.inl (by decide +kernel)
theorem lTable_4 : Loc (defScope sTable) "sign" := Or.inl (by decide +kernel)
theorem vTable_4 : Vis (defScope sTable) "sign" := Or.inl (by decide +kernel)
section
variable {P : Program} {w : World} {K : PySem.W.Frag} {mg : Str → Option Value} {base : Heap}
def spTable (C11 C12 C8 C0 : Addr) : Sp := fun vs H Q E => ∃ (l o : List Nat) (s : Int), vs = [.str (txt l), .str (txt o), .int s] ∧ l.length ≤ 1000 ∧ o.length ≤ 1000 ∧
  (tsk l o s = 99 → ∀ R rows as H', Same H H' → H R = none → (∀ a ∈ as, H a = none) → (R :: as).Nodup → TabAt H' R rows as → Rows l s o rows → Q (.ref R) H') ∧
  (tsk l o s = 11 → ∀ H', Same H H' → E (.ref C11) none H') ∧ (tsk l o s = 12 → ∀ H', Same H H' → E (.ref C12) none H') ∧ (tsk l o s = 8 → ∀ H', Same H H' → E (.ref C8) none H') ∧ (tsk l o s = 0 → ∀ H', Same H H' → E (.ref C0) none H')
theorem cal_table {C11 C12 C8 C0 : Addr} (D : Def K mg "table" sTable psTable) (T : Txt mg) (CTa : Cal P w K mg base (CX1 P w) 5 "need_task" ["wheel", "word", "slack"] (spTask C11 C12 C8 C0)) (CNr : Cal P w K mg base CX0 3 "next_row" ["wheel", "row", "sign", "slack"] spNRow) :
    Cal P w K mg base (CX1 P w) 6 "table" psTable (spTable C11 C12 C8 C0) := cal_mk D fun f fd F => by
  obtain ⟨fTa, dTa, GTa, kTa, bTa, mTa⟩ := CTa
  obtain ⟨fNr, dNr, GNr, kNr, bNr, mNr⟩ := CNr
  refine F.okX scTable (fun vs H Q E h => ?_) (fun cdv A outer s H vs Q E hr h => ?_)
  · obtain ⟨l, o, sl, rfl, _⟩ := h
    rfl
  · obtain ⟨l, o, sl, rfl, hl, ho, k99, k11, k12, k8, k0⟩ := h
    refine ⟨_, (@pss_cons _ _ _ _ _ (@ps_expr _ _ _ _ (@pe_call _ _ _ _ _ _ _ _ _ _ _ _ _ _ _ _ GTa (hr.mono (by decide)) (by rfl) mTa kTa bTa .nil pass_up (@pa_cN _ _ _ _ _ _ (@pv _ 0 _ _ (by rfl) vTable_0 (by decide) (by decide)) (@pa_cN _ _ _ _ _ _ (@pv _ 1 _ _ (by rfl) vTable_1 (by decide) (by decide)) (@pa_cN _ _ _ _ _ _ (@pv _ 2 _ _ (by rfl) vTable_2 (by decide) (by decide)) (@pa_nil _)))) (by decide) (by rfl) (by rfl)) (by rfl)) (@pss_cons _ _ _ _ _ (@ps_set _ _ 3 _ _ _ _ scTable.nd rfl lTable_3 (@pe_lst _ _ _ _ (@pa_cL _ _ _ _ _ _ (@pe_lst _ _ _ _ (@pa_cT _ _ _ _ _ _ _ (@pe_tup _ _ _ _ _ (@pa_cC _ _ _ _ _ _ _ (@pe_int _ _ _ _) (@pa_cC _ _ _ _ _ _ _ (@pe_int _ _ _ _) (@pa_cC _ _ _ _ _ _ _ (@pe_int _ _ _ _) (@pa_nil _))))) (@pa_nil _))) (@pa_nil _))) (by rfl) (by first | exact .inl rfl | exact .inr rfl | assumption)) (@pss_cons _ _ _ _ _ (@PS.nox _ _ _ (@ps_for _ _ _ _ _ _ _ _ PassesOwn.never rfl (@pi_str _ _ _ _ (@pv _ 1 _ _ (by rfl) vTable_1 (by decide) (by decide))) (@pg_name _ _ 4 _ scTable.nd rfl lTable_4 (by first | exact .inl rfl | exact .inr rfl | assumption)) (@pss_one _ _ _ (@ps_expr _ _ _ _ (@pe_bm _ _ _ _ _ _ _ _ _ _ _ _ PySem.F.plainAttrs_list PySem.F.slot_list_append PySem.F.type_list_append mt_append (@pv _ 3 _ _ (by rfl) vTable_3 (by decide) (by decide)) (@pa_cK _ _ _ _ _ _ _ _ (@pe_call _ _ _ _ _ _ _ _ _ _ _ _ _ _ _ _ GNr (hr.mono (by decide)) (by rfl) mNr kNr bNr .nil pass0 (@pa_cN _ _ _ _ _ _ (@pv _ 0 _ _ (by rfl) vTable_0 (by decide) (by decide)) (@pa_cS _ _ _ _ _ _ _ (@pe_ix _ _ _ _ _ _ _ ix_list (@pv _ 3 _ _ (by rfl) vTable_3 (by decide) (by decide)) (@pe_un _ _ _ _ _ _ un_neg (@pe_int _ _ _ _)) (fun _ _ => rfl)) (@pa_cN _ _ _ _ _ _ (@pv _ 4 _ _ (by rfl) vTable_4 (by decide) (by decide)) (@pa_cN _ _ _ _ _ _ (@pv _ 2 _ _ (by rfl) vTable_2 (by decide) (by decide)) (@pa_nil _))))) (by decide) (by rfl) (by rfl)) (@pa_nil _)) (by rfl) (by rfl) (by rfl) (by rfl) (by rfl)) (by rfl))) (by intro _ ; rfl))) (@pss_one _ _ _ (@ps_ret _ _ _ _ (@pv _ 3 _ _ (by rfl) vTable_3 (by decide) (by decide))))))), ?_⟩
    refine ⟨_, rfl, _, rfl, _, rfl, l, o, sl, rfl, hl, ho, fun ht H1 s1 => ?_, k11, k12, k8, k0⟩
    obtain ⟨hw, hwo, hs, hall⟩ := tsk_ok ht
    have hW := wheel_of hw
    have h1 := hW.pos
    have h2 := hW.le
    refine ⟨(by show 3 ≤ sizeLine; decide), fun q hq => ⟨(by show 1 ≤ sizeLine; decide), fun a hqa => ⟨(by show 1 ≤ sizeLine; decide), fun R hR => ?_⟩⟩⟩
    have s1q := (Same.new (o := .tup [.int 0, .int 0, .int 0]) hq)
    have s1a := s1q.trans (Same.new (o := .lst [.ref q]) hqa)
    have s1R := s1a.trans (Same.new (o := .lst [.ref a]) hR)
    have hRn : H R = none := s1.free (s1a.free hR)
    have han : H a = none := s1.free (s1q.free hqa)
    have hane : a ≠ R := ne_of_none upd_same hR
    have hr0 : RowAt (upd (upd (upd H1 q (.tup [.int 0, .int 0, .int 0])) a (.lst [.ref q])) R (.lst [.ref a])) a [((0, 0), 0)] := by
      refine ⟨[q], (Same.new hR) _ _ upd_same, .cons ?_ .nil⟩
      exact (Same.new hR) _ _ ((Same.new hqa) _ _ upd_same)
    have hRR : (upd (upd (upd H1 q (.tup [.int 0, .int 0, .int 0])) a (.lst [.ref q])) R (.lst [.ref a])) R = some (.lst [.ref a]) := upd_same
    generalize (upd (upd (upd H1 q (.tup [.int 0, .int 0, .int 0])) a (.lst [.ref q])) R (.lst [.ref a])) = H2 at s1R hr0 hRR ⊢
    refine ⟨_, rfl, _, rfl, for_str (l := o) (fun i σ H3 => ∃ (o4 : Option V) (as : List Addr) (rows : List (List (Std × Int))), σ = [some (.str (txt l)), some (.str (txt o)), some (.int sl), some (.ref R), o4] ∧ Same H H3 ∧ (∀ a ∈ as, H a = none) ∧ (R :: as).Nodup ∧ TabAt H3 R rows as ∧ rows.length = i + 1 ∧ ∀ j row, rows[j]? = some row → IsRow (Xs l sl (o.take j)) row) ?_ ?_ ?_⟩
    · refine ⟨_, [a], [[((0, 0), 0)]], rfl, s1.trans s1R, ?_, ?_, ⟨hRR, .cons hr0 .nil⟩, rfl, ?_⟩
      · intro b hb
        rw [List.mem_singleton.mp hb]; exact han
      · rw [List.nodup_cons]
        exact ⟨fun hm => hane (List.mem_singleton.mp hm).symm, List.nodup_cons.mpr ⟨List.not_mem_nil, List.nodup_nil⟩⟩
      · intro j row hj
        cases j with
        | zero =>
          cases hj
          rw [List.take_zero]
          exact IsRow.first l sl
        | succ j => cases hj
    · rintro i c σ H3 hc ⟨o4, as, rows, rfl, s3, hfr, hnd, ⟨hR3, hrows⟩, hlen, hrow⟩
      have hcl := (List.getElem?_eq_some_iff.mp hc).1
      -- the last row
      obtain ⟨row, hrl⟩ : ∃ row, rows[i]? = some row := ⟨_, List.getElem?_eq_getElem (by omega)⟩
      obtain ⟨b, hb, hbr⟩ := hrows.get' hrl
      have hasl : as.length = i + 1 := by rw [hrows.length, hlen]
      have hlast : atI (as.map V.ref) (-1) = some (.ref b) := by
        have e : as.map V.ref = (as.map V.ref).take i ++ [V.ref b] := by
          have := List.take_add_one (l := as.map V.ref) (i := i)
          rw [List.getElem?_map, hb] at this
          have e2 : (as.map V.ref).take (i + 1) = as.map V.ref := List.take_of_length_le (by rw [List.length_map]; omega)
          rw [e2] at this
          exact this
        rw [e]
        exact atI_last _ _
      have hri := hrow i row hrl
      refine ⟨_, rfl, .inl ⟨rfl, _, SqL.of hR3⟩, ?_⟩
      refine ⟨_, rfl, _, rfl, _, rfl, R, _, _, _, rfl, rfl, SqL.of hR3, hlast, _, rfl, _, rfl, l, b, row, c, sl, rfl, hW, hbr, (fun x hx => Xs_in h1 _ x ((hri.mem _ _).mp hx).1), fun D r' H4 s4 hD hD4 hr' => ?_⟩
      have hR4 := s4 _ _ hR3
      refine ⟨R, _, _, rfl, rfl, hR4, by rw [List.length_map, hasl]; exact small1000 (by omega), ?_⟩
      have hDR : D ≠ R := (ne_of_none hR3 hD).symm
      have hDas : D ∉ as := fun hm => by
        obtain ⟨j, hj⟩ := List.getElem?_of_mem hm
        obtain ⟨rw', _, hr2⟩ := hrows.get hj
        obtain ⟨qs, hqs, _⟩ := hr2
        rw [hqs] at hD; cases hD
      rw [List.nodup_cons] at hnd
      refine ⟨_, as ++ [D], rows ++ [r'], rfl, (s3.trans s4).upd' hRn, ?_, ?_, ⟨?_, ?_⟩, ?_, ?_⟩
      · intro x hx
        rcases List.mem_append.mp hx with hx | hx
        · exact hfr x hx
        · rw [List.mem_singleton.mp hx]; exact s3.free hD
      · rw [List.nodup_cons]
        refine ⟨fun hm => ?_, ?_⟩
        · rcases List.mem_append.mp hm with hm | hm
          · exact hnd.1 hm
          · exact hDR (List.mem_singleton.mp hm).symm
        · rw [List.nodup_append]
          refine ⟨hnd.2, List.nodup_cons.mpr ⟨List.not_mem_nil, List.nodup_nil⟩, fun x hx y hy => ?_⟩
          rw [List.mem_singleton.mp hy]
          intro e
          subst e
          exact hDas hx
      · rw [upd_same, List.map_append]; rfl
      · refine All2.snoc ?_ (hD4.upd hDR hR4)
        exact hrows.imp fun x rr hx e => (e.same s4).upd (fun e' => hnd.1 (e' ▸ hx)) hR4
      · rw [List.length_append, hlen]; rfl
      · intro j rr hj
        by_cases hji : j < rows.length
        · rw [List.getElem?_append_left hji] at hj
          exact hrow j rr hj
        · have hj2 : j = i + 1 := by
            have := (List.getElem?_eq_some_iff.mp hj).1
            rw [List.length_append] at this
            have : j < rows.length + 1 := this
            omega
          subst hj2
          rw [List.getElem?_append_right (by omega), show i + 1 - rows.length = 0 by omega] at hj
          cases hj
          have et : o.take (i + 1) = o.take i ++ [c] := by rw [List.take_add_one, hc]; rfl
          rw [et, Xs_snoc]
          exact hri.stp hr'
    · rintro σ H3 ⟨o4, as, rows, rfl, s3, hfr, hnd, htab, hlen, hrow⟩
      exact ⟨_, rfl, k99 ht R rows as H3 s3 hRn hfr hnd htab ⟨hlen, hrow⟩⟩
end
end W

set_option Elab.async false
set_option linter.all false
set_option maxRecDepth 100000
set_option maxHeartbeats 4000000
namespace W
open PySem L2 WM

abbrev sRst : Stmt := top 46
abbrev psRst : List Str := ["wheel", "word", "slack"]
theorem scRst : FnScope ["wheel", "word", "slack", "found", "k", "here", "place", "way", "costs", "turn", "later", "more"] ["wheel", "word", "slack"] (defScope sRst) := ⟨rfl, rfl, rfl, by decide +kernel, rfl, by decide +kernel, by decide +kernel⟩
theorem lRst_0 : Loc (defScope sRst) "wheel" := Or.inl (by decide +kernel)
theorem vRst_0 : Vis (defScope sRst) "wheel" := Or.inl (by decide +kernel)
theorem lRst_1 : Loc (defScope sRst) "word" := Or.inl (by decide +kernel)
theorem vRst_1 : Vis (defScope sRst) "word" := Or.inl (by decide +kernel)
theorem lRst_2 : Loc (defScope sRst) "slack" := Or.inl (by decide +kernel)
theorem vRst_2 : Vis (defScope sRst) "slack" := Or.inl (by decide +kernel)
theorem lRst_3 : Loc (defScope sRst) "found" := Or.inl (by decide +kernel)
theorem vRst_3 : Vis (defScope sRst) "found" := Or.inl (by decide +kernel)
theorem lRst_4 : Loc (defScope sRst) "k" := Or.inl (by decide +kernel)
theorem vRst_4 : Vis (defScope sRst) "k" := Or.inl (by decide +kernel)
theorem lRst_5 : Loc (defScope sRst) "here" := Or.inl (by decide +kernel)
theorem vRst_5 : Vis (defScope sRst) "here" := Or.inl (by decide +kernel)
theorem lRst_6 : Loc (defScope sRst) "place" := Or.inl (by decide +kernel)
theorem vRst_6 : Vis (defScope sRst) "place" := Or.inl (by decide +kernel)
theorem lRst_7 : Loc (defScope sRst) "way" := Or.inl (by decide +kernel)
theorem vRst_7 : Vis (defScope sRst) "way" := Or.inl (by decide +kernel)
theorem lRst_8 : Loc (defScope sRst) "costs" := Or.inl (by decide +kernel)
theorem vRst_8 : Vis (defScope sRst) "costs" := Or.inl (by decide +kernel)
theorem lRst_9 : Loc (defScope sRst) "turn" := Or.inl (by decide +kernel)
theorem vRst_9 : Vis (defScope sRst) "turn" := Or.inl (by decide +kernel)
theorem lRst_10 : Loc (defScope sRst) "later" := Or.inl (by decide +kernel)
theorem vRst_10 : Vis (defScope sRst) "later" := Or.inl (by decide +kernel)
theorem lRst_11 : Loc (defScope sRst) "more" := Or.inl (by decide +kernel)
theorem vRst_11 : Vis (defScope sRst) "more" := Or.inl (by decide +kernel)
section
variable {P : Program} {w : World} {K : PySem.W.Frag} {mg : Str → Option Value} {base : Heap}
def spRst : Sp := fun vs H Q _ => ∃ (l o : List Nat) (s : Int), vs = [.str (txt l), .str (txt o), .int s] ∧ Wheel l ∧ o.length ≤ 200 ∧ (∀ c ∈ o, c ∈ l) ∧
  ∀ R ds ms E0 H', Same H H' → H' R = some (.lst ((ds ++ [E0]).map V.ref)) → All2 (DicI H') ds ms → ms.length = o.length + 1 → (∀ i m, ms[i]? = some m → RestRow l s o i m) → Q (.ref R) H'
theorem cal_rst (D : Def K mg "_law_rests" sRst psRst) (T : Txt mg) (CRt : Cal P w K mg base CX0 1 "_law_reach_turns" ["wheel", "place", "sign"] spTTo) (CLs : Cal P w K mg base CX0 1 "_law_step" ["turn", "way", "slack"] spLStep) : Cal P w K mg base CX0 2 "_law_rests" psRst spRst := cal_mk D fun f fd F => by
  obtain ⟨fRt, dRt, GRt, kRt, bRt, mRt⟩ := CRt
  obtain ⟨fLs, dLs, GLs, kLs, bLs, mLs⟩ := CLs
  refine F.ok scRst (fun vs H Q E h => ?_) (fun cdv A outer s H vs Q E hr h => ?_)
  · obtain ⟨l, o, s, rfl, _⟩ := h
    rfl
  · obtain ⟨l, o, sl, rfl, hW, ho, hin, k⟩ := h
    have h1 := hW.pos
    have h2 := hW.le
    have hu := hu_of hr
    have hz : (txt l).length ≤ sizeLine := by rw [txt_length]; exact Nat.le_of_lt (small1000 (by omega))
    have hzo : (txt o).length ≤ sizeLine := by rw [txt_length]; exact Nat.le_of_lt (small1000 (by omega))
    refine ⟨_, (@pss_cons _ _ _ _ _ (@ps_set _ _ 3 _ _ _ _ scRst.nd rfl lRst_3 (@pe_lst _ _ _ _ (@pa_cons _ _ _ _ _ (@pe_dnewT _ _) (@pa_nil _) (by rfl))) (by rfl) (by first | exact .inl rfl | exact .inr rfl | assumption)) (@pss_cons _ _ _ _ _ (@ps_for _ _ _ _ _ _ _ _ PassesOwn.never rfl (@pi_range3 _ _ _ _ _ _ _ _ (by rfl) T.range (@pa_cK _ _ _ _ _ _ _ _ (@pe_callB _ _ _ _ _ _ _ _ _ call_len_str (by rfl) T.len PySem.boot_len (@pa_cN _ _ _ _ _ _ (@pv _ 1 _ _ (by rfl) vRst_1 (by decide) (by decide)) (@pa_nil _)) (by decide) (by decide) (by rfl) (by rfl)) (@pa_cU _ _ _ _ _ _ _ (@pe_un _ _ _ _ _ _ un_neg (@pe_int _ _ _ _)) (@pa_cU _ _ _ _ _ _ _ (@pe_un _ _ _ _ _ _ un_neg (@pe_int _ _ _ _)) (@pa_nil _)))) (by rfl) (by rfl)) (@pg_name _ _ 4 _ scRst.nd rfl lRst_4 (by first | exact .inl rfl | exact .inr rfl | assumption)) (@pss_cons _ _ _ _ _ (@ps_set _ _ 5 _ _ _ _ scRst.nd rfl lRst_5 (@pe_dnewT _ _) (by rfl) (by first | exact .inl rfl | exact .inr rfl | assumption)) (@pss_cons _ _ _ _ _ (@ps_for _ _ _ _ _ _ _ _ PassesOwn.never rfl (@pi_range1 _ _ _ _ _ _ (by rfl) T.range (@pa_cK _ _ _ _ _ _ _ _ (@pe_callB _ _ _ _ _ _ _ _ _ call_len_str (by rfl) T.len PySem.boot_len (@pa_cN _ _ _ _ _ _ (@pv _ 0 _ _ (by rfl) vRst_0 (by decide) (by decide)) (@pa_nil _)) (by decide) (by decide) (by rfl) (by rfl)) (@pa_nil _)) (by rfl)) (@pg_name _ _ 6 _ scRst.nd rfl lRst_6 (by first | exact .inl rfl | exact .inr rfl | assumption)) (@pss_one _ _ _ (@ps_if _ _ _ _ _ _ _ _ (@pt_cut _ _ _ (@PW.pt _ _ _ (@pw_or _ _ _ _ _ _ _ (@pt_cmpR _ _ _ _ _ _ _ _ op_eq (@pv _ 4 _ _ (by rfl) vRst_4 (by decide) (by decide)) (@pe_int _ _ _ _) (nomark _)) (@pw_or1 _ _ _ _ (@pt_cmpR _ _ _ _ _ _ _ _ op_eq (@pe_ix _ _ _ _ _ _ _ ix_str (@pv _ 0 _ _ (by rfl) vRst_0 (by decide) (by decide)) (@pv _ 6 _ _ (by rfl) vRst_6 (by decide) (by decide)) (fun _ _ => rfl)) (@pe_ix _ _ _ _ _ _ _ ix_str (@pv _ 1 _ _ (by rfl) vRst_1 (by decide) (by decide)) (@pe_op _ _ _ _ _ _ _ _ op_sub (@pv _ 4 _ _ (by rfl) vRst_4 (by decide) (by decide)) (@pe_int _ _ _ _)) (fun _ _ => rfl)) (nomark _)))))) (@pss_one _ _ _ (@ps_for _ _ _ _ _ _ _ _ PassesOwn.never rfl (@pi_tup _ _ _ _ (@pe_tup _ _ _ _ _ (@pa_cU _ _ _ _ _ _ _ (@pe_un _ _ _ _ _ _ un_neg (@pe_int _ _ _ _)) (@pa_cC _ _ _ _ _ _ _ (@pe_int _ _ _ _) (@pa_cC _ _ _ _ _ _ _ (@pe_int _ _ _ _) (@pa_nil _)))))) (@pg_name _ _ 7 _ scRst.nd rfl lRst_7 (by first | exact .inl rfl | exact .inr rfl | assumption)) (@pss_cons _ _ _ _ _ (@ps_set _ _ 8 _ _ _ _ scRst.nd rfl lRst_8 (@pe_lst _ _ _ _ (@pa_cC _ _ _ _ _ _ _ (@pe_int _ _ _ _) (@pa_nil _))) (by rfl) (by first | exact .inl rfl | exact .inr rfl | assumption)) (@pss_cons _ _ _ _ _ (@ps_cut _ _ _ (@ps_if _ _ _ _ _ _ _ _ (@pt_cmpR _ _ _ _ _ _ _ _ op_lt (@pv _ 4 _ _ (by rfl) vRst_4 (by decide) (by decide)) (@pe_callB _ _ _ _ _ _ _ _ _ call_len_str (by rfl) T.len PySem.boot_len (@pa_cN _ _ _ _ _ _ (@pv _ 1 _ _ (by rfl) vRst_1 (by decide) (by decide)) (@pa_nil _)) (by decide) (by decide) (by rfl) (by rfl)) (nomark _)) (@pss_cons _ _ _ _ _ (@ps_set _ _ 8 _ _ _ _ scRst.nd rfl lRst_8 (@pe_lst _ _ _ _ (@pa_nil _)) (by rfl) (by first | exact .inl rfl | exact .inr rfl | assumption)) (@pss_one _ _ _ (@ps_for _ _ _ _ _ _ _ _ PassesOwn.never rfl (@pi_list _ _ _ _ (@pe_call _ _ _ _ _ _ _ _ _ _ _ _ _ _ _ _ GRt (hr.mono (by decide)) (by rfl) mRt kRt bRt .nil pass0 (@pa_cN _ _ _ _ _ _ (@pv _ 0 _ _ (by rfl) vRst_0 (by decide) (by decide)) (@pa_cN _ _ _ _ _ _ (@pv _ 6 _ _ (by rfl) vRst_6 (by decide) (by decide)) (@pa_cS _ _ _ _ _ _ _ (@pe_ix _ _ _ _ _ _ _ ix_str (@pv _ 1 _ _ (by rfl) vRst_1 (by decide) (by decide)) (@pv _ 4 _ _ (by rfl) vRst_4 (by decide) (by decide)) (fun _ _ => rfl)) (@pa_nil _)))) (by decide) (by rfl) (by rfl))) (@pg_name _ _ 9 _ scRst.nd rfl lRst_9 (by first | exact .inl rfl | exact .inr rfl | assumption)) (@pss_cons _ _ _ _ _ (@ps_asg _ _ _ _ _ _ (@pe_call _ _ _ _ _ _ _ _ _ _ _ _ _ _ _ _ GLs (hr.mono (by decide)) (by rfl) mLs kLs bLs .nil pass0 (@pa_cN _ _ _ _ _ _ (@pv _ 9 _ _ (by rfl) vRst_9 (by decide) (by decide)) (@pa_cN _ _ _ _ _ _ (@pv _ 7 _ _ (by rfl) vRst_7 (by decide) (by decide)) (@pa_cN _ _ _ _ _ _ (@pv _ 2 _ _ (by rfl) vRst_2 (by decide) (by decide)) (@pa_nil _)))) (by decide) (by rfl) (by rfl)) (@pg_tup _ _ _ _ _ _ rfl (@pgs_cons _ _ _ _ _ (@pg_name _ _ 10 _ scRst.nd rfl lRst_10 (by first | exact .inl rfl | exact .inr rfl | assumption)) (@pgs_cons _ _ _ _ _ (@pg_name _ _ 11 _ scRst.nd rfl lRst_11 (by first | exact .inl rfl | exact .inr rfl | assumption)) (@pgs_nil _) (by rfl)) (by rfl)) (by rfl) (by rfl)) (by rfl) (by rfl) (by rfl)) (@pss_one _ _ _ (@ps_expr _ _ _ _ (@pe_bm _ _ _ _ _ _ _ _ _ _ _ _ PySem.F.plainAttrs_list PySem.F.slot_list_append PySem.F.type_list_append mt_append (@pv _ 8 _ _ (by rfl) vRst_8 (by decide) (by decide)) (@pa_cB _ _ _ _ _ _ _ _ (@pe_op _ _ _ _ _ _ _ _ op_add (@pe_dget _ _ _ _ _ _ hu (@pe_ix _ _ _ _ _ _ _ ix_list (@pv _ 3 _ _ (by rfl) vRst_3 (by decide) (by decide)) (@pe_int _ _ _ _) (fun _ _ => rfl)) (@pe_tup _ _ _ _ _ (@pa_cB _ _ _ _ _ _ _ _ (@pe_op _ _ _ _ _ _ _ _ op_mod (@pe_op _ _ _ _ _ _ _ _ op_add (@pv _ 6 _ _ (by rfl) vRst_6 (by decide) (by decide)) (@pv _ 9 _ _ (by rfl) vRst_9 (by decide) (by decide))) (@pe_callB _ _ _ _ _ _ _ _ _ call_len_str (by rfl) T.len PySem.boot_len (@pa_cN _ _ _ _ _ _ (@pv _ 0 _ _ (by rfl) vRst_0 (by decide) (by decide)) (@pa_nil _)) (by decide) (by decide) (by rfl) (by rfl))) (@pa_cN _ _ _ _ _ _ (@pv _ 10 _ _ (by rfl) vRst_10 (by decide) (by decide)) (@pa_nil _)))) (fun _ _ => rfl)) (@pv _ 11 _ _ (by rfl) vRst_11 (by decide) (by decide))) (@pa_nil _)) (by rfl) (by rfl) (by rfl) (by rfl) (by rfl)) (by rfl)))) (by intro _ ; rfl)))) (@pss_nil _))) (@pss_one _ _ _ (@ps_dput _ _ _ _ _ _ _ _ _ hu (@pv _ 5 _ _ (by rfl) vRst_5 (by decide) (by decide)) (@pe_tup _ _ _ _ _ (@pa_cN _ _ _ _ _ _ (@pv _ 6 _ _ (by rfl) vRst_6 (by decide) (by decide)) (@pa_cN _ _ _ _ _ _ (@pv _ 7 _ _ (by rfl) vRst_7 (by decide) (by decide)) (@pa_nil _)))) (@pe_callB _ _ _ _ _ _ _ _ _ (cr_min rfl) (by rfl) T.min (by decide +kernel) (@pa_cN _ _ _ _ _ _ (@pv _ 8 _ _ (by rfl) vRst_8 (by decide) (by decide)) (@pa_nil _)) (by decide) (by decide) (by rfl) (by rfl)) rfl)))) (by intro _ ; rfl))) (@pss_nil _))) (by intro _ ; rfl)) (@pss_one _ _ _ (@ps_set _ _ 3 _ _ _ _ scRst.nd rfl lRst_3 (@pe_op _ _ _ _ _ _ _ _ op_cat (@pe_lst _ _ _ _ (@pa_cN _ _ _ _ _ _ (@pv _ 5 _ _ (by rfl) vRst_5 (by decide) (by decide)) (@pa_nil _))) (@pv _ 3 _ _ (by rfl) vRst_3 (by decide) (by decide))) (by rfl) (by first | exact .inl rfl | exact .inr rfl | assumption))))) (by intro _ ; rfl)) (@pss_one _ _ _ (@ps_ret _ _ _ _ (@pv _ 3 _ _ (by rfl) vRst_3 (by decide) (by decide)))))), ?_⟩
    refine fun E0 hE0 => ⟨(by show 1 ≤ sizeLine; decide), fun F0 hF0 => ?_⟩
    refine ⟨_, rfl, _, rfl, hzo, _, rfl, _, rfl, (o.length : Int), -1, -1, o.length + 1, by rw [txt_length], (by rw [show o.length + 1 = ((o.length : Int) - (-1)).toNat by omega]; exact RgC.neg (by omega) (by omega) (by omega) (by omega)), for_rangeC (fun i σ H4 => i ≤ o.length + 1 ∧ ∃ (o4 o5 o6 o7 o8 o9 o10 o11 : Option V) (FA : Addr) (ds : List Addr) (ms : List (List (Std × Int))), σ = [some (.str (txt l)), some (.str (txt o)), some (.int sl), some (.ref FA), o4, o5, o6, o7, o8, o9, o10, o11] ∧ Same H H4 ∧ H4 FA = some (.lst ((ds ++ [E0]).map V.ref)) ∧ All2 (DicI H4) ds ms ∧ ms.length = i ∧ ∀ x m, ms[x]? = some m → RestRow l sl o (o.length + 1 - i + x) m) ?_ ?_ ?_⟩
    · exact ⟨Nat.zero_le _, _, _, _, _, _, _, _, _, F0, [], [], rfl, (Same.new hE0).trans (Same.new hF0), upd_same, .nil, rfl, fun x m hx => by cases hx⟩
    · rintro i σ H4 hi ⟨_, o4, o5, o6, o7, o8, o9, o10, o11, FA, ds, ms, rfl, s4, hF4, hds, hml, hms⟩
      obtain ⟨a, ea⟩ : ∃ a : Nat, a + i = o.length := ⟨o.length - i, by omega⟩
      have eI : ((o.length : Int) + ((i : Nat) : Int) * -1) = (a : Int) := by omega
      rw [eI]
      refine fun HD hHD => ?_
      have s5 := Same.new (o := .dT []) hHD
      have hFH : FA ≠ HD := ne_of_none hF4 hHD
      refine ⟨_, rfl, _, rfl, hz, _, rfl, by rw [txt_length]; omega, by rw [txt_length]; omega, ?_⟩
      rw [txt_length, Int.toNat_natCast]
      refine for_range (fun j σ H6 => j ≤ l.length ∧ ∃ (o6 o7 o8 o9 o10 o11 : Option V) (m' : List (Std × Int)), σ = [some (.str (txt l)), some (.str (txt o)), some (.int sl), some (.ref FA), some (.int (a : Int)), some (.ref HD), o6, o7, o8, o9, o10, o11] ∧ Same H4 H6 ∧ DicI H6 HD m' ∧ m'.length ≤ 3 * j ∧ ∀ j' ∈ pla l o a, j' < j → ∀ w : Int, -1 ≤ w → w ≤ 1 → lk m' ((j' : Int), w) = some (nd l sl (o.drop a) ((j' : Int), w)).1) ?_ ?_ ?_
      · exact ⟨Nat.zero_le _, _, _, _, _, _, _, [], rfl, s5, DicI.nil, Nat.zero_le _, fun j' _ h => absurd h (Nat.not_lt_zero _)⟩
      · rintro j σ H6 hj ⟨_, o6', o7', o8', o9', o10', o11', m', rfl, s6, hH6, hm3, hmm⟩
        rw [show (0 + (j : Int)) = (j : Int) by omega]
        have hatw := at_getD (l := l) (z := (j : Int)) (by omega) (by omega)
        rw [Int.toNat_natCast] at hatw
        refine ⟨fun b H' => H' = H6 ∧ b = decide (j ∈ pla l o a), ?_, ?_⟩
        · refine ⟨_, rfl, rfl, _, rfl, ?_⟩
          by_cases e0 : a = 0
          · rw [decide_eq_true (show V.int (a : Int) = V.int 0 by rw [e0]; rfl)]
            refine iteT ⟨rfl, ?_⟩
            exact (decide_eq_true (mem_pla.mpr ⟨hj, .inl e0⟩)).symm
          · rw [decide_eq_false (show ¬ V.int (a : Int) = V.int 0 from fun e => e0 (by have := V.int.inj e; omega))]
            refine iteF ?_
            have hato := at_getD (l := o) (z := (a : Int) - 1) (by omega) (by omega)
            rw [show ((a : Int) - 1).toNat = a - 1 by omega] at hato
            refine ⟨_, rfl, _, rfl, _, _, _, rfl, rfl, hz, hatw, _, rfl, _, rfl, _, _, rfl, rfl, _, _, _, rfl, rfl, hzo, hato, rfl, _, rfl, rfl, ?_⟩
            refine (eq_sgn (l.getD j 0) (o.getD (a - 1) 0)).trans ?_
            refine decide_eq_decide.mpr ⟨fun e => mem_pla.mpr ⟨hj, .inr e⟩, fun e => (mem_pla.mp e).2.resolve_left e0⟩
        rintro b H' ⟨rfl, rfl⟩
        by_cases hjp : j ∈ pla l o a
        · rw [decide_eq_true hjp]
          refine iteT ?_
          refine ⟨_, rfl, (by show 3 ≤ sizeLine; decide), fun TW hTW => ?_⟩
          have sTW := Same.new (o := .tup ways3) hTW
          refine ⟨TW, rfl, ⟨_, SqT.of upd_same⟩, for_tup (xs := ways3) (fun x σ H8 => ∃ (o7 o8 o9 o10 o11 : Option V) (m' : List (Std × Int)), σ = [some (.str (txt l)), some (.str (txt o)), some (.int sl), some (.ref FA), some (.int (a : Int)), some (.ref HD), some (.int (j : Int)), o7, o8, o9, o10, o11] ∧ Same H4 H8 ∧ H8 TW = some (.tup ways3) ∧ DicI H8 HD m' ∧ m'.length ≤ 3 * j + x ∧ (∀ j' ∈ pla l o a, j' < j → ∀ w : Int, -1 ≤ w → w ≤ 1 → lk m' ((j' : Int), w) = some (nd l sl (o.drop a) ((j' : Int), w)).1) ∧ ∀ w : Int, -1 ≤ w → w < (x : Int) - 1 → lk m' ((j : Int), w) = some (nd l sl (o.drop a) ((j : Int), w)).1) ?_ ?_ ?_ ?_⟩
          · exact ⟨_, _, _, _, _, m', rfl, s6.trans sTW, upd_same, hH6.same sTW, by omega, hmm, fun w w0 w1 => by omega⟩
          · rintro x σ H8 _ ⟨_, _, _, _, _, m', rfl, _, hT, _⟩
            exact SqT.of hT
          · rintro x v σ H8 hv ⟨p7, p8, p9, p10, p11, m', rfl, s8, hT8, hH8, hm3, hmm, hmw⟩
            obtain ⟨hx3, rfl⟩ := ways_at hv
            obtain ⟨wy, ewy⟩ : ∃ wy : Int, (x : Int) - 1 = wy := ⟨_, rfl⟩
            rw [ewy]
            have wy0 : -1 ≤ wy := by omega
            have wy1 : wy ≤ 1 := by omega
            refine ⟨(by show 1 ≤ sizeLine; decide), fun C0 hC0 => ?_⟩
            refine ⟨fun σ H9 => ∃ (o9 o10 o11 : Option V) (CO : Addr) (xs : List Int), σ = [some (.str (txt l)), some (.str (txt o)), some (.int sl), some (.ref FA), some (.int (a : Int)), some (.ref HD), some (.int (j : Int)), some (.int wy), some (.ref CO), o9, o10, o11] ∧ Same H8 H9 ∧ H9 CO = some (.lst (xs.map V.int)) ∧ 0 < xs.length ∧ ∀ kk ∈ xs, (∀ y ∈ xs, kk ≤ y) → kk = (nd l sl (o.drop a) ((j : Int), wy)).1, ?_, ?_⟩
            · refine ⟨_, rfl, _, rfl, _, rfl, hzo, _, _, rfl, rfl, _, rfl, ?_⟩
              rw [txt_length]
              by_cases hlt : (a : Int) < (o.length : Int)
              · rw [decide_eq_true hlt]
                refine iteT ?_
                have sC0 := Same.new (o := .lst [.int 0]) hC0
                refine ⟨(by show 0 ≤ sizeLine; decide), fun C1 hC1 => ?_⟩
                have sC1 := sC0.trans (Same.new (o := .lst []) hC1)
                have hC18 : H8 C1 = none := sC0.free hC1
                obtain ⟨c, hc⟩ : ∃ c, o[a]? = some c := ⟨_, List.getElem?_eq_getElem (by omega)⟩
                have hcm := List.mem_of_getElem? hc
                have hat := at_getD (l := o) (z := (a : Int)) (by omega) (by omega)
                have hgc : o.getD ((a : Int)).toNat 0 = c := by rw [Int.toNat_natCast, List.getD_eq_getElem?_getD, hc]; rfl
                rw [hgc] at hat
                have hdr : ∀ x ∈ o.drop (a + 1), x ∈ l := fun x hx => hin x (List.mem_of_mem_drop hx)
                obtain ⟨m0, hm0⟩ : ∃ m, ms[0]? = some m := ⟨_, List.getElem?_eq_getElem (by omega)⟩
                obtain ⟨d0, hd0, hdm0⟩ := hds.get' hm0
                have hrow := hms 0 m0 hm0
                rw [show o.length + 1 - i + 0 = a + 1 by omega] at hrow
                have hat0 : atI ((ds ++ [E0]).map V.ref) 0 = some (.ref d0) := atI_nat (j := 0) (by
                  rw [List.getElem?_map, List.getElem?_append_left (by rw [hds.length]; omega), hd0]; rfl)
                refine ⟨_, rfl, _, rfl, _, rfl, _, rfl, _, _, _, rfl, rfl, hzo, hat, l, (j : Int), c, rfl, hW, fun D0 H9 s9 hD0 hD09 => ?_⟩
                refine ⟨D0, rfl, ⟨_, SqL.of hD09⟩, for_list (xs := (tts l (j : Int) c).map V.int) (fun y σ HA => ∃ (o9 o10 o11 : Option V), σ = [some (.str (txt l)), some (.str (txt o)), some (.int sl), some (.ref FA), some (.int (a : Int)), some (.ref HD), some (.int (j : Int)), some (.int wy), some (.ref C1), o9, o10, o11] ∧ Same H8 HA ∧ HA D0 = some (.lst ((tts l (j : Int) c).map V.int)) ∧ HA C1 = some (.lst ((((tts l (j : Int) c).take y).map fun t => (nd l sl (o.drop (a + 1)) (bh l ((j : Int), wy) t)).1 + tc wy t sl).map V.int))) ?_ ?_ ?_ ?_⟩
                · exact ⟨_, _, _, rfl, sC1.trans s9, hD09, s9 _ _ upd_same⟩
                · rintro y σ HA _ ⟨_, _, _, rfl, _, hD, _⟩
                  exact SqL.of hD
                · rintro y v σ HA hv ⟨q9, q10, q11, rfl, sA, hDA, hCA⟩
                  rw [List.getElem?_map] at hv
                  cases et : (tts l (j : Int) c)[y]? with
                  | none => rw [et] at hv; cases hv
                  | some t =>
                    rw [et] at hv
                    cases hv
                    have htm := List.mem_of_getElem? et
                    have etk : (tts l (j : Int) c).take (y + 1) = (tts l (j : Int) c).take y ++ [t] := by rw [List.take_add_one, et]; rfl
                    refine ⟨_, rfl, _, rfl, _, rfl, t, wy, sl, rfl, wy0, wy1, fun q HB sB hq hqB => ?_⟩
                    refine ⟨q, _, rfl, SqT.of hqB, rfl, _, _, rfl, _, _, rfl, rfl, ?_⟩
                    have hCB := sB _ _ hCA
                    have hFB := sB _ _ (sA _ _ (s8 _ _ hF4))
                    refine ⟨_, rfl, .inl ⟨rfl, _, SqL.of hCB⟩, ?_⟩
                    refine ⟨_, rfl, FA, _, _, _, rfl, rfl, SqL.of hFB, hat0, _, rfl, _, rfl, _, _, rfl, rfl, _, rfl, _, rfl, hz, _, _, rfl, rfl, (by rw [txt_length]; show (0 : Int) < _; omega), _, rfl, (by show 2 ≤ sizeLine; decide), fun q1 hq1 => ?_⟩
                    rw [txt_length]
                    have s1 := Same.new (o := .tup [.int (((j : Int) + t) % (l.length : Int)), .int (wb wy t)]) hq1
                    have hdB := (((hdm0.same s8).same sA).same sB).same s1
                    have hget := DicI.get (st := bh l ((j : Int), wy) t) (b := q1) hdB (hrow.on h1 hc wy0 wy1 htm) upd_same
                    refine ⟨d0, _, rfl, hget, _, rfl, _, _, rfl, rfl, C1, _, _, rfl, rfl, s1 _ _ hCB, ?_, ?_⟩
                    · rw [List.length_map, List.length_map, List.length_take]
                      have := tts_len l (j : Int) c
                      exact small1000 (by omega)
                    · have hDC : D0 ≠ C1 := (ne_of_none (H := upd (upd H8 C0 (.lst [.int 0])) C1 (.lst [])) upd_same hD0).symm
                      refine ⟨_, _, _, rfl, ((sA.trans sB).trans s1).upd' hC18, by rw [upd_ne hDC]; exact s1 _ _ (sB _ _ hDA), ?_⟩
                      rw [upd_same, etk, List.map_append, List.map_append]
                      rfl
                · rintro σ HA ⟨q9, q10, q11, rfl, sA, hDA, hCA⟩
                  rw [List.length_map, List.take_length] at hCA
                  refine ⟨_, _, _, C1, _, rfl, sA, hCA, ?_, fun kk hk hl => ?_⟩
                  · obtain ⟨t0, ht0⟩ := tts_ne (p := (j : Int)) h1 (hin c hcm)
                    rw [List.length_map]
                    exact List.length_pos_of_mem ht0
                  · rw [drop_cons hc]
                    exact nd_min (st := ((j : Int), wy)) h1 hdr hk hl
              · rw [decide_eq_false hlt]
                refine iteF ?_
                refine ⟨_, _, _, C0, [0], rfl, Same.new hC0, upd_same, by decide, fun kk hk _ => ?_⟩
                rw [List.drop_of_length_le (by omega), nd_nil]
                exact List.mem_singleton.mp hk
            rintro σ H9 ⟨q9, q10, q11, CO, xs, rfl, s9, hCO, hpos, hmin⟩
            refine ⟨_, rfl, CO, xs, rfl, SqL.of hCO, hpos, fun kk hk1 hk2 => ?_⟩
            have ekk := hmin kk hk1 hk2
            subst ekk
            refine ⟨_, rfl, _, rfl, _, rfl, (by show 2 ≤ sizeLine; decide), fun q3 hq3 => ?_⟩
            have s3 := s9.trans (Same.new (o := .tup [.int (j : Int), .int wy]) hq3)
            obtain ⟨kvs, hRk, dp, hR6⟩ := DicI.put (st := ((j : Int), wy)) (x := (nd l sl (o.drop a) ((j : Int), wy)).1) (hH8.same s3) upd_same (small1000 (by omega))
            refine ⟨HD, _, rfl, dp, ?_⟩
            have hTH : TW ≠ HD := ne_of (s3 _ _ hT8) hRk (fun z => nomatch z)
            refine ⟨_, _, _, _, _, pt m' ((j : Int), wy) (nd l sl (o.drop a) ((j : Int), wy)).1, rfl, (s8.trans s3).upd' hHD, by rw [upd_ne hTH]; exact s3 _ _ hT8, hR6, Nat.le_trans (pt_len _ _ _) (by omega), fun j' hj' hlt w w0 w1 => ?_, fun w w0 w1 => ?_⟩
            · rw [lk_pt]
              by_cases e : ((j' : Int), w) = ((j : Int), wy)
              · rw [if_pos e, e]
              · rw [if_neg e]; exact hmm j' hj' hlt w w0 w1
            · rw [lk_pt]
              by_cases e : ((j : Int), w) = ((j : Int), wy)
              · rw [if_pos e, e]
              · rw [if_neg e]
                have : w ≠ wy := fun z => e (by rw [z])
                exact hmw w w0 (by omega)
          · rintro σ H8 ⟨p7, p8, p9, p10, p11, m', rfl, s8, hT8, hH8, hm3, hmm, hmw⟩
            have h3 : ways3.length = 3 := rfl
            refine ⟨hj, _, _, _, _, _, _, m', rfl, s8, hH8, by omega, fun j' hj' hlt w w0 w1 => ?_⟩
            by_cases e : j' = j
            · subst e; exact hmw w w0 (by omega)
            · exact hmm j' hj' (by omega) w w0 w1
        · rw [decide_eq_false hjp]
          refine iteF ?_
          refine ⟨hj, _, _, _, _, _, _, m', rfl, s6, hH6, by omega, fun j' hj' hlt w w0 w1 => ?_⟩
          by_cases e : j' = j
          · subst e; exact absurd hj' hjp
          · exact hmm j' hj' (by omega) w w0 w1
      · rintro σ H6 ⟨_, o6', o7', o8', o9', o10', o11', m', rfl, s6, hH6, hm3, hmm⟩
        refine ⟨_, rfl, (by show 1 ≤ sizeLine; decide), fun L1 hL1 => ?_⟩
        have sL := Same.new (o := .lst [.ref HD]) hL1
        have hF6 := sL _ _ (s6 _ _ hF4)
        have hdl : ds.length = i := by rw [hds.length, hml]
        refine ⟨_, rfl, L1, FA, _, _, rfl, rfl, upd_same, hF6, (by rw [List.length_map, List.length_append, hdl]; exact Nat.le_of_lt (small1000 (by show 1 + (i + 1) ≤ _; omega))), fun p hp => ?_⟩
        have s7 := (s6.trans sL).trans (Same.new (o := .lst ([V.ref HD] ++ (ds ++ [E0]).map V.ref)) hp)
        refine ⟨hi, _, _, _, _, _, _, _, _, p, HD :: ds, m' :: ms, rfl, s4.trans s7, upd_same, .cons ((hH6.same sL).same (Same.new hp)) (hds.imp fun x y _ r => r.same s7), by rw [List.length_cons, hml], fun x m hx => ?_⟩
        cases x with
        | zero =>
          cases hx
          rw [show o.length + 1 - (i + 1) + 0 = a by omega]
          exact fun j' hj' w w0 w1 => hmm j' hj' (pla_lt hj') w w0 w1
        | succ x =>
          rw [List.getElem?_cons_succ] at hx
          have := hms x m hx
          rwa [show o.length + 1 - i + x = o.length + 1 - (i + 1) + (x + 1) by omega] at this
    · rintro σ H4 ⟨_, o4, o5, o6, o7, o8, o9, o10, o11, FA, ds, ms, rfl, s4, hF4, hds, hml, hms⟩
      refine ⟨_, rfl, k FA ds ms E0 H4 s4 hF4 hds hml fun i m hi => ?_⟩
      have := hms i m hi
      rwa [show o.length + 1 - (o.length + 1) + i = i by omega] at this
end
end W

set_option Elab.async false
set_option linter.all false
set_option maxRecDepth 100000
set_option maxHeartbeats 4000000
namespace W
open PySem L2 WM

abbrev sLaw : Stmt := top 47
abbrev psLaw : List Str := ["script"]
theorem scLaw : FnScope ["script", "draws", "slack", "many", "wheel", "word", "lefts", "place", "way", "due", "k", "turn", "later", "more", "there", "lost", "behind", "one", "last"] ["script"] (defScope sLaw) := ⟨rfl, rfl, rfl, by decide +kernel, rfl, by decide +kernel, by decide +kernel⟩
theorem lLaw_0 : Loc (defScope sLaw) "script" := Or.inl (by decide +kernel)
theorem vLaw_0 : Vis (defScope sLaw) "script" := Or.inl (by decide +kernel)
theorem lLaw_1 : Loc (defScope sLaw) "draws" := Or.inl (by decide +kernel)
theorem vLaw_1 : Vis (defScope sLaw) "draws" := Or.inl (by decide +kernel)
theorem lLaw_2 : Loc (defScope sLaw) "slack" := Or.inl (by decide +kernel)
theorem vLaw_2 : Vis (defScope sLaw) "slack" := Or.inl (by decide +kernel)
theorem lLaw_3 : Loc (defScope sLaw) "many" := Or.inl (by decide +kernel)
theorem vLaw_3 : Vis (defScope sLaw) "many" := Or.inl (by decide +kernel)
theorem lLaw_4 : Loc (defScope sLaw) "wheel" := Or.inl (by decide +kernel)
theorem vLaw_4 : Vis (defScope sLaw) "wheel" := Or.inl (by decide +kernel)
theorem lLaw_5 : Loc (defScope sLaw) "word" := Or.inl (by decide +kernel)
theorem vLaw_5 : Vis (defScope sLaw) "word" := Or.inl (by decide +kernel)
theorem lLaw_6 : Loc (defScope sLaw) "lefts" := Or.inl (by decide +kernel)
theorem vLaw_6 : Vis (defScope sLaw) "lefts" := Or.inl (by decide +kernel)
theorem lLaw_7 : Loc (defScope sLaw) "place" := Or.inl (by decide +kernel)
theorem vLaw_7 : Vis (defScope sLaw) "place" := Or.inl (by decide +kernel)
theorem lLaw_8 : Loc (defScope sLaw) "way" := Or.inl (by decide +kernel)
theorem vLaw_8 : Vis (defScope sLaw) "way" := Or.inl (by decide +kernel)
theorem lLaw_9 : Loc (defScope sLaw) "due" := Or.inl (by decide +kernel)
theorem vLaw_9 : Vis (defScope sLaw) "due" := Or.inl (by decide +kernel)
theorem lLaw_10 : Loc (defScope sLaw) "k" := Or.inl (by decide +kernel)
theorem vLaw_10 : Vis (defScope sLaw) "k" := Or.inl (by decide +kernel)
theorem lLaw_11 : Loc (defScope sLaw) "turn" := Or.inl (by decide +kernel)
theorem vLaw_11 : Vis (defScope sLaw) "turn" := Or.inl (by decide +kernel)
theorem lLaw_12 : Loc (defScope sLaw) "later" := Or.inl (by decide +kernel)
theorem vLaw_12 : Vis (defScope sLaw) "later" := Or.inl (by decide +kernel)
theorem lLaw_13 : Loc (defScope sLaw) "more" := Or.inl (by decide +kernel)
theorem vLaw_13 : Vis (defScope sLaw) "more" := Or.inl (by decide +kernel)
theorem lLaw_14 : Loc (defScope sLaw) "there" := Or.inl (by decide +kernel)
theorem vLaw_14 : Vis (defScope sLaw) "there" := Or.inl (by decide +kernel)
theorem lLaw_15 : Loc (defScope sLaw) "lost" := Or.inl (by decide +kernel)
theorem vLaw_15 : Vis (defScope sLaw) "lost" := Or.inl (by decide +kernel)
theorem lLaw_16 : Loc (defScope sLaw) "behind" := Or.inl (by decide +kernel)
theorem vLaw_16 : Vis (defScope sLaw) "behind" := Or.inl (by decide +kernel)
theorem lLaw_18 : Loc (defScope sLaw) "last" := Or.inl (by decide +kernel)
theorem vLaw_18 : Vis (defScope sLaw) "last" := Or.inl (by decide +kernel)
section
variable {P : Program} {w : World} {K : PySem.W.Frag} {mg : Str → Option Value} {base : Heap}
def spLaw (K : PySem.W.Frag) : Sp := fun vs H Q _ => ∃ (a : Addr) (ns : List Int), vs = [.ref a] ∧ SqL K H a (ns.map V.int) ∧ ns.length ≤ 63 ∧ ∀ H', Q (.bl true) H'
theorem ok_law {C11 C12 C8 C0 : Addr} {f : Addr} {fd : FuncData} (F : Fun K "law" "law" sLaw f fd) (T : Txt mg) (CDs : Cal P w K mg base CX0 1 "_law_draws" ["script", "k"] (spDraws K)) (CDw : Cal P w K mg base CX0 1 "_law_draw" ["draws", "many"] spDraw)
    (CLe : Cal P w K mg base CX0 2 "_law_letters" ["draws", "many", "kinds"] spLetters) (CLw : Cal P w K mg base CX0 2 "_law_word" ["draws", "wheel", "most"] spLWord) (CLr : Cal P w K mg base CX0 2 "_law_rests" ["wheel", "word", "slack"] spRst)
    (CRt : Cal P w K mg base CX0 1 "_law_reach_turns" ["wheel", "place", "sign"] spTTo) (CLs : Cal P w K mg base CX0 1 "_law_step" ["turn", "way", "slack"] spLStep) (CPl : Cal P w K mg base (CX1 P w) 9 "least_plan" ["wheel", "word", "slack"] (spLPl C11 C12 C8 C0))
    (CTb : Cal P w K mg base (CX1 P w) 6 "table" ["wheel", "word", "slack"] (spTable C11 C12 C8 C0)) (CLc : Cal P w K mg base CX0 2 "_law_cost" ["turns", "slack"] (spLCost K)) :
    FnOk P w K mg base CX0 10 f fd ["script"] (spLaw K) := by
  obtain ⟨fDs, dDs, GDs, kDs, bDs, mDs⟩ := CDs
  obtain ⟨fDw, dDw, GDw, kDw, bDw, mDw⟩ := CDw
  obtain ⟨fLe, dLe, GLe, kLe, bLe, mLe⟩ := CLe
  obtain ⟨fLw, dLw, GLw, kLw, bLw, mLw⟩ := CLw
  obtain ⟨fLr, dLr, GLr, kLr, bLr, mLr⟩ := CLr
  obtain ⟨fRt, dRt, GRt, kRt, bRt, mRt⟩ := CRt
  obtain ⟨fLs, dLs, GLs, kLs, bLs, mLs⟩ := CLs
  obtain ⟨fPl, dPl, GPl, kPl, bPl, mPl⟩ := CPl
  obtain ⟨fTb, dTb, GTb, kTb, bTb, mTb⟩ := CTb
  obtain ⟨fLc, dLc, GLc, kLc, bLc, mLc⟩ := CLc
  refine F.ok scLaw (fun vs H Q E h => ?_) (fun cdv A outer s H vs Q E hr h => ?_)
  · obtain ⟨a, ns, rfl, _⟩ := h
    rfl
  · obtain ⟨a, ns, rfl, hS, hlen, k⟩ := h
    have hu := hu_of hr
    refine ⟨_, (@pss_cons _ _ _ _ _ (@ps_set _ _ 1 _ _ _ _ scLaw.nd rfl lLaw_1 (@pe_call _ _ _ _ _ _ _ _ _ _ _ _ _ _ _ _ GDs (hr.mono (by decide)) (by rfl) mDs kDs bDs .nil pass0 (@pa_cN _ _ _ _ _ _ (@pv _ 0 _ _ (by rfl) vLaw_0 (by decide) (by decide)) (@pa_cC _ _ _ _ _ _ _ (@pe_int _ _ _ _) (@pa_nil _))) (by decide) (by rfl) (by rfl)) (by rfl) (by first | exact .inl rfl | exact .inr rfl | assumption)) (@pss_cons _ _ _ _ _ (@ps_set _ _ 2 _ _ _ _ scLaw.nd rfl lLaw_2 (@pe_ix _ _ _ _ _ _ _ ix_list (@pe_lst _ _ _ _ (@pa_cC _ _ _ _ _ _ _ (@pe_int _ _ _ _) (@pa_cC _ _ _ _ _ _ _ (@pe_int _ _ _ _) (@pa_cC _ _ _ _ _ _ _ (@pe_int _ _ _ _) (@pa_cK _ _ _ _ _ _ _ _ (@pe_call _ _ _ _ _ _ _ _ _ _ _ _ _ _ _ _ GDw (hr.mono (by decide)) (by rfl) mDw kDw bDw .nil pass0 (@pa_cN _ _ _ _ _ _ (@pv _ 1 _ _ (by rfl) vLaw_1 (by decide) (by decide)) (@pa_cC _ _ _ _ _ _ _ (@pe_int _ _ _ _) (@pa_nil _))) (by decide) (by rfl) (by rfl)) (@pa_nil _)))))) (@pe_call _ _ _ _ _ _ _ _ _ _ _ _ _ _ _ _ GDw (hr.mono (by decide)) (by rfl) mDw kDw bDw .nil pass0 (@pa_cN _ _ _ _ _ _ (@pv _ 1 _ _ (by rfl) vLaw_1 (by decide) (by decide)) (@pa_cC _ _ _ _ _ _ _ (@pe_int _ _ _ _) (@pa_nil _))) (by decide) (by rfl) (by rfl)) (fun _ _ => rfl)) (by rfl) (by first | exact .inl rfl | exact .inr rfl | assumption)) (@pss_cons _ _ _ _ _ (@ps_set _ _ 3 _ _ _ _ scLaw.nd rfl lLaw_3 (@pe_ix _ _ _ _ _ _ _ ix_list (@pe_lst _ _ _ _ (@pa_cB _ _ _ _ _ _ _ _ (@pe_op _ _ _ _ _ _ _ _ op_add (@pe_int _ _ _ _) (@pe_call _ _ _ _ _ _ _ _ _ _ _ _ _ _ _ _ GDw (hr.mono (by decide)) (by rfl) mDw kDw bDw .nil pass0 (@pa_cN _ _ _ _ _ _ (@pv _ 1 _ _ (by rfl) vLaw_1 (by decide) (by decide)) (@pa_cC _ _ _ _ _ _ _ (@pe_int _ _ _ _) (@pa_nil _))) (by decide) (by rfl) (by rfl))) (@pa_cC _ _ _ _ _ _ _ (@pe_int _ _ _ _) (@pa_cB _ _ _ _ _ _ _ _ (@pe_op _ _ _ _ _ _ _ _ op_add (@pe_int _ _ _ _) (@pe_call _ _ _ _ _ _ _ _ _ _ _ _ _ _ _ _ GDw (hr.mono (by decide)) (by rfl) mDw kDw bDw .nil pass0 (@pa_cN _ _ _ _ _ _ (@pv _ 1 _ _ (by rfl) vLaw_1 (by decide) (by decide)) (@pa_cC _ _ _ _ _ _ _ (@pe_int _ _ _ _) (@pa_nil _))) (by decide) (by rfl) (by rfl))) (@pa_nil _))))) (@pe_call _ _ _ _ _ _ _ _ _ _ _ _ _ _ _ _ GDw (hr.mono (by decide)) (by rfl) mDw kDw bDw .nil pass0 (@pa_cN _ _ _ _ _ _ (@pv _ 1 _ _ (by rfl) vLaw_1 (by decide) (by decide)) (@pa_cC _ _ _ _ _ _ _ (@pe_int _ _ _ _) (@pa_nil _))) (by decide) (by rfl) (by rfl)) (fun _ _ => rfl)) (by rfl) (by first | exact .inl rfl | exact .inr rfl | assumption)) (@pss_cons _ _ _ _ _ (@ps_set _ _ 4 _ _ _ _ scLaw.nd rfl lLaw_4 (@pe_call _ _ _ _ _ _ _ _ _ _ _ _ _ _ _ _ GLe (hr.mono (by decide)) (by rfl) mLe kLe bLe .nil pass0 (@pa_cN _ _ _ _ _ _ (@pv _ 1 _ _ (by rfl) vLaw_1 (by decide) (by decide)) (@pa_cN _ _ _ _ _ _ (@pv _ 3 _ _ (by rfl) vLaw_3 (by decide) (by decide)) (@pa_cB _ _ _ _ _ _ _ _ (@pe_op _ _ _ _ _ _ _ _ op_add (@pe_int _ _ _ _) (@pe_call _ _ _ _ _ _ _ _ _ _ _ _ _ _ _ _ GDw (hr.mono (by decide)) (by rfl) mDw kDw bDw .nil pass0 (@pa_cN _ _ _ _ _ _ (@pv _ 1 _ _ (by rfl) vLaw_1 (by decide) (by decide)) (@pa_cC _ _ _ _ _ _ _ (@pe_int _ _ _ _) (@pa_nil _))) (by decide) (by rfl) (by rfl))) (@pa_nil _)))) (by decide) (by rfl) (by rfl)) (by rfl) (by first | exact .inl rfl | exact .inr rfl | assumption)) (@pss_cons _ _ _ _ _ (@ps_set _ _ 5 _ _ _ _ scLaw.nd rfl lLaw_5 (@pe_call _ _ _ _ _ _ _ _ _ _ _ _ _ _ _ _ GLw (hr.mono (by decide)) (by rfl) mLw kLw bLw .nil pass0 (@pa_cN _ _ _ _ _ _ (@pv _ 1 _ _ (by rfl) vLaw_1 (by decide) (by decide)) (@pa_cN _ _ _ _ _ _ (@pv _ 4 _ _ (by rfl) vLaw_4 (by decide) (by decide)) (@pa_cC _ _ _ _ _ _ _ (@pe_int _ _ _ _) (@pa_nil _)))) (by decide) (by rfl) (by rfl)) (by rfl) (by first | exact .inl rfl | exact .inr rfl | assumption)) (@pss_cons _ _ _ _ _ (@ps_set _ _ 6 _ _ _ _ scLaw.nd rfl lLaw_6 (@pe_call _ _ _ _ _ _ _ _ _ _ _ _ _ _ _ _ GLr (hr.mono (by decide)) (by rfl) mLr kLr bLr .nil pass0 (@pa_cN _ _ _ _ _ _ (@pv _ 4 _ _ (by rfl) vLaw_4 (by decide) (by decide)) (@pa_cN _ _ _ _ _ _ (@pv _ 5 _ _ (by rfl) vLaw_5 (by decide) (by decide)) (@pa_cN _ _ _ _ _ _ (@pv _ 2 _ _ (by rfl) vLaw_2 (by decide) (by decide)) (@pa_nil _)))) (by decide) (by rfl) (by rfl)) (by rfl) (by first | exact .inl rfl | exact .inr rfl | assumption)) (@pss_cons _ _ _ _ _ (@ps_set _ _ 7 _ _ _ _ scLaw.nd rfl lLaw_7 (@pe_int _ _ _ _) (by rfl) (by first | exact .inl rfl | exact .inr rfl | assumption)) (@pss_cons _ _ _ _ _ (@ps_set _ _ 8 _ _ _ _ scLaw.nd rfl lLaw_8 (@pe_int _ _ _ _) (by rfl) (by first | exact .inl rfl | exact .inr rfl | assumption)) (@pss_cons _ _ _ _ _ (@ps_set _ _ 9 _ _ _ _ scLaw.nd rfl lLaw_9 (@pe_lst _ _ _ _ (@pa_nil _)) (by rfl) (by first | exact .inl rfl | exact .inr rfl | assumption)) (@pss_cons _ _ _ _ _ (@ps_for _ _ _ _ _ _ _ _ PassesOwn.never rfl (@pi_range1 _ _ _ _ _ _ (by rfl) T.range (@pa_cK _ _ _ _ _ _ _ _ (@pe_callB _ _ _ _ _ _ _ _ _ call_len_str (by rfl) T.len PySem.boot_len (@pa_cN _ _ _ _ _ _ (@pv _ 5 _ _ (by rfl) vLaw_5 (by decide) (by decide)) (@pa_nil _)) (by decide) (by decide) (by rfl) (by rfl)) (@pa_nil _)) (by rfl)) (@pg_name _ _ 10 _ scLaw.nd rfl lLaw_10 (by first | exact .inl rfl | exact .inr rfl | assumption)) (@pss_cons _ _ _ _ _ (@ps_for _ _ _ _ _ _ _ _ PassesOwn.never rfl (@pi_list _ _ _ _ (@pe_call _ _ _ _ _ _ _ _ _ _ _ _ _ _ _ _ GRt (hr.mono (by decide)) (by rfl) mRt kRt bRt .nil pass0 (@pa_cN _ _ _ _ _ _ (@pv _ 4 _ _ (by rfl) vLaw_4 (by decide) (by decide)) (@pa_cN _ _ _ _ _ _ (@pv _ 7 _ _ (by rfl) vLaw_7 (by decide) (by decide)) (@pa_cS _ _ _ _ _ _ _ (@pe_ix _ _ _ _ _ _ _ ix_str (@pv _ 5 _ _ (by rfl) vLaw_5 (by decide) (by decide)) (@pv _ 10 _ _ (by rfl) vLaw_10 (by decide) (by decide)) (fun _ _ => rfl)) (@pa_nil _)))) (by decide) (by rfl) (by rfl))) (@pg_name _ _ 11 _ scLaw.nd rfl lLaw_11 (by first | exact .inl rfl | exact .inr rfl | assumption)) (@pss_cons _ _ _ _ _ (@ps_asg _ _ _ _ _ _ (@pe_call _ _ _ _ _ _ _ _ _ _ _ _ _ _ _ _ GLs (hr.mono (by decide)) (by rfl) mLs kLs bLs .nil pass0 (@pa_cN _ _ _ _ _ _ (@pv _ 11 _ _ (by rfl) vLaw_11 (by decide) (by decide)) (@pa_cN _ _ _ _ _ _ (@pv _ 8 _ _ (by rfl) vLaw_8 (by decide) (by decide)) (@pa_cN _ _ _ _ _ _ (@pv _ 2 _ _ (by rfl) vLaw_2 (by decide) (by decide)) (@pa_nil _)))) (by decide) (by rfl) (by rfl)) (@pg_tup _ _ _ _ _ _ rfl (@pgs_cons _ _ _ _ _ (@pg_name _ _ 12 _ scLaw.nd rfl lLaw_12 (by first | exact .inl rfl | exact .inr rfl | assumption)) (@pgs_cons _ _ _ _ _ (@pg_name _ _ 13 _ scLaw.nd rfl lLaw_13 (by first | exact .inl rfl | exact .inr rfl | assumption)) (@pgs_nil _) (by rfl)) (by rfl)) (by rfl) (by rfl)) (by rfl) (by rfl) (by rfl)) (@pss_cons _ _ _ _ _ (@ps_set _ _ 14 _ _ _ _ scLaw.nd rfl lLaw_14 (@pe_tup _ _ _ _ _ (@pa_cB _ _ _ _ _ _ _ _ (@pe_op _ _ _ _ _ _ _ _ op_mod (@pe_op _ _ _ _ _ _ _ _ op_add (@pv _ 7 _ _ (by rfl) vLaw_7 (by decide) (by decide)) (@pv _ 11 _ _ (by rfl) vLaw_11 (by decide) (by decide))) (@pe_callB _ _ _ _ _ _ _ _ _ call_len_str (by rfl) T.len PySem.boot_len (@pa_cN _ _ _ _ _ _ (@pv _ 4 _ _ (by rfl) vLaw_4 (by decide) (by decide)) (@pa_nil _)) (by decide) (by decide) (by rfl) (by rfl))) (@pa_cN _ _ _ _ _ _ (@pv _ 12 _ _ (by rfl) vLaw_12 (by decide) (by decide)) (@pa_nil _)))) (by rfl) (by first | exact .inl rfl | exact .inr rfl | assumption)) (@pss_cons _ _ _ _ _ (@ps_set _ _ 15 _ _ _ _ scLaw.nd rfl lLaw_15 (@pe_op _ _ _ _ _ _ _ _ op_sub (@pe_op _ _ _ _ _ _ _ _ op_add (@pe_dget _ _ _ _ _ _ hu (@pe_ix _ _ _ _ _ _ _ ix_list (@pv _ 6 _ _ (by rfl) vLaw_6 (by decide) (by decide)) (@pe_op _ _ _ _ _ _ _ _ op_add (@pv _ 10 _ _ (by rfl) vLaw_10 (by decide) (by decide)) (@pe_int _ _ _ _)) (fun _ _ => rfl)) (@pv _ 14 _ _ (by rfl) vLaw_14 (by decide) (by decide)) (fun _ _ => rfl)) (@pv _ 13 _ _ (by rfl) vLaw_13 (by decide) (by decide))) (@pe_dget _ _ _ _ _ _ hu (@pe_ix _ _ _ _ _ _ _ ix_list (@pv _ 6 _ _ (by rfl) vLaw_6 (by decide) (by decide)) (@pv _ 10 _ _ (by rfl) vLaw_10 (by decide) (by decide)) (fun _ _ => rfl)) (@pe_tup _ _ _ _ _ (@pa_cN _ _ _ _ _ _ (@pv _ 7 _ _ (by rfl) vLaw_7 (by decide) (by decide)) (@pa_cN _ _ _ _ _ _ (@pv _ 8 _ _ (by rfl) vLaw_8 (by decide) (by decide)) (@pa_nil _)))) (fun _ _ => rfl))) (by rfl) (by first | exact .inl rfl | exact .inr rfl | assumption)) (@pss_one _ _ _ (@ps_if _ _ _ _ _ _ _ _ (@PW.pt _ _ _ (@pw_and _ _ _ _ _ _ _ (@pt_cmpR _ _ _ _ _ _ _ _ op_eq (@pe_callB _ _ _ _ _ _ _ _ _ call_len_seq (by rfl) T.len PySem.boot_len (@pa_cN _ _ _ _ _ _ (@pv _ 9 _ _ (by rfl) vLaw_9 (by decide) (by decide)) (@pa_nil _)) (by decide) (by decide) (by rfl) (by rfl)) (@pv _ 10 _ _ (by rfl) vLaw_10 (by decide) (by decide)) (nomark _)) (@pw_and1 _ _ _ _ (@pt_cmpR _ _ _ _ _ _ _ _ op_eq (@pv _ 15 _ _ (by rfl) vLaw_15 (by decide) (by decide)) (@pe_int _ _ _ _) (nomark _))))) (@pss_cons _ _ _ _ _ (@ps_expr _ _ _ _ (@pe_bm _ _ _ _ _ _ _ _ _ _ _ _ PySem.F.plainAttrs_list PySem.F.slot_list_append PySem.F.type_list_append mt_append (@pv _ 9 _ _ (by rfl) vLaw_9 (by decide) (by decide)) (@pa_cN _ _ _ _ _ _ (@pv _ 11 _ _ (by rfl) vLaw_11 (by decide) (by decide)) (@pa_nil _)) (by rfl) (by rfl) (by rfl) (by rfl) (by rfl)) (by rfl)) (@pss_one _ _ _ (@ps_set _ _ 16 _ _ _ _ scLaw.nd rfl lLaw_16 (@pv _ 14 _ _ (by rfl) vLaw_14 (by decide) (by decide)) (by rfl) (by first | exact .inl rfl | exact .inr rfl | assumption)))) (@pss_nil _)))))) (by intro _ ; rfl)) (@pss_one _ _ _ (@ps_asg _ _ _ _ _ _ (@pv _ 16 _ _ (by rfl) vLaw_16 (by decide) (by decide)) (@pg_tup _ _ _ _ _ _ rfl (@pgs_cons _ _ _ _ _ (@pg_name _ _ 7 _ scLaw.nd rfl lLaw_7 (by first | exact .inl rfl | exact .inr rfl | assumption)) (@pgs_cons _ _ _ _ _ (@pg_name _ _ 8 _ scLaw.nd rfl lLaw_8 (by first | exact .inl rfl | exact .inr rfl | assumption)) (@pgs_nil _) (by rfl)) (by rfl)) (by rfl) (by rfl)) (by rfl) (by rfl) (by rfl)))) (by intro _ ; rfl)) (@pss_cons _ _ _ _ _ (@ps_if _ _ _ _ _ _ _ _ (@pt_cmpR _ _ _ _ _ _ _ _ (op_neD hr.units) (@pe_call _ _ _ _ _ _ _ _ _ _ _ _ _ _ _ _ GPl (hr.mono (by decide)) (by rfl) mPl kPl bPl .nil pass10 (@pa_cN _ _ _ _ _ _ (@pv _ 4 _ _ (by rfl) vLaw_4 (by decide) (by decide)) (@pa_cN _ _ _ _ _ _ (@pv _ 5 _ _ (by rfl) vLaw_5 (by decide) (by decide)) (@pa_cN _ _ _ _ _ _ (@pv _ 2 _ _ (by rfl) vLaw_2 (by decide) (by decide)) (@pa_nil _)))) (by decide) (by rfl) (by rfl)) (@pv _ 9 _ _ (by rfl) vLaw_9 (by decide) (by decide)) (nomark _)) (@pss_one _ _ _ (@ps_ret _ _ _ _ (@pe_bl _ _ _ _))) (@pss_nil _)) (@pss_cons _ _ _ _ _ (@ps_setLc _ 18 _ _ _ _ _ _ _ [("one", 17)] _ _ _ (gName 17) _ _ (by rfl) scLaw.nd rfl rfl (sw_true rfl rfl rfl (by decide +kernel)) (@pi_list _ _ _ _ (@pe_ix _ _ _ _ _ _ _ ix_list (@pe_call _ _ _ _ _ _ _ _ _ _ _ _ _ _ _ _ GTb (hr.mono (by decide)) (by rfl) mTb kTb bTb .nil pass10 (@pa_cN _ _ _ _ _ _ (@pv _ 4 _ _ (by rfl) vLaw_4 (by decide) (by decide)) (@pa_cN _ _ _ _ _ _ (@pv _ 5 _ _ (by rfl) vLaw_5 (by decide) (by decide)) (@pa_cN _ _ _ _ _ _ (@pv _ 2 _ _ (by rfl) vLaw_2 (by decide) (by decide)) (@pa_nil _)))) (by decide) (by rfl) (by rfl)) (@pe_un _ _ _ _ _ _ un_neg (@pe_int _ _ _ _)) (fun _ _ => rfl))) (blkOk_by (own := [("one", 17)]) (N := ["script", "draws", "slack", "many", "wheel", "word", "lefts", "place", "way", "due", "k", "turn", "later", "more", "there", "lost", "behind", "one", "last"]) (sc := defScope sLaw) (by decide +kernel)) (fun _ _ _ _ _ => (@pg_name _ _ 17 _ scLaw.nd rfl (Or.inl rfl) (by first | exact .inl rfl | exact .inr rfl | assumption))) (fun _ _ _ _ _ => (@pts_nil _)) (fun _ _ _ _ _ => (@pe_ix _ _ _ _ _ _ (rIxT K) ix_tup (@pv _ 17 _ _ (by rfl) (by first | exact Or.inl rfl | exact Or.inr (Or.inl rfl) | exact Or.inr (Or.inr rfl)) (by decide) (by decide)) (@pe_int _ _ _ _) (fun _ _ => rfl))) (by intro _ ; rfl)) (@pss_one _ _ _ (@ps_ret _ _ _ _ (@pe_cmpR _ _ _ _ _ _ _ _ op_eq (@pe_callB _ _ _ _ _ _ _ _ _ (cr_min rfl) (by rfl) T.min (by decide +kernel) (@pa_cN _ _ _ _ _ _ (@pv _ 18 _ _ (by rfl) vLaw_18 (by decide) (by decide)) (@pa_nil _)) (by decide) (by decide) (by rfl) (by rfl)) (@pe_call _ _ _ _ _ _ _ _ _ _ _ _ _ _ _ _ GLc (hr.mono (by decide)) (by rfl) mLc kLc bLc .nil pass0 (@pa_cN _ _ _ _ _ _ (@pv _ 9 _ _ (by rfl) vLaw_9 (by decide) (by decide)) (@pa_cN _ _ _ _ _ _ (@pv _ 2 _ _ (by rfl) vLaw_2 (by decide) (by decide)) (@pa_nil _))) (by decide) (by rfl) (by rfl)) (nomark _)))))))))))))))), ?_⟩
    refine ⟨_, rfl, a, ns, 0, rfl, hS, hlen, by decide, by decide, fun p H1 pn D1 s1 => ?_⟩
    -- slack
    refine ⟨_, rfl, p, _, rfl, D1, by omega, by omega, fun x1 H2 x10 x11 D2 B2 => ?_⟩
    refine ⟨(by show 4 ≤ sizeLine; decide), fun L1 hL1 => ?_⟩
    refine ⟨_, rfl, p, _, rfl, D2.new hL1, by omega, by omega, fun x2 H3 x20 x21 D3 B3 => ?_⟩
    obtain ⟨v, hv, hv'⟩ := at4 (a := .int 0) (b := .int 1) (c := .int 9) (d := .int x1) x20 x21
    obtain ⟨sl, rfl, sl0, sl9⟩ : ∃ z : Int, v = .int z ∧ 0 ≤ z ∧ z ≤ 9 := by
      rcases hv' with rfl | rfl | rfl | rfl
      · exact ⟨_, rfl, by decide, by decide⟩
      · exact ⟨_, rfl, by decide, by decide⟩
      · exact ⟨_, rfl, by decide, by decide⟩
      · exact ⟨_, rfl, by omega, by omega⟩
    refine ⟨L1, _, _, _, rfl, rfl, SqL.of (B3 _ _ upd_same (D2.ne hL1)), hv, ?_⟩
    -- many
    refine ⟨_, rfl, p, _, rfl, D3, by omega, by omega, fun y1 H4 y10 y11 D4 B4 => ⟨_, _, rfl, rfl, ?_⟩⟩
    refine ⟨_, rfl, p, _, rfl, D4, by omega, by omega, fun y2 H5 y20 y21 D5 B5 => ⟨_, _, rfl, rfl, ?_⟩⟩
    refine ⟨(by show 3 ≤ sizeLine; decide), fun L2 hL2 => ?_⟩
    refine ⟨_, rfl, p, _, rfl, D5.new hL2, by omega, by omega, fun y3 H6 y30 y31 D6 B6 => ?_⟩
    obtain ⟨v, hv, hv'⟩ := at3 (a := .int (1 + y1)) (b := .int 30) (c := .int (2 + y2)) y30 y31
    obtain ⟨mm, rfl, mm1, mm30⟩ : ∃ z : Int, v = .int z ∧ 1 ≤ z ∧ z ≤ 30 := by
      rcases hv' with rfl | rfl | rfl
      · exact ⟨_, rfl, by omega, by omega⟩
      · exact ⟨_, rfl, by decide, by decide⟩
      · exact ⟨_, rfl, by omega, by omega⟩
    refine ⟨L2, _, _, _, rfl, rfl, SqL.of (B6 _ _ upd_same (D5.ne hL2)), hv, ?_⟩
    -- wheel, word
    refine ⟨_, rfl, _, rfl, _, rfl, p, _, rfl, D6, by omega, by omega, fun y4 H7 y40 y41 D7 B7 => ⟨_, _, rfl, rfl, ?_⟩⟩
    refine ⟨p, mm, _, rfl, D7, by omega, by omega, by omega, by omega, fun l H8 hl low D8 B8 => ?_⟩
    have hW : Wheel l := ⟨by omega, by omega, low⟩
    have h1 := hW.pos
    have h2 := hW.le
    refine ⟨_, rfl, _, rfl, p, l, 80, rfl, D8, h1, by omega, by decide, by decide, fun o H9 hin ho D9 B9 => ?_⟩
    have ho80 : o.length ≤ 80 := by omega
    have hz : (txt l).length ≤ sizeLine := by rw [txt_length]; exact Nat.le_of_lt (small1000 (by omega))
    have hzo : (txt o).length ≤ sizeLine := by rw [txt_length]; exact Nat.le_of_lt (small1000 (by omega))
    have ht := tsk_99 hW ho80 hin sl0 sl9
    have e1 : ¬ tsk l o sl = 11 := by rw [ht]; decide
    have e2 : ¬ tsk l o sl = 12 := by rw [ht]; decide
    have e3 : ¬ tsk l o sl = 8 := by rw [ht]; decide
    have e4 : ¬ tsk l o sl = 0 := by rw [ht]; decide
    -- what is left
    refine ⟨_, rfl, _, rfl, _, rfl, l, o, sl, rfl, hW, by omega, hin, fun LF ds ms E0 HE sE hLE hds hml hms => ?_⟩
    refine ⟨(by show 0 ≤ sizeLine; decide), fun DU hDU => ?_⟩
    have sDU := Same.new (o := .lst []) hDU
    have hLDU : LF ≠ DU := ne_of_none hLE hDU
    refine ⟨_, rfl, _, rfl, hzo, _, rfl, by rw [txt_length]; omega, by rw [txt_length]; omega, ?_⟩
    rw [txt_length, Int.toNat_natCast]
    refine for_range (fun i σ HF => i ≤ o.length ∧ ∃ (o10 o11 o12 o13 o14 o15 o16 o17 o18 : Option V) (st : Std) (j : Nat) (ts : List Int), σ = [some (.ref a), some (.ref p), some (.int sl), some (.int mm), some (.str (txt l)), some (.str (txt o)), some (.ref LF), some (.int st.1), some (.int st.2), some (.ref DU), o10, o11, o12, o13, o14, o15, o16, o17, o18] ∧ Same HE HF ∧ HF DU = some (.lst (ts.map V.int)) ∧ ts.length = i ∧ st.1 = (j : Int) ∧ j ∈ pla l o i ∧ -1 ≤ st.2 ∧ st.2 ≤ 1 ∧ ts ++ lp l sl (o.drop i) st = lp l sl o (0, 0)) ?_ ?_ ?_
    · refine ⟨Nat.zero_le _, _, _, _, _, _, _, _, _, _, (0, 0), 0, [], rfl, sDU, upd_same, rfl, rfl, ?_, by decide, by decide, ?_⟩
      · exact mem_pla.mpr ⟨by omega, .inl rfl⟩
      · rw [List.drop_zero]; rfl
    · rintro i σ HF hi ⟨_, o10, o11, o12, o13, o14, o15, o16, o17, o18, st, j, ts, rfl, sF, hDF, htl, ej, hj, w0, w1, hlp⟩
      rw [show (0 + (i : Int)) = (i : Int) by omega]
      obtain ⟨c, hc⟩ : ∃ c, o[i]? = some c := ⟨_, List.getElem?_eq_getElem hi⟩
      have hcm := List.mem_of_getElem? hc
      have hat := at_getD (l := o) (z := (i : Int)) (by omega) (by omega)
      have hgc : o.getD ((i : Int)).toNat 0 = c := by rw [Int.toNat_natCast, List.getD_eq_getElem?_getD, hc]; rfl
      rw [hgc] at hat
      have hino : ∀ x ∈ c :: o.drop (i + 1), x ∈ l := fun x hx => by
        rcases List.mem_cons.mp hx with rfl | hx
        · exact hin _ hcm
        · exact hin x (List.mem_of_mem_drop hx)
      obtain ⟨m, hm⟩ : ∃ m, ms[i]? = some m := ⟨_, List.getElem?_eq_getElem (by omega)⟩
      obtain ⟨m1, hm1⟩ : ∃ m, ms[i + 1]? = some m := ⟨_, List.getElem?_eq_getElem (by omega)⟩
      obtain ⟨d, hd, hdm⟩ := hds.get' hm
      obtain ⟨d1, hd1, hdm1⟩ := hds.get' hm1
      have hdl : ds.length = o.length + 1 := by rw [hds.length, hml]
      have hst' : st = ((j : Int), st.2) := Prod.ext ej rfl
      have hlk : lk m st = some (nd l sl (c :: o.drop (i + 1)) st).1 := by
        rw [hst', ← drop_cons hc]
        exact hms i m hm j hj _ w0 w1
      have hg0 : atI ((ds ++ [E0]).map V.ref) (i : Int) = some (.ref d) := atI_nat (by rw [List.getElem?_map, List.getElem?_append_left (by omega), hd]; rfl)
      have hg1 : atI ((ds ++ [E0]).map V.ref) ((i : Int) + 1) = some (.ref d1) := by
        rw [show ((i : Int) + 1) = ((i + 1 : Nat) : Int) by omega]
        exact atI_nat (by rw [List.getElem?_map, List.getElem?_append_left (by omega), hd1]; rfl)
      obtain ⟨tq, rq, hfit⟩ := fit_ne (s := sl) h1 hino st
      refine ⟨_, rfl, _, rfl, _, rfl, _, rfl, _, _, _, rfl, rfl, hzo, hat, l, st.1, c, rfl, hW, fun D0 HG sG hD0 hD0G => ?_⟩
      have hDD : D0 ≠ DU := (ne_of_none hDF hD0).symm
      refine ⟨D0, rfl, ⟨_, SqL.of hD0G⟩, for_list (xs := (tts l st.1 c).map V.int) (fun y σ HI => ∃ (o11 o12 o13 o14 o15 o16 : Option V) (us : List Int), σ = [some (.ref a), some (.ref p), some (.int sl), some (.int mm), some (.str (txt l)), some (.str (txt o)), some (.ref LF), some (.int st.1), some (.int st.2), some (.ref DU), some (.int (i : Int)), o11, o12, o13, o14, o15, o16, o17, o18] ∧ Same HE HI ∧ HI D0 = some (.lst ((tts l st.1 c).map V.int)) ∧ HI DU = some (.lst ((ts ++ us.take 1).map V.int)) ∧ us = ((tts l st.1 c).take y).filter (fun t => decide (tc st.2 t sl + (nd l sl (o.drop (i + 1)) (bh l st t)).1 = (nd l sl (c :: o.drop (i + 1)) st).1)) ∧ ∀ t0 r, us = t0 :: r → ∃ q, o16 = some (.ref q) ∧ HI q = some (.tup [.int (bh l st t0).1, .int (bh l st t0).2])) ?_ ?_ ?_ ?_⟩
      · refine ⟨_, _, _, _, _, _, [], rfl, sF.trans sG, hD0G, ?_, rfl, fun t0 r h => by cases h⟩
        rw [List.take_nil, List.append_nil]
        exact sG _ _ hDF
      · rintro y σ HI _ ⟨_, _, _, _, _, _, _, rfl, _, hD, _⟩
        exact SqL.of hD
      · rintro y v σ HI hv ⟨q11, q12, q13, q14, q15, q16, us, rfl, sI, hDI, hUI, hus, hq16⟩
        rw [List.getElem?_map] at hv
        cases et : (tts l st.1 c)[y]? with
        | none => rw [et] at hv; cases hv
        | some t =>
          rw [et] at hv
          cases hv
          have htm := List.mem_of_getElem? et
          have etk : (tts l st.1 c).take (y + 1) = (tts l st.1 c).take y ++ [t] := by rw [List.take_add_one, et]; rfl
          refine ⟨_, rfl, _, rfl, _, rfl, t, st.2, sl, rfl, w0, w1, fun q HJ sJ hq hqJ => ?_⟩
          refine ⟨q, _, rfl, SqT.of hqJ, rfl, _, _, rfl, _, _, rfl, rfl, ?_⟩
          refine ⟨_, rfl, _, rfl, _, _, rfl, rfl, _, rfl, _, rfl, hz, _, _, rfl, rfl, (by rw [txt_length]; show (0 : Int) < _; omega), _, rfl, (by show 2 ≤ sizeLine; decide), fun q1 hq1 => ?_⟩
          rw [txt_length]
          have sq1 := Same.new (o := .tup [.int ((st.1 + t) % (l.length : Int)), .int (wb st.2 t)]) hq1
          have sK := (sI.trans sJ).trans sq1
          have hlk1 : lk m1 (bh l st t) = some (nd l sl (o.drop (i + 1)) (bh l st t)).1 := by
            rw [hst']
            exact (hms (i + 1) m1 hm1).on h1 hc w0 w1 (by rw [← ej]; exact htm)
          have hget1 := DicI.get (st := bh l st t) (b := q1) (hdm1.same sK) hlk1 upd_same
          refine ⟨_, rfl, _, rfl, _, _, rfl, rfl, LF, _, _, _, rfl, rfl, SqL.of (sK _ _ hLE), hg1, _, rfl, d1, _, rfl, hget1, _, rfl, _, _, rfl, rfl, ?_⟩
          refine ⟨_, rfl, _, rfl, LF, _, _, _, rfl, rfl, SqL.of (sK _ _ hLE), hg0, _, rfl, _, rfl, (by show 2 ≤ sizeLine; decide), fun q2 hq2 => ?_⟩
          have sq2 := Same.new (o := .tup [.int st.1, .int st.2]) hq2
          have sL := sK.trans sq2
          have hget0 := DicI.get (st := st) (b := q2) (hdm.same sL) hlk upd_same
          refine ⟨d, _, rfl, hget0, _, _, rfl, rfl, ?_⟩
          have hq1L : (upd (upd HJ q1 (.tup [.int ((st.1 + t) % (l.length : Int)), .int (wb st.2 t)])) q2 (.tup [.int st.1, .int st.2])) q1 = some (.tup [.int (bh l st t).1, .int (bh l st t).2]) := sq2 _ _ upd_same
          have sIL := (sJ.trans sq1).trans sq2
          have hUL := sIL _ _ hUI
          have hDL := sIL _ _ hDI
          generalize upd (upd HJ q1 (.tup [.int ((st.1 + t) % (l.length : Int)), .int (wb st.2 t)])) q2 (.tup [.int st.1, .int st.2]) = HL at sL hget0 hq1L sIL hUL hDL ⊢
          refine ⟨_, rfl, DU, _, rfl, .inl (SqL.of hUL), _, rfl, rfl, _, rfl, ?_⟩
          rw [List.length_map, List.length_append, htl]
          have hus' : ((tts l st.1 c).take (y + 1)).filter (fun t => decide (tc st.2 t sl + (nd l sl (o.drop (i + 1)) (bh l st t)).1 = (nd l sl (c :: o.drop (i + 1)) st).1)) = us ++ [t].filter (fun t => decide (tc st.2 t sl + (nd l sl (o.drop (i + 1)) (bh l st t)).1 = (nd l sl (c :: o.drop (i + 1)) st).1)) := by
            rw [etk, List.filter_append, ← hus]
          cases eus : us with
          | cons t0 r =>
            obtain ⟨q0, hq0, hq0I⟩ := hq16 t0 r eus
            rw [decide_eq_false (fun e => by have := V.int.inj e; simp [eus] at this; omega)]
            refine iteF ?_
            refine ⟨_, _, _, _, _, _, us ++ [t].filter (fun t => decide (tc st.2 t sl + (nd l sl (o.drop (i + 1)) (bh l st t)).1 = (nd l sl (c :: o.drop (i + 1)) st).1)), rfl, sL, hDL, ?_, hus'.symm, fun t1 r1 h => ?_⟩
            · rw [eus] at hUL ⊢
              exact hUL
            · rw [eus] at h
              cases h
              exact ⟨q0, hq0, sIL _ _ hq0I⟩
          | nil =>
            rw [decide_eq_true (by rw [List.take_nil]; simp)]
            refine iteT ⟨_, rfl, rfl, _, rfl, ?_⟩
            subst eus
            by_cases hP : tc st.2 t sl + (nd l sl (o.drop (i + 1)) (bh l st t)).1 = (nd l sl (c :: o.drop (i + 1)) st).1
            · have hz0 : (nd l sl (o.drop (i + 1)) (bh l st t)).1 + tc st.2 t sl - (nd l sl (c :: o.drop (i + 1)) st).1 = 0 := by omega
              rw [decide_eq_true (show (fun i j => V.int (i - j)) ((nd l sl (o.drop (i + 1)) (bh l st t)).1 + tc st.2 t sl) (nd l sl (c :: o.drop (i + 1)) st).1 = V.int 0 from congrArg V.int hz0)]
              refine iteT ?_
              rw [List.take_nil, List.append_nil] at hUL
              refine ⟨_, rfl, .inl ⟨rfl, _, SqL.of hUL⟩, _, rfl, DU, _, _, rfl, rfl, hUL, by rw [List.length_map, htl]; exact small1000 (by omega), ?_⟩
              have hq1D : q1 ≠ DU := ne_of hq1L hUL (fun z => nomatch z)
              refine ⟨_, rfl, _, _, _, _, _, _, [t], rfl, sL.upd' hDU, by rw [upd_ne hDD]; exact hDL, by rw [upd_same, List.map_append]; rfl, ?_, fun t1 r1 h => ?_⟩
              · refine Eq.trans ?_ hus'.symm
                rw [List.nil_append]
                exact (List.filter_eq_self.mpr fun x hx => by rw [List.mem_singleton.mp hx]; exact decide_eq_true hP).symm
              · cases h
                exact ⟨q1, rfl, by rw [upd_ne hq1D]; exact hq1L⟩
            · rw [decide_eq_false (fun e => hP (by have := V.int.inj e; omega))]
              refine iteF ?_
              refine ⟨_, _, _, _, _, _, [], rfl, sL, hDL, hUL, ?_, fun t1 r1 h => by cases h⟩
              refine Eq.trans ?_ hus'.symm
              rw [List.nil_append]
              exact (List.filter_eq_nil_iff.mpr fun x hx => by rw [List.mem_singleton.mp hx]; exact fun e => hP (of_decide_eq_true e)).symm
      · rintro σ HI ⟨q11, q12, q13, q14, q15, q16, us, rfl, sI, hDI, hUI, hus, hq16⟩
        rw [List.length_map, List.take_length] at hus
        have hus2 : us = tq :: rq := by rw [hus]; exact hfit
        obtain ⟨q0, rfl, hq0I⟩ := hq16 tq rq hus2
        rw [hus2] at hUI
        refine ⟨_, rfl, q0, _, rfl, SqT.of hq0I, rfl, _, _, rfl, _, _, rfl, rfl, ?_⟩
        have htqm : tq ∈ tts l st.1 c := by
          have : tq ∈ fit l sl c (o.drop (i + 1)) st := by rw [hfit]; exact List.mem_cons_self
          exact (List.mem_filter.mp this).1
        obtain ⟨j2, hj2, ej2⟩ := pla_on h1 hc htqm
        have hw2 := wb_in (t := tq) ⟨w0, w1⟩
        refine ⟨hi, _, _, _, _, _, _, _, _, _, bh l st tq, j2, ts ++ [tq], rfl, sI, hUI, by rw [List.length_append, htl]; rfl, ej2, hj2, hw2.1, hw2.2, ?_⟩
        rw [← hlp, drop_cons hc, List.append_assoc]
        show ts ++ tq :: lp l sl (o.drop (i + 1)) (bh l st tq) = ts ++ (fit l sl c (o.drop (i + 1)) st).headD 0 :: lp l sl (o.drop (i + 1)) (bh l st ((fit l sl c (o.drop (i + 1)) st).headD 0))
        rw [hfit]
        rfl
    · rintro σ HF ⟨_, o10, o11, o12, o13, o14, o15, o16, o17, o18, st, j, ts, rfl, sF, hDF, htl, ej, hj, w0, w1, hlp⟩
      rw [List.drop_length] at hlp
      have hts : ts = lp l sl o (0, 0) := by rw [← hlp]; exact (List.append_nil _).symm
      rw [hts] at hDF
      refine ⟨_, rfl, _, rfl, _, rfl, l, o, sl, rfl, by omega, by omega, fun _ TL HG sG hTL hTLG => ?_, fun h => absurd h e1, fun h => absurd h e2, fun h => absurd h e3, fun h => absurd h e4⟩
      refine ⟨_, rfl, dInts (lp l sl o (0, 0)), dInts (lp l sl o (0, 0)), Dp.ints (SqL.of hTLG), Dp.ints (SqL.of (sG _ _ hDF)), (Sh.ints _).shaped, (Sh.ints _).shaped, _, rfl, ?_⟩
      rw [dInts_eqv]
      refine iteF ?_
      -- the last row
      refine ⟨_, rfl, _, rfl, _, rfl, l, o, sl, rfl, by omega, by omega, fun _ R rows as HI sI hR _ _ htab hrows => ?_, fun h => absurd h e1, fun h => absurd h e2, fun h => absurd h e3, fun h => absurd h e4⟩
      obtain ⟨row, hrow⟩ : ∃ row, rows[o.length]? = some row := ⟨_, List.getElem?_eq_getElem (by rw [hrows.1]; omega)⟩
      obtain ⟨ar, har, qs, hqs, hT⟩ := htab.2.get' hrow
      have hasl : as.length = o.length + 1 := by rw [htab.2.length, hrows.1]
      have hlast := last_at hasl har
      have hIR := hrows.2 _ row hrow
      rw [List.take_length] at hIR
      have hlq := hT.length
      have hzq := zip_facts hT
      have hrl : row.length ≤ 1000 := by
        have := min_len (n := l.length) ⟨hIR.nd, hIR.mem⟩ (Xs_in h1 o)
        omega
      refine ⟨_, rfl, R, _, _, _, rfl, rfl, SqL.of htab.1, hlast, ar, rfl, ⟨_, SqL.of hqs⟩, fun D hD => lc_listP (as := qs.zip row) (vf := fun y => V.ref y.1) (fun _ => true) (fun y => V.int y.2.2) (by rw [zip_refsG hlq]; exact SqL.of hqs) hD (by rw [List.length_zip]; exact small1000 (by omega)) ?_ ?_⟩
      · intro y HJ hy sJ Qy Qn ky kn
        refine ⟨rfl, ?_⟩
        dsimp only [tYes]
        exact iteT ⟨_, rfl, y.1, _, _, _, rfl, rfl, SqT.of (sJ _ _ (hzq y hy)), atI_nat (j := 2) rfl, ky rfl _ (Same.refl _)⟩
      intro HJ sJ hDJ
      rw [List.filter_eq_self.mpr (fun _ _ => rfl), zip_snd_map hlq (fun x : Std × Int => V.int x.2)] at hDJ
      have hDJ' : HJ D = some (.lst ((row.map fun x => x.2).map V.int)) := by rw [hDJ, List.map_map]; rfl
      have hnd := nd_ok (s := sl) h1 hin (0, 0)
      have hnm := hnd.mem
      rw [← Xf_cs, Xf_zero] at hnm
      obtain ⟨x0, hx0, ex0⟩ := List.mem_map.mp hnm
      obtain ⟨k0, hk0⟩ := lst_ex (st := x0.1) (k := x0.2) hx0
      have hk0r := (hIR.mem _ _).mpr hk0
      refine ⟨_, rfl, D, row.map (fun x => x.2), rfl, SqL.of hDJ', (by rw [List.length_map]; exact List.length_pos_of_mem hk0r), fun kk hk1 hk2 => ?_⟩
      have ekk : kk = (nd l sl o (0, 0)).1 := by
        obtain ⟨x1, hx1, ex1⟩ := List.mem_map.mp hk1
        have hl1 := (hIR.mem x1.1 x1.2).mp hx1
        have g1 : (nd l sl o (0, 0)).1 ≤ x1.2 := hnd.le _ (by rw [← Xf_cs, Xf_zero]; exact List.mem_map.mpr ⟨_, hl1.1, rfl⟩)
        have g2 := hk2 k0 (List.mem_map.mpr ⟨_, hk0r, rfl⟩)
        have g3 := hk0.2 _ hx0
        omega
      refine ⟨_, rfl, _, rfl, DU, _, sl, rfl, SqL.of (sJ _ _ (sI _ _ (sG _ _ hDF))), fun HX sX => ⟨rfl, ?_⟩⟩
      have hTc : (cf sl (lp l sl o (0, 0))).1 = (nd l sl o (0, 0)).1 := by
        obtain ⟨_, _, _, hc', _⟩ := lp_first (s := sl) h1 (0, 0) hin
        rw [cf_cw, hc']
      rw [hTc, ekk, decide_eq_true rfl]
      exact k _
end
end W

set_option Elab.async false
set_option linter.all false
set_option maxRecDepth 100000
set_option maxHeartbeats 4000000
namespace W
open PySem L2 WM
theorem all_mk {l : PySem.W.OpenLaw} {w : World} {K : PySem.W.Frag} {h : Heap} {mg : Str → Option Value} {fa fSign fWord fNWord fWheel fNeed fPlcs fWhole fSlack fWay fTCost fTask fTTo fSBeh fNRow fTable fPlAt fBest fNOn fRAh fNeeds fFTu fPFr fLPl fRTu fLStep fLCost fDraws fDraw fLetters fLWord fRst fLaw C0 C8 C11 C12 : Addr} (X : K.In h) (G : h.Ns mainGlobals mg) (hfa : mg "law" = some (.ref fa))
    {odSign anSign odWord anWord odNWord anNWord odWheel anWheel odNeed anNeed odPlcs anPlcs odWhole anWhole odSlack anSlack odWay anWay odTCost anTCost odTask anTask odTTo anTTo odSBeh anSBeh odNRow anNRow odTable anTable odPlAt anPlAt odBest anBest odNOn anNOn odRAh anRAh odNeeds anNeeds odFTu anFTu odPFr anPFr odLPl anLPl odRTu anRTu odLStep anLStep odLCost anLCost odDraws anDraws odDraw anDraw odLetters anLetters odLWord anLWord odRst anRst odLaw anLaw : Option Addr} {slSign slWord slNWord slWheel slNeed slPlcs slWhole slSlack slWay slTCost slTask slTTo slSBeh slNRow slTable slPlAt slBest slNOn slRAh slNeeds slFTu slPFr slLPl slRTu slLStep slLCost slDraws slDraw slLetters slLWord slRst slLaw : Array (Option Value)} {ocSign kVSign dcSign pmSign cdSign ctSign ocWord kVWord dcWord pmWord cdWord ctWord ocNWord kVNWord dcNWord pmNWord cdNWord ctNWord ocWheel kVWheel dcWheel pmWheel cdWheel ctWheel ocNeed kVNeed dcNeed pmNeed cdNeed ctNeed ocPlcs kVPlcs dcPlcs pmPlcs cdPlcs ctPlcs ocWhole kVWhole dcWhole pmWhole cdWhole ctWhole ocSlack kVSlack dcSlack pmSlack cdSlack ctSlack ocWay kVWay dcWay pmWay cdWay ctWay ocTCost kVTCost dcTCost pmTCost cdTCost ctTCost ocTask kVTask dcTask pmTask cdTask ctTask ocTTo kVTTo dcTTo pmTTo cdTTo ctTTo ocSBeh kVSBeh dcSBeh pmSBeh cdSBeh ctSBeh ocNRow kVNRow dcNRow pmNRow cdNRow ctNRow ocTable kVTable dcTable pmTable cdTable ctTable ocPlAt kVPlAt dcPlAt pmPlAt cdPlAt ctPlAt ocBest kVBest dcBest pmBest cdBest ctBest ocNOn kVNOn dcNOn pmNOn cdNOn ctNOn ocRAh kVRAh dcRAh pmRAh cdRAh ctRAh ocNeeds kVNeeds dcNeeds pmNeeds cdNeeds ctNeeds ocFTu kVFTu dcFTu pmFTu cdFTu ctFTu ocPFr kVPFr dcPFr pmPFr cdPFr ctPFr ocLPl kVLPl dcLPl pmLPl cdLPl ctLPl ocRTu kVRTu dcRTu pmRTu cdRTu ctRTu ocLStep kVLStep dcLStep pmLStep cdLStep ctLStep ocLCost kVLCost dcLCost pmLCost cdLCost ctLCost ocDraws kVDraws dcDraws pmDraws cdDraws ctDraws ocDraw kVDraw dcDraw pmDraw cdDraw ctDraw ocLetters kVLetters dcLetters pmLetters cdLetters ctLetters ocLWord kVLWord dcLWord pmLWord cdLWord ctLWord ocRst kVRst dcRst pmRst cdRst ctRst ocLaw kVLaw dcLaw pmLaw cdLaw ctLaw : Value} {tMOST_SIGNS tMOST_PLACES tMOST_SLACK : Tok}  {aWAYS : Addr} {oWAYS : Option Addr} {sWAYS : Array (Option Value)} {nWAYS : Nat} {tWAYS0 tWAYS1 tWAYS2 : Tok} {aFIRST_STAND : Addr} {oFIRST_STAND : Option Addr} {sFIRST_STAND : Array (Option Value)} {nFIRST_STAND : Nat} {tFIRST_STAND0 tFIRST_STAND1 : Tok}
    (aSign : PySem.W.nsIn K mainGlobals "is_sign" = some (some (.ref fSign)))
    (lSign : K.lookup fSign = some ⟨ocSign, odSign, .func (PySem.W.fnOf "is_sign" "is_sign" (defArgs sSign) (defBody sSign) (defScope sSign) .none kVSign dcSign pmSign anSign cdSign ctSign), slSign⟩)
    (cSign : PySem.W.codeIn K cdSign "is_sign" = true)
    (kSign : PySem.W.keepIn K (.ref fSign) = true)
    (aWord : PySem.W.nsIn K mainGlobals "is_word" = some (some (.ref fWord)))
    (lWord : K.lookup fWord = some ⟨ocWord, odWord, .func (PySem.W.fnOf "is_word" "is_word" (defArgs sWord) (defBody sWord) (defScope sWord) .none kVWord dcWord pmWord anWord cdWord ctWord), slWord⟩)
    (cWord : PySem.W.codeIn K cdWord "is_word" = true)
    (kWord : PySem.W.keepIn K (.ref fWord) = true)
    (aNWord : PySem.W.nsIn K mainGlobals "need_word" = some (some (.ref fNWord)))
    (lNWord : K.lookup fNWord = some ⟨ocNWord, odNWord, .func (PySem.W.fnOf "need_word" "need_word" (defArgs sNWord) (defBody sNWord) (defScope sNWord) .none kVNWord dcNWord pmNWord anNWord cdNWord ctNWord), slNWord⟩)
    (cNWord : PySem.W.codeIn K cdNWord "need_word" = true)
    (kNWord : PySem.W.keepIn K (.ref fNWord) = true)
    (aWheel : PySem.W.nsIn K mainGlobals "is_wheel" = some (some (.ref fWheel)))
    (lWheel : K.lookup fWheel = some ⟨ocWheel, odWheel, .func (PySem.W.fnOf "is_wheel" "is_wheel" (defArgs sWheel) (defBody sWheel) (defScope sWheel) .none kVWheel dcWheel pmWheel anWheel cdWheel ctWheel), slWheel⟩)
    (cWheel : PySem.W.codeIn K cdWheel "is_wheel" = true)
    (kWheel : PySem.W.keepIn K (.ref fWheel) = true)
    (aNeed : PySem.W.nsIn K mainGlobals "need_wheel" = some (some (.ref fNeed)))
    (lNeed : K.lookup fNeed = some ⟨ocNeed, odNeed, .func (PySem.W.fnOf "need_wheel" "need_wheel" (defArgs sNeed) (defBody sNeed) (defScope sNeed) .none kVNeed dcNeed pmNeed anNeed cdNeed ctNeed), slNeed⟩)
    (cNeed : PySem.W.codeIn K cdNeed "need_wheel" = true)
    (kNeed : PySem.W.keepIn K (.ref fNeed) = true)
    (aPlcs : PySem.W.nsIn K mainGlobals "places_of" = some (some (.ref fPlcs)))
    (lPlcs : K.lookup fPlcs = some ⟨ocPlcs, odPlcs, .func (PySem.W.fnOf "places_of" "places_of" (defArgs sPlcs) (defBody sPlcs) (defScope sPlcs) .none kVPlcs dcPlcs pmPlcs anPlcs cdPlcs ctPlcs), slPlcs⟩)
    (cPlcs : PySem.W.codeIn K cdPlcs "places_of" = true)
    (kPlcs : PySem.W.keepIn K (.ref fPlcs) = true)
    (aWhole : PySem.W.nsIn K mainGlobals "is_whole" = some (some (.ref fWhole)))
    (lWhole : K.lookup fWhole = some ⟨ocWhole, odWhole, .func (PySem.W.fnOf "is_whole" "is_whole" (defArgs sWhole) (defBody sWhole) (defScope sWhole) .none kVWhole dcWhole pmWhole anWhole cdWhole ctWhole), slWhole⟩)
    (cWhole : PySem.W.codeIn K cdWhole "is_whole" = true)
    (kWhole : PySem.W.keepIn K (.ref fWhole) = true)
    (aSlack : PySem.W.nsIn K mainGlobals "need_slack" = some (some (.ref fSlack)))
    (lSlack : K.lookup fSlack = some ⟨ocSlack, odSlack, .func (PySem.W.fnOf "need_slack" "need_slack" (defArgs sSlack) (defBody sSlack) (defScope sSlack) .none kVSlack dcSlack pmSlack anSlack cdSlack ctSlack), slSlack⟩)
    (cSlack : PySem.W.codeIn K cdSlack "need_slack" = true)
    (kSlack : PySem.W.keepIn K (.ref fSlack) = true)
    (aWay : PySem.W.nsIn K mainGlobals "way_behind" = some (some (.ref fWay)))
    (lWay : K.lookup fWay = some ⟨ocWay, odWay, .func (PySem.W.fnOf "way_behind" "way_behind" (defArgs sWay) (defBody sWay) (defScope sWay) .none kVWay dcWay pmWay anWay cdWay ctWay), slWay⟩)
    (cWay : PySem.W.codeIn K cdWay "way_behind" = true)
    (kWay : PySem.W.keepIn K (.ref fWay) = true)
    (aTCost : PySem.W.nsIn K mainGlobals "turn_cost" = some (some (.ref fTCost)))
    (lTCost : K.lookup fTCost = some ⟨ocTCost, odTCost, .func (PySem.W.fnOf "turn_cost" "turn_cost" (defArgs sTCost) (defBody sTCost) (defScope sTCost) .none kVTCost dcTCost pmTCost anTCost cdTCost ctTCost), slTCost⟩)
    (cTCost : PySem.W.codeIn K cdTCost "turn_cost" = true)
    (kTCost : PySem.W.keepIn K (.ref fTCost) = true)
    (aTask : PySem.W.nsIn K mainGlobals "need_task" = some (some (.ref fTask)))
    (lTask : K.lookup fTask = some ⟨ocTask, odTask, .func (PySem.W.fnOf "need_task" "need_task" (defArgs sTask) (defBody sTask) (defScope sTask) .none kVTask dcTask pmTask anTask cdTask ctTask), slTask⟩)
    (cTask : PySem.W.codeIn K cdTask "need_task" = true)
    (kTask : PySem.W.keepIn K (.ref fTask) = true)
    (aTTo : PySem.W.nsIn K mainGlobals "turns_to" = some (some (.ref fTTo)))
    (lTTo : K.lookup fTTo = some ⟨ocTTo, odTTo, .func (PySem.W.fnOf "turns_to" "turns_to" (defArgs sTTo) (defBody sTTo) (defScope sTTo) .none kVTTo dcTTo pmTTo anTTo cdTTo ctTTo), slTTo⟩)
    (cTTo : PySem.W.codeIn K cdTTo "turns_to" = true)
    (kTTo : PySem.W.keepIn K (.ref fTTo) = true)
    (aSBeh : PySem.W.nsIn K mainGlobals "stand_behind" = some (some (.ref fSBeh)))
    (lSBeh : K.lookup fSBeh = some ⟨ocSBeh, odSBeh, .func (PySem.W.fnOf "stand_behind" "stand_behind" (defArgs sSBeh) (defBody sSBeh) (defScope sSBeh) .none kVSBeh dcSBeh pmSBeh anSBeh cdSBeh ctSBeh), slSBeh⟩)
    (cSBeh : PySem.W.codeIn K cdSBeh "stand_behind" = true)
    (kSBeh : PySem.W.keepIn K (.ref fSBeh) = true)
    (aNRow : PySem.W.nsIn K mainGlobals "next_row" = some (some (.ref fNRow)))
    (lNRow : K.lookup fNRow = some ⟨ocNRow, odNRow, .func (PySem.W.fnOf "next_row" "next_row" (defArgs sNRow) (defBody sNRow) (defScope sNRow) .none kVNRow dcNRow pmNRow anNRow cdNRow ctNRow), slNRow⟩)
    (cNRow : PySem.W.codeIn K cdNRow "next_row" = true)
    (kNRow : PySem.W.keepIn K (.ref fNRow) = true)
    (aTable : PySem.W.nsIn K mainGlobals "table" = some (some (.ref fTable)))
    (lTable : K.lookup fTable = some ⟨ocTable, odTable, .func (PySem.W.fnOf "table" "table" (defArgs sTable) (defBody sTable) (defScope sTable) .none kVTable dcTable pmTable anTable cdTable ctTable), slTable⟩)
    (cTable : PySem.W.codeIn K cdTable "table" = true)
    (kTable : PySem.W.keepIn K (.ref fTable) = true)
    (aPlAt : PySem.W.nsIn K mainGlobals "places_at" = some (some (.ref fPlAt)))
    (lPlAt : K.lookup fPlAt = some ⟨ocPlAt, odPlAt, .func (PySem.W.fnOf "places_at" "places_at" (defArgs sPlAt) (defBody sPlAt) (defScope sPlAt) .none kVPlAt dcPlAt pmPlAt anPlAt cdPlAt ctPlAt), slPlAt⟩)
    (cPlAt : PySem.W.codeIn K cdPlAt "places_at" = true)
    (kPlAt : PySem.W.keepIn K (.ref fPlAt) = true)
    (aBest : PySem.W.nsIn K mainGlobals "best_of" = some (some (.ref fBest)))
    (lBest : K.lookup fBest = some ⟨ocBest, odBest, .func (PySem.W.fnOf "best_of" "best_of" (defArgs sBest) (defBody sBest) (defScope sBest) .none kVBest dcBest pmBest anBest cdBest ctBest), slBest⟩)
    (cBest : PySem.W.codeIn K cdBest "best_of" = true)
    (kBest : PySem.W.keepIn K (.ref fBest) = true)
    (aNOn : PySem.W.nsIn K mainGlobals "need_on" = some (some (.ref fNOn)))
    (lNOn : K.lookup fNOn = some ⟨ocNOn, odNOn, .func (PySem.W.fnOf "need_on" "need_on" (defArgs sNOn) (defBody sNOn) (defScope sNOn) .none kVNOn dcNOn pmNOn anNOn cdNOn ctNOn), slNOn⟩)
    (cNOn : PySem.W.codeIn K cdNOn "need_on" = true)
    (kNOn : PySem.W.keepIn K (.ref fNOn) = true)
    (aRAh : PySem.W.nsIn K mainGlobals "row_ahead" = some (some (.ref fRAh)))
    (lRAh : K.lookup fRAh = some ⟨ocRAh, odRAh, .func (PySem.W.fnOf "row_ahead" "row_ahead" (defArgs sRAh) (defBody sRAh) (defScope sRAh) .none kVRAh dcRAh pmRAh anRAh cdRAh ctRAh), slRAh⟩)
    (cRAh : PySem.W.codeIn K cdRAh "row_ahead" = true)
    (kRAh : PySem.W.keepIn K (.ref fRAh) = true)
    (aNeeds : PySem.W.nsIn K mainGlobals "needs" = some (some (.ref fNeeds)))
    (lNeeds : K.lookup fNeeds = some ⟨ocNeeds, odNeeds, .func (PySem.W.fnOf "needs" "needs" (defArgs sNeeds) (defBody sNeeds) (defScope sNeeds) .none kVNeeds dcNeeds pmNeeds anNeeds cdNeeds ctNeeds), slNeeds⟩)
    (cNeeds : PySem.W.codeIn K cdNeeds "needs" = true)
    (kNeeds : PySem.W.keepIn K (.ref fNeeds) = true)
    (aFTu : PySem.W.nsIn K mainGlobals "first_turn" = some (some (.ref fFTu)))
    (lFTu : K.lookup fFTu = some ⟨ocFTu, odFTu, .func (PySem.W.fnOf "first_turn" "first_turn" (defArgs sFTu) (defBody sFTu) (defScope sFTu) .none kVFTu dcFTu pmFTu anFTu cdFTu ctFTu), slFTu⟩)
    (cFTu : PySem.W.codeIn K cdFTu "first_turn" = true)
    (kFTu : PySem.W.keepIn K (.ref fFTu) = true)
    (aPFr : PySem.W.nsIn K mainGlobals "plan_from" = some (some (.ref fPFr)))
    (lPFr : K.lookup fPFr = some ⟨ocPFr, odPFr, .func (PySem.W.fnOf "plan_from" "plan_from" (defArgs sPFr) (defBody sPFr) (defScope sPFr) .none kVPFr dcPFr pmPFr anPFr cdPFr ctPFr), slPFr⟩)
    (cPFr : PySem.W.codeIn K cdPFr "plan_from" = true)
    (kPFr : PySem.W.keepIn K (.ref fPFr) = true)
    (aLPl : PySem.W.nsIn K mainGlobals "least_plan" = some (some (.ref fLPl)))
    (lLPl : K.lookup fLPl = some ⟨ocLPl, odLPl, .func (PySem.W.fnOf "least_plan" "least_plan" (defArgs sLPl) (defBody sLPl) (defScope sLPl) .none kVLPl dcLPl pmLPl anLPl cdLPl ctLPl), slLPl⟩)
    (cLPl : PySem.W.codeIn K cdLPl "least_plan" = true)
    (kLPl : PySem.W.keepIn K (.ref fLPl) = true)
    (aRTu : PySem.W.nsIn K mainGlobals "_law_reach_turns" = some (some (.ref fRTu)))
    (lRTu : K.lookup fRTu = some ⟨ocRTu, odRTu, .func (PySem.W.fnOf "_law_reach_turns" "_law_reach_turns" (defArgs sRTu) (defBody sRTu) (defScope sRTu) .none kVRTu dcRTu pmRTu anRTu cdRTu ctRTu), slRTu⟩)
    (cRTu : PySem.W.codeIn K cdRTu "_law_reach_turns" = true)
    (kRTu : PySem.W.keepIn K (.ref fRTu) = true)
    (aLStep : PySem.W.nsIn K mainGlobals "_law_step" = some (some (.ref fLStep)))
    (lLStep : K.lookup fLStep = some ⟨ocLStep, odLStep, .func (PySem.W.fnOf "_law_step" "_law_step" (defArgs sLStep) (defBody sLStep) (defScope sLStep) .none kVLStep dcLStep pmLStep anLStep cdLStep ctLStep), slLStep⟩)
    (cLStep : PySem.W.codeIn K cdLStep "_law_step" = true)
    (kLStep : PySem.W.keepIn K (.ref fLStep) = true)
    (aLCost : PySem.W.nsIn K mainGlobals "_law_cost" = some (some (.ref fLCost)))
    (lLCost : K.lookup fLCost = some ⟨ocLCost, odLCost, .func (PySem.W.fnOf "_law_cost" "_law_cost" (defArgs sLCost) (defBody sLCost) (defScope sLCost) .none kVLCost dcLCost pmLCost anLCost cdLCost ctLCost), slLCost⟩)
    (cLCost : PySem.W.codeIn K cdLCost "_law_cost" = true)
    (kLCost : PySem.W.keepIn K (.ref fLCost) = true)
    (aDraws : PySem.W.nsIn K mainGlobals "_law_draws" = some (some (.ref fDraws)))
    (lDraws : K.lookup fDraws = some ⟨ocDraws, odDraws, .func (PySem.W.fnOf "_law_draws" "_law_draws" (defArgs sDraws) (defBody sDraws) (defScope sDraws) .none kVDraws dcDraws pmDraws anDraws cdDraws ctDraws), slDraws⟩)
    (cDraws : PySem.W.codeIn K cdDraws "_law_draws" = true)
    (kDraws : PySem.W.keepIn K (.ref fDraws) = true)
    (aDraw : PySem.W.nsIn K mainGlobals "_law_draw" = some (some (.ref fDraw)))
    (lDraw : K.lookup fDraw = some ⟨ocDraw, odDraw, .func (PySem.W.fnOf "_law_draw" "_law_draw" (defArgs sDraw) (defBody sDraw) (defScope sDraw) .none kVDraw dcDraw pmDraw anDraw cdDraw ctDraw), slDraw⟩)
    (cDraw : PySem.W.codeIn K cdDraw "_law_draw" = true)
    (kDraw : PySem.W.keepIn K (.ref fDraw) = true)
    (aLetters : PySem.W.nsIn K mainGlobals "_law_letters" = some (some (.ref fLetters)))
    (lLetters : K.lookup fLetters = some ⟨ocLetters, odLetters, .func (PySem.W.fnOf "_law_letters" "_law_letters" (defArgs sLetters) (defBody sLetters) (defScope sLetters) .none kVLetters dcLetters pmLetters anLetters cdLetters ctLetters), slLetters⟩)
    (cLetters : PySem.W.codeIn K cdLetters "_law_letters" = true)
    (kLetters : PySem.W.keepIn K (.ref fLetters) = true)
    (aLWord : PySem.W.nsIn K mainGlobals "_law_word" = some (some (.ref fLWord)))
    (lLWord : K.lookup fLWord = some ⟨ocLWord, odLWord, .func (PySem.W.fnOf "_law_word" "_law_word" (defArgs sLWord) (defBody sLWord) (defScope sLWord) .none kVLWord dcLWord pmLWord anLWord cdLWord ctLWord), slLWord⟩)
    (cLWord : PySem.W.codeIn K cdLWord "_law_word" = true)
    (kLWord : PySem.W.keepIn K (.ref fLWord) = true)
    (aRst : PySem.W.nsIn K mainGlobals "_law_rests" = some (some (.ref fRst)))
    (lRst : K.lookup fRst = some ⟨ocRst, odRst, .func (PySem.W.fnOf "_law_rests" "_law_rests" (defArgs sRst) (defBody sRst) (defScope sRst) .none kVRst dcRst pmRst anRst cdRst ctRst), slRst⟩)
    (cRst : PySem.W.codeIn K cdRst "_law_rests" = true)
    (kRst : PySem.W.keepIn K (.ref fRst) = true)
    (aLaw : PySem.W.nsIn K mainGlobals "law" = some (some (.ref fLaw)))
    (lLaw : K.lookup fLaw = some ⟨ocLaw, odLaw, .func (PySem.W.fnOf "law" "law" (defArgs sLaw) (defBody sLaw) (defScope sLaw) .none kVLaw dcLaw pmLaw anLaw cdLaw ctLaw), slLaw⟩)
    (cLaw : PySem.W.codeIn K cdLaw "law" = true)
    (kLaw : PySem.W.keepIn K (.ref fLaw) = true)
    (gMOST_SIGNS : PySem.W.nsIn K mainGlobals "MOST_SIGNS" = some (some (.int 80 tMOST_SIGNS)))
    (gMOST_PLACES : PySem.W.nsIn K mainGlobals "MOST_PLACES" = some (some (.int 30 tMOST_PLACES)))
    (gMOST_SLACK : PySem.W.nsIn K mainGlobals "MOST_SLACK" = some (some (.int 9 tMOST_SLACK)))
    (zlen : PySem.W.nsIn K mainGlobals "len" = some none)
    (zstr : PySem.W.nsIn K mainGlobals "str" = some none)
    (zint : PySem.W.nsIn K mainGlobals "int" = some none)
    (zbool : PySem.W.nsIn K mainGlobals "bool" = some none)
    (ztuple : PySem.W.nsIn K mainGlobals "tuple" = some none)
    (zlist : PySem.W.nsIn K mainGlobals "list" = some none)
    (zdict : PySem.W.nsIn K mainGlobals "dict" = some none)
    (zset : PySem.W.nsIn K mainGlobals "set" = some none)
    (zenumerate : PySem.W.nsIn K mainGlobals "enumerate" = some none)
    (zisinstance : PySem.W.nsIn K mainGlobals "isinstance" = some none)
    (zall : PySem.W.nsIn K mainGlobals "all" = some none)
    (zany : PySem.W.nsIn K mainGlobals "any" = some none)
    (zrange : PySem.W.nsIn K mainGlobals "range" = some none)
    (zmin : PySem.W.nsIn K mainGlobals "min" = some none)
    (zmax : PySem.W.nsIn K mainGlobals "max" = some none)
    (zsum : PySem.W.nsIn K mainGlobals "sum" = some none)
    (zabs : PySem.W.nsIn K mainGlobals "abs" = some none)
    (zsorted : PySem.W.nsIn K mainGlobals "sorted" = some none)
    (zzip : PySem.W.nsIn K mainGlobals "zip" = some none)
    (zreversed : PySem.W.nsIn K mainGlobals "reversed" = some none)
    (zValueError : PySem.W.nsIn K mainGlobals "ValueError" = some none)
    (gWAYS : PySem.W.nsIn K mainGlobals "WAYS" = some (some (.ref aWAYS)))
    (hWAYS : K.lookup aWAYS = some ⟨.type "tuple", oWAYS, .seq #[.int (-1) tWAYS0, .int (0) tWAYS1, .int (1) tWAYS2] nWAYS, sWAYS⟩)
    (gFIRST_STAND : PySem.W.nsIn K mainGlobals "FIRST_STAND" = some (some (.ref aFIRST_STAND)))
    (hFIRST_STAND : K.lookup aFIRST_STAND = some ⟨.type "tuple", oFIRST_STAND, .seq #[.int (0) tFIRST_STAND0, .int (0) tFIRST_STAND1] nFIRST_STAND, sFIRST_STAND⟩)
    (nC0 : PySem.W.nsIn K mainGlobals "Lacks" = some (some (.ref C0)))
    (xi0 : PySem.W.excIn K C0 bmVE "ValueError.__new__" = true)
    (nC8 : PySem.W.nsIn K mainGlobals "NoSlack" = some (some (.ref C8)))
    (xi8 : PySem.W.excIn K C8 bmVE "ValueError.__new__" = true)
    (nC11 : PySem.W.nsIn K mainGlobals "NoWheel" = some (some (.ref C11)))
    (xi11 : PySem.W.excIn K C11 bmVE "ValueError.__new__" = true)
    (nC12 : PySem.W.nsIn K mainGlobals "NoWord" = some (some (.ref C12)))
    (xi12 : PySem.W.excIn K C12 bmVE "ValueError.__new__" = true) :
    ∃ fd : FuncData, (∀ (s : Shared) (v : Value), BindsTo s fd ⟨[v], []⟩ [("script", v)]) ∧ ∀ base : Heap, K.In base → base.Ns mainGlobals mg → FnOk l.prog w K mg base CX0 10 fa fd ["script"] (spLaw K) := by
  have e := hfa.symm.trans (PySem.W.mg_of X G aLaw)
  cases e
  have T : Txt mg := ⟨PySem.W.mg_none_of X G zlen, PySem.W.mg_none_of X G zstr, PySem.W.mg_none_of X G zint, PySem.W.mg_none_of X G zbool, PySem.W.mg_none_of X G ztuple, PySem.W.mg_none_of X G zlist, PySem.W.mg_none_of X G zdict, PySem.W.mg_none_of X G zset, PySem.W.mg_none_of X G zenumerate, PySem.W.mg_none_of X G zisinstance, PySem.W.mg_none_of X G zall, PySem.W.mg_none_of X G zany, PySem.W.mg_none_of X G zrange, PySem.W.mg_none_of X G zmin, PySem.W.mg_none_of X G zmax, PySem.W.mg_none_of X G zsum, PySem.W.mg_none_of X G zabs, PySem.W.mg_none_of X G zsorted, PySem.W.mg_none_of X G zzip, PySem.W.mg_none_of X G zreversed, PySem.W.mg_none_of X G zValueError⟩
  have g_MOST_SIGNS : GInt mg "MOST_SIGNS" 80 := ⟨_, PySem.W.mg_of X G gMOST_SIGNS⟩
  have g_MOST_PLACES : GInt mg "MOST_PLACES" 30 := ⟨_, PySem.W.mg_of X G gMOST_PLACES⟩
  have g_MOST_SLACK : GInt mg "MOST_SLACK" 9 := ⟨_, PySem.W.mg_of X G gMOST_SLACK⟩
  have FSign := fun_mk (st := sSign) lSign cSign kSign
  have D_Sign : Def K mg "is_sign" sSign ["mark"] := ⟨_, _, FSign, PySem.W.mg_of X G aSign, FSign.binds (ps := ["mark"]) fun _ _ _ _ _ _ us hl => match us, hl with | [_], _ => rfl⟩
  have FWord := fun_mk (st := sWord) lWord cWord kWord
  have D_Word : Def K mg "is_word" sWord ["thing"] := ⟨_, _, FWord, PySem.W.mg_of X G aWord, FWord.binds (ps := ["thing"]) fun _ _ _ _ _ _ us hl => match us, hl with | [_], _ => rfl⟩
  have FNWord := fun_mk (st := sNWord) lNWord cNWord kNWord
  have D_NWord : Def K mg "need_word" sNWord ["word"] := ⟨_, _, FNWord, PySem.W.mg_of X G aNWord, FNWord.binds (ps := ["word"]) fun _ _ _ _ _ _ us hl => match us, hl with | [_], _ => rfl⟩
  have FWheel := fun_mk (st := sWheel) lWheel cWheel kWheel
  have D_Wheel : Def K mg "is_wheel" sWheel ["thing"] := ⟨_, _, FWheel, PySem.W.mg_of X G aWheel, FWheel.binds (ps := ["thing"]) fun _ _ _ _ _ _ us hl => match us, hl with | [_], _ => rfl⟩
  have FNeed := fun_mk (st := sNeed) lNeed cNeed kNeed
  have D_Need : Def K mg "need_wheel" sNeed ["wheel"] := ⟨_, _, FNeed, PySem.W.mg_of X G aNeed, FNeed.binds (ps := ["wheel"]) fun _ _ _ _ _ _ us hl => match us, hl with | [_], _ => rfl⟩
  have FPlcs := fun_mk (st := sPlcs) lPlcs cPlcs kPlcs
  have D_Plcs : Def K mg "places_of" sPlcs ["wheel", "sign"] := ⟨_, _, FPlcs, PySem.W.mg_of X G aPlcs, FPlcs.binds (ps := ["wheel", "sign"]) fun _ _ _ _ _ _ us hl => match us, hl with | [_, _], _ => rfl⟩
  have FWhole := fun_mk (st := sWhole) lWhole cWhole kWhole
  have D_Whole : Def K mg "is_whole" sWhole ["thing"] := ⟨_, _, FWhole, PySem.W.mg_of X G aWhole, FWhole.binds (ps := ["thing"]) fun _ _ _ _ _ _ us hl => match us, hl with | [_], _ => rfl⟩
  have FSlack := fun_mk (st := sSlack) lSlack cSlack kSlack
  have D_Slack : Def K mg "need_slack" sSlack ["slack"] := ⟨_, _, FSlack, PySem.W.mg_of X G aSlack, FSlack.binds (ps := ["slack"]) fun _ _ _ _ _ _ us hl => match us, hl with | [_], _ => rfl⟩
  have FWay := fun_mk (st := sWay) lWay cWay kWay
  have D_Way : Def K mg "way_behind" sWay ["way", "turn"] := ⟨_, _, FWay, PySem.W.mg_of X G aWay, FWay.binds (ps := ["way", "turn"]) fun _ _ _ _ _ _ us hl => match us, hl with | [_, _], _ => rfl⟩
  have FTCost := fun_mk (st := sTCost) lTCost cTCost kTCost
  have D_TCost : Def K mg "turn_cost" sTCost ["way", "turn", "slack"] := ⟨_, _, FTCost, PySem.W.mg_of X G aTCost, FTCost.binds (ps := ["way", "turn", "slack"]) fun _ _ _ _ _ _ us hl => match us, hl with | [_, _, _], _ => rfl⟩
  have FTask := fun_mk (st := sTask) lTask cTask kTask
  have D_Task : Def K mg "need_task" sTask ["wheel", "word", "slack"] := ⟨_, _, FTask, PySem.W.mg_of X G aTask, FTask.binds (ps := ["wheel", "word", "slack"]) fun _ _ _ _ _ _ us hl => match us, hl with | [_, _, _], _ => rfl⟩
  have FTTo := fun_mk (st := sTTo) lTTo cTTo kTTo
  have D_TTo : Def K mg "turns_to" sTTo ["wheel", "place", "sign"] := ⟨_, _, FTTo, PySem.W.mg_of X G aTTo, FTTo.binds (ps := ["wheel", "place", "sign"]) fun _ _ _ _ _ _ us hl => match us, hl with | [_, _, _], _ => rfl⟩
  have FSBeh := fun_mk (st := sSBeh) lSBeh cSBeh kSBeh
  have D_SBeh : Def K mg "stand_behind" sSBeh ["wheel", "stand", "turn"] := ⟨_, _, FSBeh, PySem.W.mg_of X G aSBeh, FSBeh.binds (ps := ["wheel", "stand", "turn"]) fun _ _ _ _ _ _ us hl => match us, hl with | [_, _, _], _ => rfl⟩
  have FNRow := fun_mk (st := sNRow) lNRow cNRow kNRow
  have D_NRow : Def K mg "next_row" sNRow ["wheel", "row", "sign", "slack"] := ⟨_, _, FNRow, PySem.W.mg_of X G aNRow, FNRow.binds (ps := ["wheel", "row", "sign", "slack"]) fun _ _ _ _ _ _ us hl => match us, hl with | [_, _, _, _], _ => rfl⟩
  have FTable := fun_mk (st := sTable) lTable cTable kTable
  have D_Table : Def K mg "table" sTable ["wheel", "word", "slack"] := ⟨_, _, FTable, PySem.W.mg_of X G aTable, FTable.binds (ps := ["wheel", "word", "slack"]) fun _ _ _ _ _ _ us hl => match us, hl with | [_, _, _], _ => rfl⟩
  have FPlAt := fun_mk (st := sPlAt) lPlAt cPlAt kPlAt
  have D_PlAt : Def K mg "places_at" sPlAt ["wheel", "word", "at"] := ⟨_, _, FPlAt, PySem.W.mg_of X G aPlAt, FPlAt.binds (ps := ["wheel", "word", "at"]) fun _ _ _ _ _ _ us hl => match us, hl with | [_, _, _], _ => rfl⟩
  have FBest := fun_mk (st := sBest) lBest cBest kBest
  have D_Best : Def K mg "best_of" sBest ["found"] := ⟨_, _, FBest, PySem.W.mg_of X G aBest, FBest.binds (ps := ["found"]) fun _ _ _ _ _ _ us hl => match us, hl with | [_], _ => rfl⟩
  have FNOn := fun_mk (st := sNOn) lNOn cNOn kNOn
  have D_NOn : Def K mg "need_on" sNOn ["wheel", "stand", "turns", "slack", "behind"] := ⟨_, _, FNOn, PySem.W.mg_of X G aNOn, FNOn.binds (ps := ["wheel", "stand", "turns", "slack", "behind"]) fun _ _ _ _ _ _ us hl => match us, hl with | [_, _, _, _, _], _ => rfl⟩
  have FRAh := fun_mk (st := sRAh) lRAh cRAh kRAh
  have D_RAh : Def K mg "row_ahead" sRAh ["wheel", "places", "sign", "slack", "behind"] := ⟨_, _, FRAh, PySem.W.mg_of X G aRAh, FRAh.binds (ps := ["wheel", "places", "sign", "slack", "behind"]) fun _ _ _ _ _ _ us hl => match us, hl with | [_, _, _, _, _], _ => rfl⟩
  have FNeeds := fun_mk (st := sNeeds) lNeeds cNeeds kNeeds
  have D_Needs : Def K mg "needs" sNeeds ["wheel", "word", "slack"] := ⟨_, _, FNeeds, PySem.W.mg_of X G aNeeds, FNeeds.binds (ps := ["wheel", "word", "slack"]) fun _ _ _ _ _ _ us hl => match us, hl with | [_, _, _], _ => rfl⟩
  have FFTu := fun_mk (st := sFTu) lFTu cFTu kFTu
  have D_FTu : Def K mg "first_turn" sFTu ["wheel", "stand", "sign", "slack", "least", "behind"] := ⟨_, _, FFTu, PySem.W.mg_of X G aFTu, FFTu.binds (ps := ["wheel", "stand", "sign", "slack", "least", "behind"]) fun _ _ _ _ _ _ us hl => match us, hl with | [_, _, _, _, _, _], _ => rfl⟩
  have FPFr := fun_mk (st := sPFr) lPFr cPFr kPFr
  have D_PFr : Def K mg "plan_from" sPFr ["wheel", "word", "slack", "stand"] := ⟨_, _, FPFr, PySem.W.mg_of X G aPFr, FPFr.binds (ps := ["wheel", "word", "slack", "stand"]) fun _ _ _ _ _ _ us hl => match us, hl with | [_, _, _, _], _ => rfl⟩
  have FLPl := fun_mk (st := sLPl) lLPl cLPl kLPl
  have D_LPl : Def K mg "least_plan" sLPl ["wheel", "word", "slack"] := ⟨_, _, FLPl, PySem.W.mg_of X G aLPl, FLPl.binds (ps := ["wheel", "word", "slack"]) fun _ _ _ _ _ _ us hl => match us, hl with | [_, _, _], _ => rfl⟩
  have FRTu := fun_mk (st := sRTu) lRTu cRTu kRTu
  have D_RTu : Def K mg "_law_reach_turns" sRTu ["wheel", "place", "sign"] := ⟨_, _, FRTu, PySem.W.mg_of X G aRTu, FRTu.binds (ps := ["wheel", "place", "sign"]) fun _ _ _ _ _ _ us hl => match us, hl with | [_, _, _], _ => rfl⟩
  have FLStep := fun_mk (st := sLStep) lLStep cLStep kLStep
  have D_LStep : Def K mg "_law_step" sLStep ["turn", "way", "slack"] := ⟨_, _, FLStep, PySem.W.mg_of X G aLStep, FLStep.binds (ps := ["turn", "way", "slack"]) fun _ _ _ _ _ _ us hl => match us, hl with | [_, _, _], _ => rfl⟩
  have FLCost := fun_mk (st := sLCost) lLCost cLCost kLCost
  have D_LCost : Def K mg "_law_cost" sLCost ["turns", "slack"] := ⟨_, _, FLCost, PySem.W.mg_of X G aLCost, FLCost.binds (ps := ["turns", "slack"]) fun _ _ _ _ _ _ us hl => match us, hl with | [_, _], _ => rfl⟩
  have FDraws := fun_mk (st := sDraws) lDraws cDraws kDraws
  have D_Draws : Def K mg "_law_draws" sDraws ["script", "k"] := ⟨_, _, FDraws, PySem.W.mg_of X G aDraws, FDraws.binds (ps := ["script", "k"]) fun _ _ _ _ _ _ us hl => match us, hl with | [_, _], _ => rfl⟩
  have FDraw := fun_mk (st := sDraw) lDraw cDraw kDraw
  have D_Draw : Def K mg "_law_draw" sDraw ["draws", "many"] := ⟨_, _, FDraw, PySem.W.mg_of X G aDraw, FDraw.binds (ps := ["draws", "many"]) fun _ _ _ _ _ _ us hl => match us, hl with | [_, _], _ => rfl⟩
  have FLetters := fun_mk (st := sLetters) lLetters cLetters kLetters
  have D_Letters : Def K mg "_law_letters" sLetters ["draws", "many", "kinds"] := ⟨_, _, FLetters, PySem.W.mg_of X G aLetters, FLetters.binds (ps := ["draws", "many", "kinds"]) fun _ _ _ _ _ _ us hl => match us, hl with | [_, _, _], _ => rfl⟩
  have FLWord := fun_mk (st := sLWord) lLWord cLWord kLWord
  have D_LWord : Def K mg "_law_word" sLWord ["draws", "wheel", "most"] := ⟨_, _, FLWord, PySem.W.mg_of X G aLWord, FLWord.binds (ps := ["draws", "wheel", "most"]) fun _ _ _ _ _ _ us hl => match us, hl with | [_, _, _], _ => rfl⟩
  have FRst := fun_mk (st := sRst) lRst cRst kRst
  have D_Rst : Def K mg "_law_rests" sRst ["wheel", "word", "slack"] := ⟨_, _, FRst, PySem.W.mg_of X G aRst, FRst.binds (ps := ["wheel", "word", "slack"]) fun _ _ _ _ _ _ us hl => match us, hl with | [_, _, _], _ => rfl⟩
  have FLaw := fun_mk (st := sLaw) lLaw cLaw kLaw
  have n0 := PySem.W.mg_of X G nC0
  have n8 := PySem.W.mg_of X G nC8
  have n11 := PySem.W.mg_of X G nC11
  have n12 := PySem.W.mg_of X G nC12
  refine ⟨PySem.W.fnOf "law" "law" (defArgs sLaw) (defBody sLaw) (defScope sLaw) .none kVLaw dcLaw pmLaw anLaw cdLaw ctLaw, fun s v => .of_eq rfl, fun base _ _ => ?_⟩
  have g_WAYS : GTup K mg "WAYS" [.int (-1), .int (0), .int (1)] := gtup_of (PySem.W.mg_of X G gWAYS) hWAYS rfl rfl (by show 3 ≤ sizeLine; decide) (.cons ⟨_, rfl⟩ (.cons ⟨_, rfl⟩ (.cons ⟨_, rfl⟩ .nil)))
  have g_FIRST_STAND : GTup K mg "FIRST_STAND" [.int (0), .int (0)] := gtup_of (PySem.W.mg_of X G gFIRST_STAND) hFIRST_STAND rfl rfl (by show 2 ≤ sizeLine; decide) (.cons ⟨_, rfl⟩ (.cons ⟨_, rfl⟩ .nil))
  have CWd := cal_word (P := l.prog) (w := w) (base := base) D_Word T g_MOST_SIGNS D_Sign
  have CNd := cal_need D_Need T (cal_wheel D_Wheel T g_MOST_PLACES CWd) n11 xi11
  have CTa := cal_task D_Task T CNd (cal_nword D_NWord T CWd n12 xi12) (cal_slack D_Slack T g_MOST_SLACK (cal_whole D_Whole T) n8 xi8) n0 xi0
  have CTt := cal_tto (P := l.prog) (w := w) (base := base) D_TTo T
  have CSb := cal_sbeh (P := l.prog) (w := w) (base := base) D_SBeh T (cal_way D_Way T)
  have CTc := cal_tcost (P := l.prog) (w := w) (base := base) D_TCost T
  have CNo := cal_non D_NOn T CSb CTc (cal_best D_Best T)
  have CNe := cal_needs D_Needs T g_WAYS (cal_plat D_PlAt T (cal_plcs D_Plcs T CNd)) (cal_rah D_RAh T g_WAYS CTt CNo)
  have CPf := cal_pfr D_PFr T CNe (cal_ftu D_FTu T CTt CSb CTc) CSb
  have CDw := cal_draw (P := l.prog) (w := w) (base := base) D_Draw
  have CRt := cal_rtu (P := l.prog) (w := w) (base := base) D_RTu T
  have CLs := cal_lstep (P := l.prog) (w := w) (base := base) D_LStep T
  have CPl := cal_lpl D_LPl T g_FIRST_STAND CTa CPf
  have CTb := cal_table D_Table T CTa (cal_nrow D_NRow T CTt CSb CTc)
  exact ok_law FLaw T (cal_draws D_Draws T) CDw (cal_letters D_Letters T D_Draw) (cal_lword D_LWord T CDw) (cal_rst D_Rst T CRt CLs) CRt CLs CPl CTb (cal_lcost D_LCost T CLs)
theorem walk {l : PySem.W.OpenLaw} {q : Program} {loose : List Str} {XP : (Str → Option Value) → Heap → Prop} {YP : World → Heap → Prop} {d : DefRec} {K : Params → PySem.W.Frag} (hn : l.most = some 63) (hdf : d.params.defaults = [])
    (hY : ∀ (w : World) (h : Heap), YP w h → (K w.params).In h)
    (F : ∀ (w : World) (mg : Str → Option Value) (fa : Addr) (h : Heap), (K w.params).In h → h.Ns mainGlobals mg → mg d.name = some (.ref fa) →
      ∃ fd : FuncData, (∀ (s : Shared) (u : Value), BindsTo s fd ⟨[u], []⟩ [("script", u)]) ∧ ∀ base : Heap, (K w.params).In base → base.Ns mainGlobals mg → FnOk l.prog w (K w.params) mg base CX0 10 fa fd ["script"] (spLaw (K w.params))) :
    PySem.W.WalkO q loose XP YP l.row.toRowW d [] (fun f vs => PySem.call f vs) :=
  L2.walk_of (n := 63) (k := 10) (x := "script") (CX := fun _ => CX0) (sp := fun w => spLaw (K w.params)) hn (by decide) hdf ⟨rfl, by decide, by decide⟩ hY F (fun _ _ a ns hl _ hS => ⟨a, ns, rfl, hS, hl, fun _ => rfl⟩) fun _ _ _ _ _ z => z
end W
open PySem PySem.W PyProof.Rows
set_option maxRecDepth 100000 in
set_option maxHeartbeats 0 in
theorem PySem.Challenge.cw_strikewheel_k08_whole_first_of_great_pla_holds : PySem.Challenge.rw_strikewheel_k08_whole_first_of_great_pla.Holds := by
  w_on; o_law; k_head; (case hw => w_witness2)
  k_fill
  refine W.walk (l := PySem.Challenge.rw_strikewheel_k08_whole_first_of_great_pla) rfl rfl (fun w h Y => PySem.W.kIn_of Y) ?F
  case F =>
    intro w mg fa h KX G hmg
    refine' W.all_mk KX G hmg ?aSign ?lSign ?cSign ?kSign ?aWord ?lWord ?cWord ?kWord ?aNWord ?lNWord ?cNWord ?kNWord ?aWheel ?lWheel ?cWheel ?kWheel ?aNeed ?lNeed ?cNeed ?kNeed ?aPlcs ?lPlcs ?cPlcs ?kPlcs ?aWhole ?lWhole ?cWhole ?kWhole ?aSlack ?lSlack ?cSlack ?kSlack ?aWay ?lWay ?cWay ?kWay ?aTCost ?lTCost ?cTCost ?kTCost ?aTask ?lTask ?cTask ?kTask ?aTTo ?lTTo ?cTTo ?kTTo ?aSBeh ?lSBeh ?cSBeh ?kSBeh ?aNRow ?lNRow ?cNRow ?kNRow ?aTable ?lTable ?cTable ?kTable ?aPlAt ?lPlAt ?cPlAt ?kPlAt ?aBest ?lBest ?cBest ?kBest ?aNOn ?lNOn ?cNOn ?kNOn ?aRAh ?lRAh ?cRAh ?kRAh ?aNeeds ?lNeeds ?cNeeds ?kNeeds ?aFTu ?lFTu ?cFTu ?kFTu ?aPFr ?lPFr ?cPFr ?kPFr ?aLPl ?lLPl ?cLPl ?kLPl ?aRTu ?lRTu ?cRTu ?kRTu ?aLStep ?lLStep ?cLStep ?kLStep ?aLCost ?lLCost ?cLCost ?kLCost ?aDraws ?lDraws ?cDraws ?kDraws ?aDraw ?lDraw ?cDraw ?kDraw ?aLetters ?lLetters ?cLetters ?kLetters ?aLWord ?lLWord ?cLWord ?kLWord ?aRst ?lRst ?cRst ?kRst ?aLaw ?lLaw ?cLaw ?kLaw ?gMOST_SIGNS ?gMOST_PLACES ?gMOST_SLACK ?zlen ?zstr ?zint ?zbool ?ztuple ?zlist ?zdict ?zset ?zenumerate ?zisinstance ?zall ?zany ?zrange ?zmin ?zmax ?zsum ?zabs ?zsorted ?zzip ?zreversed ?zValueError ?gWAYS ?hWAYS ?gFIRST_STAND ?hFIRST_STAND ?nC0 ?xi0 ?nC8 ?xi8 ?nC11 ?xi11 ?nC12 ?xi12
    (case aSign => k_is)
    (case lSign => k_is)
    (case cSign => k_is)
    (case kSign => k_is)
    (case aWord => k_is)
    (case lWord => k_is)
    (case cWord => k_is)
    (case kWord => k_is)
    (case aNWord => k_is)
    (case lNWord => k_is)
    (case cNWord => k_is)
    (case kNWord => k_is)
    (case aWheel => k_is)
    (case lWheel => k_is)
    (case cWheel => k_is)
    (case kWheel => k_is)
    (case aNeed => k_is)
    (case lNeed => k_is)
    (case cNeed => k_is)
    (case kNeed => k_is)
    (case aPlcs => k_is)
    (case lPlcs => k_is)
    (case cPlcs => k_is)
    (case kPlcs => k_is)
    (case aWhole => k_is)
    (case lWhole => k_is)
    (case cWhole => k_is)
    (case kWhole => k_is)
    (case aSlack => k_is)
    (case lSlack => k_is)
    (case cSlack => k_is)
    (case kSlack => k_is)
    (case aWay => k_is)
    (case lWay => k_is)
    (case cWay => k_is)
    (case kWay => k_is)
    (case aTCost => k_is)
    (case lTCost => k_is)
    (case cTCost => k_is)
    (case kTCost => k_is)
    (case aTask => k_is)
    (case lTask => k_is)
    (case cTask => k_is)
    (case kTask => k_is)
    (case aTTo => k_is)
    (case lTTo => k_is)
    (case cTTo => k_is)
    (case kTTo => k_is)
    (case aSBeh => k_is)
    (case lSBeh => k_is)
    (case cSBeh => k_is)
    (case kSBeh => k_is)
    (case aNRow => k_is)
    (case lNRow => k_is)
    (case cNRow => k_is)
    (case kNRow => k_is)
    (case aTable => k_is)
    (case lTable => k_is)
    (case cTable => k_is)
    (case kTable => k_is)
    (case aPlAt => k_is)
    (case lPlAt => k_is)
    (case cPlAt => k_is)
    (case kPlAt => k_is)
    (case aBest => k_is)
    (case lBest => k_is)
    (case cBest => k_is)
    (case kBest => k_is)
    (case aNOn => k_is)
    (case lNOn => k_is)
    (case cNOn => k_is)
    (case kNOn => k_is)
    (case aRAh => k_is)
    (case lRAh => k_is)
    (case cRAh => k_is)
    (case kRAh => k_is)
    (case aNeeds => k_is)
    (case lNeeds => k_is)
    (case cNeeds => k_is)
    (case kNeeds => k_is)
    (case aFTu => k_is)
    (case lFTu => k_is)
    (case cFTu => k_is)
    (case kFTu => k_is)
    (case aPFr => k_is)
    (case lPFr => k_is)
    (case cPFr => k_is)
    (case kPFr => k_is)
    (case aLPl => k_is)
    (case lLPl => k_is)
    (case cLPl => k_is)
    (case kLPl => k_is)
    (case aRTu => k_is)
    (case lRTu => k_is)
    (case cRTu => k_is)
    (case kRTu => k_is)
    (case aLStep => k_is)
    (case lLStep => k_is)
    (case cLStep => k_is)
    (case kLStep => k_is)
    (case aLCost => k_is)
    (case lLCost => k_is)
    (case cLCost => k_is)
    (case kLCost => k_is)
    (case aDraws => k_is)
    (case lDraws => k_is)
    (case cDraws => k_is)
    (case kDraws => k_is)
    (case aDraw => k_is)
    (case lDraw => k_is)
    (case cDraw => k_is)
    (case kDraw => k_is)
    (case aLetters => k_is)
    (case lLetters => k_is)
    (case cLetters => k_is)
    (case kLetters => k_is)
    (case aLWord => k_is)
    (case lLWord => k_is)
    (case cLWord => k_is)
    (case kLWord => k_is)
    (case aRst => k_is)
    (case lRst => k_is)
    (case cRst => k_is)
    (case kRst => k_is)
    (case aLaw => k_is)
    (case lLaw => k_is)
    (case cLaw => k_is)
    (case kLaw => k_is)
    (case gMOST_SIGNS => k_is)
    (case gMOST_PLACES => k_is)
    (case gMOST_SLACK => k_is)
    (case zlen => k_is)
    (case zstr => k_is)
    (case zint => k_is)
    (case zbool => k_is)
    (case ztuple => k_is)
    (case zlist => k_is)
    (case zdict => k_is)
    (case zset => k_is)
    (case zenumerate => k_is)
    (case zisinstance => k_is)
    (case zall => k_is)
    (case zany => k_is)
    (case zrange => k_is)
    (case zmin => k_is)
    (case zmax => k_is)
    (case zsum => k_is)
    (case zabs => k_is)
    (case zsorted => k_is)
    (case zzip => k_is)
    (case zreversed => k_is)
    (case zValueError => k_is)
    (case gWAYS => k_is)
    (case hWAYS => k_is)
    (case gFIRST_STAND => k_is)
    (case hFIRST_STAND => k_is)
    (case nC0 => k_is)
    (case xi0 => k_exc)
    (case nC8 => k_is)
    (case xi8 => k_exc)
    (case nC11 => k_is)
    (case xi11 => k_exc)
    (case nC12 => k_is)
    (case xi12 => k_exc)
#print axioms PySem.Challenge.cw_strikewheel_k08_whole_first_of_great_pla_holds

