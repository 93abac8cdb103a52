import PyProof.Rows.All
import Wide.All
import OpenK.AllK
import Wide.FinOn
import PyProof.EqAt
import PyProof.EqKinds
import PyProof.TupleCall
import KE.BitLaws
import PyProof.LongRange
import KE.OsGo
import PySem.Challenge.RW_patternwords_s01_answers
section
set_option Elab.async false
set_option linter.all false
set_option maxRecDepth 100000
/-! THE HAND LAYER, for ints, bools, texts, own classes, lists, tuples, dicts, comprehensions, walks over dicts, enumerate, zip, reversed, texts, calls, loops. Paste it whole ahead of your own text; what your proof does not reach may be deleted. -/
namespace L2
open PySem PySem.Spec PyProof.Rows

/-- a key: an int or a str -/
abbrev Key := Sum Int Str
def keyIs : Key → Value → Bool
  | .inl k, v => Value.isInt k v
  | .inr x, v => Value.isStrOf x v
def keyH (w : World) : Key → Int
  | .inl k => hashInt k
  | .inr x => hashStr w x
theorem keyIs_shape : ∀ {k : Key} {v : Value}, keyIs k v = true → (∃ i t, k = Sum.inl i ∧ v = Value.int i t) ∨ (∃ x t, k = Sum.inr x ∧ v = Value.str x t)
  | .inl i, v, h => by
    obtain ⟨t, e⟩ := Value.isInt_shape (k := i) (v := v) h
    exact .inl ⟨i, t, rfl, e⟩
  | .inr x, v, h => by
    obtain ⟨t, e⟩ := Value.isStrOf_shape (x := x) (v := v) h
    exact .inr ⟨x, t, rfl, e⟩
theorem key_ll (a b : Int) : decide ((Sum.inl a : Key) = Sum.inl b) = (a == b) := by
  by_cases e : a = b
  · subst e; simp
  · have h : ¬ (Sum.inl a : Key) = Sum.inl b := fun q => e (Sum.inl.inj q)
    rw [decide_eq_false h]
    exact (beq_eq_false_iff_ne.mpr e).symm
theorem key_rr (a b : Str) : decide ((Sum.inr a : Key) = Sum.inr b) = decide (a = b) := by
  by_cases e : a = b
  · subst e; simp
  · have h : ¬ (Sum.inr a : Key) = Sum.inr b := fun q => e (Sum.inr.inj q)
    rw [decide_eq_false h, decide_eq_false e]
theorem key_lr (a : Int) (b : Str) : decide ((Sum.inl a : Key) = Sum.inr b) = false := decide_eq_false (fun q => nomatch q)
theorem key_rl (a : Str) (b : Int) : decide ((Sum.inr a : Key) = Sum.inl b) = false := decide_eq_false (fun q => nomatch q)

def mixKind (prog : Program) (w : World) : PySem.KeyKind prog w Key where
  is := keyIs
  hash := keyH w
  inj := fun v a b ha hb => by
    rcases keyIs_shape ha with ⟨i, t, rfl, rfl⟩ | ⟨x, t, rfl, rfl⟩
    · rcases keyIs_shape hb with ⟨j, u, rfl, e⟩ | ⟨y, u, rfl, e⟩
      · injection e with e1 _; rw [e1]
      · exact nomatch e
    · rcases keyIs_shape hb with ⟨j, u, rfl, e⟩ | ⟨y, u, rfl, e⟩
      · exact nomatch e
      · injection e with e1 _; rw [e1]
  byValue := fun k v h => by
    rcases keyIs_shape h with ⟨i, t, rfl, rfl⟩ | ⟨x, t, rfl, rfl⟩ <;> rfl
  pyHash := fun hv h => by
    rcases keyIs_shape hv with ⟨i, t, rfl, rfl⟩ | ⟨x, t, rfl, rfl⟩
    · exact wpAny_pyHash_int h
    · exact wpAny_pyHash_str h
  eqBool := fun hu hv h => by
    rcases keyIs_shape hu with ⟨i, t, rfl, rfl⟩ | ⟨x, t, rfl, rfl⟩
    · rcases keyIs_shape hv with ⟨j, u, rfl, rfl⟩ | ⟨y, u, rfl, rfl⟩
      · rw [key_ll] at h; exact wpAny_eqBool_int h
      · rw [key_lr] at h; exact SeqAt.EqAt.int_str i t y u _ _ _ _ h
    · rcases keyIs_shape hv with ⟨j, u, rfl, rfl⟩ | ⟨y, u, rfl, rfl⟩
      · rw [key_rl] at h; exact SeqAt.EqAt.str_int x t j u _ _ _ _ h
      · rw [key_rr] at h; exact wpAny_eqBool_str h
  «strs» := fun k x t v h => by
    rcases keyIs_shape h with ⟨i, u, rfl, e⟩ | ⟨y, u, rfl, e⟩
    · exact nomatch e
    · injection e with e1 _
      subst e1
      cases v <;> rfl

end L2

namespace L2
open PySem PySem.Spec PyProof.Rows

/-- a value, without the heap -/
inductive V where
  | non | bl (b : Bool) | int (i : Int) | str (x : Str) | byt (b : Array UInt8) | flt (b : UInt64) | ref (a : Addr) | ty (n : String)
  deriving DecidableEq

def RelV : V → Value → Prop
  | .non, u => u = Value.none
  | .bl b, u => u = Value.bool b
  | .int i, u => ∃ t, u = Value.int i t
  | .str x, u => ∃ t, u = Value.str x t
  | .byt b, u => ∃ t, u = Value.bytes b t
  | .flt b, u => ∃ t, u = Value.float b t
  | .ref a, u => u = Value.ref a
  | .ty n, u => u = Value.type n

abbrev Vals : List V → List Value → Prop := Paired RelV
theorem Vals.length {xs : List V} {us : List Value} (r : Vals xs us) : xs.length = us.length := Paired.length r
theorem Vals.get : ∀ {xs : List V} {us : List Value} {i : Nat} {x : V}, Vals xs us → xs[i]? = some x → ∃ u, us[i]? = some u ∧ RelV x u
  | _, _, _, _, .nil, e => by simp at e
  | _, _, 0, _, .cons r _, e => by simp at e; subst e; exact ⟨_, rfl, r⟩
  | _, _, i + 1, x, .cons _ t, e => by
    obtain ⟨u, h1, h2⟩ := Vals.get (i := i) (x := x) t (by simpa using e)
    exact ⟨u, by simpa using h1, h2⟩
theorem Vals.set {x : V} {u : Value} (r : RelV x u) : ∀ {xs : List V} {us : List Value} (i : Nat), Vals xs us → Vals (xs.set i x) (us.set i u)
  | _, _, _, .nil => .nil
  | _, _, 0, .cons _ t => .cons r t
  | _, _, i + 1, .cons q t => .cons q (Vals.set r i t)
theorem Vals.append : ∀ {xs ys : List V} {us ws : List Value}, Vals xs us → Vals ys ws → Vals (xs ++ ys) (us ++ ws)
  | _, _, _, _, .nil, s => s
  | _, _, _, _, .cons r t, s => .cons r (Vals.append t s)
theorem Vals.take : ∀ {xs : List V} {us : List Value} (n : Nat), Vals xs us → Vals (xs.take n) (us.take n)
  | _, _, 0, _ => .nil
  | _, _, _ + 1, .nil => .nil
  | _, _, n + 1, .cons r t => .cons r (Vals.take n t)
theorem Vals.drop : ∀ {xs : List V} {us : List Value} (n : Nat), Vals xs us → Vals (xs.drop n) (us.drop n)
  | _, _, 0, r => r
  | _, _, _ + 1, .nil => .nil
  | _, _, n + 1, .cons _ t => Vals.drop n t

def RelO : Option V → Option Value → Prop
  | some v, some u => RelV v u
  | none, none => True
  | _, _ => False
def KV {κ : Type} : List (κ × V) → List (κ × Value) → Prop := Paired fun (p : κ × V) (q : κ × Value) => p.1 = q.1 ∧ RelV p.2 q.2

/-- a key of a dict (00_mix): an int or a text -/
def kV : Key → V
  | .inl i => .int i
  | .inr x => .str x

/-- what stands at a tracked address -/
inductive HO where
  /-- a list -/
  | lst (xs : List V)
  /-- a tuple (never changes) -/
  | tup (xs : List V)
  /-- a dict whose keys are ints and texts; one whose keys are tuples of ints and texts (the empty one is both) -/
  | dK (kvs : List (Key × V)) | dT (kvs : List (List Key × V))
  /-- a set of ints: its members, its size -/
  | set (S : Int → Bool) (n : Nat)
  /-- an instance of the class at C, its dict at dx, its attributes -/
  | ins (C dx : Addr) (fs : List (Str × V))
  /-- the dict of the instance at x -/
  | own (x : Addr)
  /-- the dict of an exception -/
  | xd (fs : List (Str × V))
  /-- a bound method, f of x -/
  | met (f x : Addr)
  /-- a range object lo, lo + 1, .. below hi -/
  | rng (lo hi : Int)
  /-- a thing that is known to the object (the script; a dict while a loop walks it): read, never written while it is so -/
  | frz (o : Obj) (u : HO)
  /-- a code object's table -/
  | tbl (ps : Array Value)
  /-- any other thing, by what is true of its one object (a def of one's own: SetO a S n := HO.ext fun h => ..) -/
  | ext (φ : Heap → Prop)

abbrev Hp := Addr → Option HO
def upd (H : Hp) (a : Addr) (o : HO) : Hp := fun b => if b = a then some o else H b
theorem upd_same {H : Hp} {a : Addr} {o : HO} : upd H a o a = some o := by unfold upd; rw [if_pos rfl]
theorem upd_ne {H : Hp} {a b : Addr} {o : HO} (h : b ≠ a) : upd H a o b = H b := by unfold upd; rw [if_neg h]
theorem upd_upd {H : Hp} {a : Addr} {o u : HO} : upd (upd H a o) a u = upd H a u := by
  funext b; unfold upd; split <;> rfl
/-- two objects of different content stand apart -/
theorem ne_of {H : Hp} {a b : Addr} {o u : HO} (h : H a = some o) (h' : H b = some u) (d : o ≠ u) : a ≠ b := by
  intro e; subst e; rw [h] at h'; exact d (Option.some.inj h')
theorem ne_of_none {H : Hp} {a b : Addr} {o : HO} (h : H a = some o) (h' : H b = none) : a ≠ b := by
  intro e; subst e; rw [h] at h'; cases h'

section
variable (P : Program) (w : World)
def ObjOk (H : Hp) (h : Heap) (a : Addr) : HO → Prop
  | .lst xs => xs.length ≤ sizeLine ∧ ∃ (its : List Value) (n : Nat), Vals xs its ∧ h.get? a = some { cls := .type "list", data := .seq its.toArray n }
  | .tup xs => xs.length ≤ sizeLine ∧ ∃ its : List Value, Vals xs its ∧ IsTup h a its.toArray
  | .dK kvs => kvs.length ≤ sizeLine ∧ (a == sysModules) = false ∧ ∃ vs, KV kvs vs ∧ h.DictOf (mixKind P w) a vs
  | .dT kvs => kvs.length ≤ sizeLine ∧ (a == sysModules) = false ∧ ∃ xs : List (List Key × Addr × Value),
      Paired (fun (p : List Key × V) (q : List Key × Addr × Value) => p.1 = q.1 ∧ H q.2.1 = some (.tup (p.1.map kV)) ∧ RelV p.2 q.2.2) kvs xs ∧
      ∃ o es ep, h.get? a = some o ∧ o.ExactDict ∧ o.data = .dict es ep ∧ es.toList = xs.map (entryOfKey (tupleKind (mixKind P w))) ∧ (xs.map (·.1)).Nodup
  | .set S n => h.SetOf (intKind P w) a S n
  | .ins C dx fs => H dx = some (.own a) ∧ fs.length ≤ 1000 ∧ dx ≠ a ∧ h.get? a = some (PySem.W.instObj C dx) ∧
      ∃ mA, h.Ns1 dx mA ∧ (∀ f, RelO (fs.lookup f) (mA f)) ∧ PySem.Within mA (fs.map (·.1))
  | .own _ => ∃ o, h.get? a = some o
  | .xd fs => ∃ mA, h.Ns1 a mA ∧ ∀ f, RelO (fs.lookup f) (mA f)
  | .rng lo hi => ∃ t u v, h.get? a = some { cls := .type "range", data := .fields #[.int lo t, .int hi u, .int 1 v] }
  | .frz o u => h.get? a = some o ∧ ObjOk H h a u
  | .tbl ps => h.get? a = some { cls := .none, data := .fields ps }
  | .met f x => h.get? a = some (PySem.W.methodObj (.ref f) (.ref x))
  | .ext φ => φ h ∧ (∃ o, h.get? a = some o) ∧ ∀ h1 h2 : Heap, φ h1 → (∀ o, h1.get? a = some o → h2.get? a = some o) → φ h2
/-- the abstract heap is held -/
def HOk (H : Hp) (h : Heap) : Prop := ∀ a o, H a = some o → ObjOk P w H h a o
end

section
variable {P : Program} {w : World} {H H' : Hp} {h h' : Heap} {a : Addr} {o : HO}
theorem ObjOk.lt (x : ObjOk P w H h a o) : a < h.objs.size := by
  cases o with
  | lst xs => obtain ⟨_, _, _, _, e⟩ := x; exact Heap.lt_size e
  | tup xs => obtain ⟨_, _, _, p⟩ := x; exact p.lt
  | dK kvs => obtain ⟨_, _, _, _, o, _, _, e, _⟩ := x; exact Heap.lt_size e
  | dT kvs => obtain ⟨_, _, _, _, o, _, _, e, _⟩ := x; exact Heap.lt_size e
  | set S n => obtain ⟨o, _, _, _, e, _⟩ := x; exact Heap.lt_size e
  | ins C dx fs => obtain ⟨_, _, _, e, _⟩ := x; exact Heap.lt_size e
  | own y => obtain ⟨_, e⟩ := x; exact Heap.lt_size e
  | xd fs => obtain ⟨_, ⟨_, _, _, e, _⟩, _⟩ := x; exact Heap.lt_size e
  | rng lo hi => obtain ⟨_, _, _, e⟩ := x; exact Heap.lt_size e
  | frz ob u => obtain ⟨e, _⟩ := x; exact Heap.lt_size e
  | tbl ps => exact Heap.lt_size (show h.get? a = some _ from x)
  | met f y => exact Heap.lt_size (show h.get? a = some _ from x)
  | ext φ => obtain ⟨_, ⟨_, e⟩, _⟩ := x; exact Heap.lt_size e
theorem Paired.mapP {α β : Type} {F G : α → β → Prop} : ∀ {l₁ : List α} {l₂ : List β}, Paired F l₁ l₂ → (∀ a b, F a b → G a b) → Paired G l₁ l₂
  | _, _, .nil, _ => .nil
  | _, _, .cons r t, f => .cons (f _ _ r) (Paired.mapP t f)
/-- what an object's description leans on: its own object, its own dict, the tuples -/
theorem ObjOk.stay (x : ObjOk P w H h a o) (k : ∀ b u, (b = a ∨ H b = some (.own a)) → h.get? b = some u → h'.get? b = some u)
    (ho : ∀ b, H b = some (.own a) → H' b = some (.own a)) (ht : ∀ b xs, H b = some (.tup xs) → H' b = some (.tup xs)) : ObjOk P w H' h' a o := by
  induction o with
  | lst xs => obtain ⟨z, its, n, r, e⟩ := x; exact ⟨z, its, n, r, k _ _ (.inl rfl) e⟩
  | tup xs => obtain ⟨z, its, r, ob, e, c⟩ := x; exact ⟨z, its, r, ob, k _ _ (.inl rfl) e, c⟩
  | dK kvs => obtain ⟨z, y, vs, r, ob, es, ep, e, c⟩ := x; exact ⟨z, y, vs, r, ob, es, ep, k _ _ (.inl rfl) e, c⟩
  | dT kvs =>
    obtain ⟨z, y, xs, r, ob, es, ep, e, c⟩ := x
    exact ⟨z, y, xs, Paired.mapP r fun p q z => ⟨z.1, ht _ _ z.2.1, z.2.2⟩, ob, es, ep, k _ _ (.inl rfl) e, c⟩
  | set S n => obtain ⟨ob, es, ep, t, e, c⟩ := x; exact ⟨ob, es, ep, t, k _ _ (.inl rfl) e, c⟩
  | ins C dx fs =>
    obtain ⟨d, z, ne, e, mA, ⟨od, es, ep, e2, c⟩, r⟩ := x
    exact ⟨ho _ d, z, ne, k _ _ (.inl rfl) e, mA, ⟨od, es, ep, k _ _ (.inr d) e2, c⟩, r⟩
  | own y => obtain ⟨ob, e⟩ := x; exact ⟨ob, k _ _ (.inl rfl) e⟩
  | xd fs => obtain ⟨mA, ⟨od, es, ep, e, c⟩, r⟩ := x; exact ⟨mA, ⟨od, es, ep, k _ _ (.inl rfl) e, c⟩, r⟩
  | rng lo hi => obtain ⟨t, u, v, e⟩ := x; exact ⟨t, u, v, k _ _ (.inl rfl) e⟩
  | frz ob u ih => obtain ⟨e, q⟩ := x; exact ⟨k _ _ (.inl rfl) e, ih q⟩
  | tbl ps =>
    have e : h.get? a = some { cls := .none, data := .fields ps } := x
    show h'.get? a = some { cls := .none, data := .fields ps }
    exact k a _ (.inl rfl) e
  | met f y =>
    have e : h.get? a = some (PySem.W.methodObj (.ref f) (.ref y)) := x
    show h'.get? a = some (PySem.W.methodObj (.ref f) (.ref y))
    exact k a _ (.inl rfl) e
  | ext φ => obtain ⟨p, ⟨o, e⟩, st⟩ := x; exact ⟨st _ _ p fun o q => k _ _ (.inl rfl) q, ⟨o, k _ _ (.inl rfl) e⟩, st⟩
theorem HOk.lt (x : HOk P w H h) (e : H a = some o) : a < h.objs.size := (x a o e).lt
theorem HOk.fresh (x : HOk P w H h) (e : h.objs.size ≤ a) : H a = none := by
  cases q : H a with
  | none => rfl
  | some u => exact absurd (Nat.lt_of_lt_of_le (x.lt q) e) (Nat.lt_irrefl _)
/-- every object of the heap is kept -/
theorem HOk.kept (x : HOk P w H h) (k : ∀ b u, h.get? b = some u → h'.get? b = some u) : HOk P w H h' := fun a o e =>
  (x a o e).stay (fun b u _ q => k b u q) (fun _ q => q) fun _ _ q => q
/-- a new object is laid and tracked -/
theorem HOk.laid (x : HOk P w H h) (k : ∀ b u, h.get? b = some u → h'.get? b = some u) (hp : h.objs.size ≤ a) (new : ObjOk P w (upd H a o) h' a o) : HOk P w (upd H a o) h' := fun b u e => by
  have hn := x.fresh hp
  by_cases hb : b = a
  · subst hb; rw [upd_same] at e; cases e; exact new
  · rw [upd_ne hb] at e
    exact (x b u e).stay (fun c v _ q => k c v q) (fun c q => by rw [upd_ne (ne_of_none q hn)]; exact q) fun c xs q => by rw [upd_ne (ne_of_none q hn)]; exact q
end

/-- what may be read as u: it is u, or a known u -/
def Rd (H : Hp) (a : Addr) (u : HO) : Prop := H a = some u ∨ ∃ o, H a = some (.frz o u)
theorem Rd.ok {P : Program} {w : World} {H : Hp} {h : Heap} {a : Addr} {u : HO} (r : Rd H a u) (x : HOk P w H h) : ObjOk P w H h a u := by
  rcases r with r | ⟨o, r⟩
  · exact x a u r
  · obtain ⟨_, q⟩ := x a _ r
    exact q
/-- what may be written -/
def Mut : Option HO → Prop
  | some (.lst _) => True
  | some (.dK _) => True
  | some (.dT _) => True
  | some (.set _ _) => True
  | some (.ins _ _ _) => True
  | some (.ext _) => True
  | _ => False
section
variable {P : Program} {w : World} {H : Hp} {h h' : Heap} {x e : Addr} {o' : HO}
/-- the object at e is changed: x itself, or the dict of the instance x -/
theorem HOk.write (ok : HOk P w H h) (mu : Mut (H x)) (he : e = x ∨ H e = some (.own x)) (k : ∀ b u, b ≠ e → h.get? b = some u → h'.get? b = some u) (heo : ∃ u, h'.get? e = some u)
    (new : ObjOk P w (upd H x o') h' x o') : HOk P w (upd H x o') h' := fun b u q => by
  have nown : ∀ c y, H c = some (.own y) → c ≠ x := fun c y r z => by subst z; rw [r] at mu; exact mu
  have ntup : ∀ c xs, H c = some (.tup xs) → c ≠ x := fun c xs r z => by subst z; rw [r] at mu; exact mu
  by_cases hb : b = x
  · subst hb; rw [upd_same] at q; cases q; exact new
  · rw [upd_ne hb] at q
    by_cases hbe : b = e
    · have q' : H b = some (.own x) := by
        rcases he with z | z
        · exact absurd (hbe.trans z) hb
        · rw [hbe]; exact z
      rw [q] at q'; cases q'
      obtain ⟨v, hv⟩ := heo
      exact ⟨v, by rw [hbe]; exact hv⟩
    · refine (ok b u q).stay (fun c v hc r => k c v ?_ r) (fun c r => by rw [upd_ne (nown c b r)]; exact r) fun c xs r => by rw [upd_ne (ntup c xs r)]; exact r
      rcases hc with rfl | hc
      · exact hbe
      · rintro rfl
        rcases he with z | z
        · exact nown c b hc z
        · rw [hc] at z; cases z; exact hb rfl
end

/-! ### kept unless tracked; of the frames at fs (the callers') the slots may change (an exception that passes writes there); of the records at ex (iterators) nothing is said -/
structure Un (fs ex : List Addr) (H H' : Hp) (h h' : Heap) : Prop where
  keep : ∀ b o, h.get? b = some o → H b = none → b ∉ fs → b ∉ ex → h'.get? b = some o
  slot : ∀ b o, h.get? b = some o → H b = none → b ∈ fs → b ∉ ex → ∃ sl, h'.get? b = some { o with slots := sl }
  free : ∀ b o, h.get? b = some o → H b = none → b ∉ ex → H' b = none
  there : ∀ b o, h.get? b = some o → b ∉ ex → ∃ o', h'.get? b = some o'
  tups : ∀ b xs, H b = some (.tup xs) → H' b = some (.tup xs)
  frzs : ∀ b o u, H b = some (.frz o u) → H' b = some (.frz o u)
  tbls : ∀ b ps, H b = some (.tbl ps) → ∃ more, H' b = some (.tbl (ps ++ more))
section
variable {fs fs' ex ex' : List Addr} {H H1 H2 : Hp} {h h1 h2 h' : Heap} {a x e : Addr} {o : HO}
theorem Un.any (u : Un fs ex H H1 h h1) {b : Addr} {ob : Obj} (q : h.get? b = some ob) (n : H b = none) (hx : b ∉ ex) : ∃ sl, h1.get? b = some { ob with slots := sl } := by
  by_cases hb : b ∈ fs
  · exact u.slot b ob q n hb hx
  · exact ⟨ob.slots, u.keep b ob q n hb hx⟩
theorem Un.kept (k : ∀ b u, h.get? b = some u → h'.get? b = some u) : Un fs ex H H h h' :=
  ⟨fun b ob q _ _ _ => k b ob q, fun b ob q _ _ _ => ⟨ob.slots, k b ob q⟩, fun _ _ _ n _ => n, fun b ob q _ => ⟨ob, k b ob q⟩, fun _ _ q => q, fun _ _ _ q => q, fun _ ps q => ⟨#[], by rw [q]; simp⟩⟩
theorem Un.refl : Un fs ex H H h h := Un.kept fun _ _ q => q
theorem Un.laid (k : ∀ b u, h.get? b = some u → h'.get? b = some u) (hp : h.objs.size ≤ a) (hn : H a = none) : Un fs ex H (upd H a o) h h' where
  keep := fun b u q _ _ _ => k b u q
  slot := fun b u q _ _ _ => ⟨u.slots, k b u q⟩
  free := fun b u q n _ => by rw [upd_ne (Nat.ne_of_lt (Nat.lt_of_lt_of_le (Heap.lt_size q) hp))]; exact n
  there := fun b u q _ => ⟨u, k b u q⟩
  tups := fun b xs q => by rw [upd_ne (ne_of_none q hn)]; exact q
  frzs := fun b u xs q => by rw [upd_ne (ne_of_none q hn)]; exact q
  tbls := fun b ps q => ⟨#[], by rw [upd_ne (ne_of_none q hn), q]; simp⟩
theorem Un.write (mu : Mut (H x)) (he : e = x ∨ H e = some (.own x)) (k : ∀ b u, b ≠ e → h.get? b = some u → h'.get? b = some u) (heo : ∃ u, h'.get? e = some u) : Un fs ex H (upd H x o) h h' := by
  have hx : ∀ b, H b = none → b ≠ x := fun b n z => by subst z; rw [n] at mu; exact mu
  have hb : ∀ b, H b = none → b ≠ e := fun b n z => by
    subst z
    rcases he with r | r
    · exact hx b n r
    · rw [n] at r; cases r
  have hm : ∀ b u, H b = some u → ¬ Mut (some u) → b ≠ x := fun b u q nm z => by subst z; rw [q] at mu; exact nm mu
  refine ⟨fun b u q n _ _ => k b u (hb b n) q, fun b u q n _ _ => ⟨u.slots, k b u (hb b n) q⟩, fun b u q n _ => by rw [upd_ne (hx b n)]; exact n, fun b u q _ => ?_,
    fun b xs q => by rw [upd_ne (hm b _ q fun z => z)]; exact q, fun b u xs q => by rw [upd_ne (hm b _ q fun z => z)]; exact q, fun b ps q => ⟨#[], by rw [upd_ne (hm b _ q fun z => z), q]; simp⟩⟩
  by_cases hbe : b = e
  · subst hbe; exact heo
  · exact ⟨u, k b u hbe q⟩
end

/-! ### the heap without what is tracked -/
def trk (h : Heap) (H : Hp) : List Addr := (List.range h.objs.size).filter fun a => (H a).isSome
def hidT (h : Heap) (H : Hp) : Heap := PySem.W.hideAll h (trk h H)
theorem hidT_size (h : Heap) (H : Hp) : (hidT h H).objs.size = h.objs.size := PySem.W.hideAll_size _ _
theorem hidT_get {h : Heap} {H : Hp} {b : Addr} {o : Obj} (e : h.get? b = some o) (n : H b = none) : (hidT h H).get? b = some o :=
  PySem.W.hideAll_get _ e fun hm => by
    have q : (H b).isSome = true := (List.mem_filter.mp hm).2
    rw [n] at q; simp at q
theorem of_hidT {h : Heap} {H : Hp} {b : Addr} {o : Obj} (e : (hidT h H).get? b = some o) : h.get? b = some o ∧ H b = none := by
  have e' : h.get? b = some o := PySem.W.of_hideAll (trk h H) e
  refine ⟨e', ?_⟩
  cases q : H b with
  | none => rfl
  | some x =>
    have hm : b ∈ trk h H := List.mem_filter.mpr ⟨List.mem_range.mpr (Heap.lt_size e'), by simp [q]⟩
    have z : (hidT h H).get? b = none := PySem.W.hideAll_none (trk h H) hm
    rw [z] at e; cases e

/-! ### OpenK's ledger, filled with every new object but one -/
end L2

namespace L2
open PySem PySem.Spec PyProof.Rows

/-- the module's facts, over the base: the heap at the law's entry without what is tracked there -/
structure Mod (K : PySem.W.Frag) (mg : Str → Option Value) (base : Heap) : Prop where
  kin : K.In base
  glob : base.Ns mainGlobals mg
  blt : ∃ mb, base.Ns builtinsNs mb ∧ ∀ x : Str, x ≠ "__name__" → mb x = bootBuiltins x
  nolimit : base.NoLimit

/-- the context: a def's body (or a comprehension's block) running. base: fixed through the whole law; s₀, H₀: the entry; outer: the frames whose slots others may change (a def's callers); stack: all frames that run;
   ex: iterators that were made ahead of the entry and are walked here (a comprehension's); fn: the names whose cells were made at the entry (a def: all; a comprehension's block: its own); calm: not within an except suite; pn: pins that every state bears; xe: what is wanted of an exception that leaves the code -/
structure Cx where
  prog : Program
  w : World
  K : PySem.W.Frag
  mg : Str → Option Value
  base : Heap
  A : Around
  N : List Str
  s_0 : Shared
  H_0 : Hp
  env : Env
  outer : List Env
  stack : List Env
  ex : List Addr
  fn : Str → Bool
  calm : Bool
  pn : List (Addr × Obj)
  xe : Value → Shared → Prop
/-- the callers' frames -/
def frs (l : List Env) : List Addr := l.filterMap (·.frame)
abbrev Cx.fs (X : Cx) : List Addr := frs X.outer

def Vis (sc : Scope) (x : Str) : Prop := sc.names.lookup x = some .local ∨ sc.names.lookup x = some .cell ∨ sc.names.lookup x = some .free
def Loc (sc : Scope) (x : Str) : Prop := sc.names.lookup x = some .local ∨ sc.names.lookup x = some .cell
def Look (env : Env) (h : Heap) (m : Str → Option Value) (x : Str) (u : Value) : Prop :=
  (env.kindOf x = some .local ∧ m x = some u) ∨ ((env.kindOf x = some .cell ∨ env.kindOf x = some .free) ∧ ∃ c, env.cells.lookup x = some c ∧ h.IsCell c (some u))

structure Cx.Ok (X : Cx) : Prop where
  mod : Mod X.K X.mg X.base
  kind : X.env.scope.kind = .function
  glob : X.env.globals = mainGlobals
  blt : X.env.builtins = builtinsNs
  above : X.s_0.heap.objs.size ≤ X.env.locals
  inj : ∀ x y c, X.env.cells.lookup x = some c → X.env.cells.lookup y = some c → x = y
  has : ∀ x, (X.env.kindOf x = some .cell ∨ X.env.kindOf x = some .free) → ∃ c, X.env.cells.lookup x = some c
  cab : ∀ x c, X.fn x = true → X.env.cells.lookup x = some c → X.s_0.heap.objs.size ≤ c
  hd : X.calm = true → X.A.handled = none
  frames : X.A.frames = some X.stack
  stk : X.stack = X.outer ∨ (X.stack = X.env :: X.outer ∧ X.env.frame = some X.env.locals)
  exf : ∀ b ∈ X.ex, b ≠ X.env.locals ∧ ∀ x c, X.env.cells.lookup x = some c → c ≠ b
  bs : ∀ b o, X.base.get? b = some o → X.s_0.heap.get? b = some o ∧ X.H_0 b = none
  bsz : X.base.objs.size ≤ X.s_0.heap.objs.size
  noex : ∀ b o, X.base.get? b = some o → b ∉ X.ex
  exfs : ∀ b ∈ X.ex, b ∉ X.fs
  funs : X.s_0.heap.FunFrames X.base X.outer
  frf : ∀ b ∈ X.fs, X.H_0 b = none

structure Inv (X : Cx) (pins : List (Addr × Obj)) (σ : List (Option V)) (H : Hp) (s : Shared) : Prop where
  ok : X.Ok
  os : s.os = X.s_0.os
  bare : AllBare s.gens
  base : Un X.fs X.ex X.H_0 H X.s_0.heap s.heap
  loc : ∃ m, s.heap.Ns X.env.locals m ∧ ∀ (i : Nat) (x : Str) (v : V), X.N[i]? = some x → σ[i]? = some (some v) → Vis X.env.scope x → ∃ u, RelV v u ∧ Look X.env s.heap m x u
  cell : ∀ x c, X.env.cells.lookup x = some c → ∃ v, s.heap.IsCell c v
  free : H X.env.locals = none
  freeC : ∀ x c, X.env.cells.lookup x = some c → H c = none
  pin : ∀ p ∈ X.pn ++ pins, s.heap.get? p.1 = some p.2 ∧ H p.1 = none ∧ p.1 ≠ X.env.locals ∧ p.1 ∉ X.fs ∧ ∀ v, p.2.data ≠ .cell v
  hok : HOk X.prog X.w H s.heap
  len : σ.length = X.N.length

section
variable {X : Cx} {pins : List (Addr × Obj)} {σ : List (Option V)} {H H' : Hp} {s : Shared} {h' : Heap}

theorem Cx.Ok.nofr (ok : X.Ok) {b : Addr} {o : Obj} (e : X.base.get? b = some o) : b ∉ X.fs := fun hb => by
  have := (ok.funs.mem hb).1
  rw [e] at this; cases this
theorem Inv.bs (I : Inv X pins σ H s) : ∀ b o, X.base.get? b = some o → s.heap.get? b = some o ∧ H b = none := fun b o e =>
  ⟨I.base.keep b o (I.ok.bs b o e).1 (I.ok.bs b o e).2 (I.ok.nofr e) (I.ok.noex b o e), I.base.free b o (I.ok.bs b o e).1 (I.ok.bs b o e).2 (I.ok.noex b o e)⟩
theorem Inv.bk (I : Inv X pins σ H s) : ∀ b o, X.base.get? b = some o → s.heap.get? b = some o := fun b o e => (I.bs b o e).1
theorem Inv.mod (I : Inv X pins σ H s) : Mod X.K X.mg X.base := I.ok.mod
theorem Inv.kIn (I : Inv X pins σ H s) : X.K.In s.heap := I.ok.mod.kin.keeps I.bk
/-- the frame over the base: for OpenK's rules (K.In X.base is I.mod.kin) -/
theorem Inv.fr (I : Inv X pins σ H s) : ∃ m, Fr X.base X.env.locals s.heap m :=
  let ⟨m, hn, _⟩ := I.loc
  ⟨m, hn, I.bk, Nat.le_trans I.ok.bsz I.ok.above⟩
theorem Inv.lt (I : Inv X pins σ H s) : X.env.locals < s.heap.objs.size := let ⟨_, hn, _⟩ := I.loc; hn.lt
theorem Inv.sz (I : Inv X pins σ H s) : X.s_0.heap.objs.size ≤ s.heap.objs.size := Nat.le_trans I.ok.above (Nat.le_of_lt I.lt)
theorem Inv.nofs (I : Inv X pins σ H s) {a : Addr} (h : s.heap.objs.size ≤ a) : a ∉ X.fs := fun hb => by
  obtain ⟨_, o, ho, _⟩ := I.ok.funs.mem hb
  exact absurd (Nat.lt_of_lt_of_le (Heap.lt_size ho) (Nat.le_trans I.sz h)) (Nat.lt_irrefl _)
theorem Inv.cne (I : Inv X pins σ H s) : ∀ x c, X.env.cells.lookup x = some c → c ≠ X.env.locals := fun x c e z => by
  obtain ⟨v, o, ho, hd⟩ := I.cell x c e
  obtain ⟨m, ⟨o', es, ep, ho', hd', _⟩, _⟩ := I.loc
  rw [z, ho'] at ho; cases ho; rw [hd'] at hd; cases hd
theorem Inv.funs (I : Inv X pins σ H s) : s.heap.FunFrames X.base X.outer := by
  have all : ∀ (l : List Env), (∀ b ∈ frs l, b ∈ X.fs) → X.s_0.heap.FunFrames X.base l → s.heap.FunFrames X.base l := by
    intro l
    induction l with
    | nil => intro _ _; trivial
    | cons env r ih =>
      intro hs hl
      obtain ⟨hk, ⟨L, o, hf, hn, ho, hd⟩, hr⟩ := hl
      have hL : L ∈ X.fs := hs L (by unfold frs; rw [List.filterMap_cons, hf]; exact List.mem_cons_self)
      obtain ⟨sl, e⟩ := I.base.slot L o ho (I.ok.frf L hL) hL fun z => I.ok.exfs L z hL
      exact ⟨hk, ⟨L, _, hf, hn, e, hd⟩, ih (fun b hb => hs b (by unfold frs; rw [List.filterMap_cons, hf]; exact List.mem_cons_of_mem _ hb)) hr⟩
  exact all X.outer (fun _ hb => hb) I.ok.funs

/-- the frames that run, for a call -/
theorem Inv.stack (I : Inv X pins σ H s) : s.heap.FunFrames X.base X.stack := by
  rcases I.ok.stk with e | ⟨e, hf⟩
  · rw [e]; exact I.funs
  · rw [e]
    obtain ⟨m, hn, _⟩ := I.loc
    refine .cons (by rw [I.ok.kind]; decide) hf hn ?_ I.funs
    exact Heap.get?_none_of_le (Nat.le_trans I.ok.bsz I.ok.above)
theorem Inv.stkSub (I : Inv X pins σ H s) : ∀ b ∈ frs X.stack, b ∈ X.env.locals :: X.fs := fun b hb => by
  rcases I.ok.stk with e | ⟨e, hf⟩
  · rw [e] at hb; exact List.mem_cons_of_mem _ hb
  · rw [e] at hb
    unfold frs at hb
    rw [List.filterMap_cons, hf] at hb
    exact hb
theorem Inv.stkFree (I : Inv X pins σ H s) : ∀ b ∈ frs X.stack, H b = none := fun b hb => by
  rcases List.mem_cons.mp (I.stkSub b hb) with e | hb
  · rw [e]; exact I.free
  · obtain ⟨_, o, ho, _⟩ := I.ok.funs.mem hb
    exact I.base.free b o ho (I.ok.frf b hb) fun z => I.ok.exfs b z hb

/-- THE STEP: the untracked objects but the frame and the records at ch are kept (the callers' frames up to slots), the frame's map is kept, the new abstract heap is held -/
theorem Inv.step {g' : Array GenState} {t' : Nat} {d' : Drawn} {ch : List Addr} (I : Inv X pins σ H s)
    (hch : ∀ b ∈ ch, (b ∈ X.ex ∨ X.s_0.heap.objs.size ≤ b) ∧ b ≠ X.env.locals ∧ (∀ x c, X.env.cells.lookup x = some c → c ≠ b) ∧ ∀ p ∈ X.pn ++ pins, p.1 ≠ b)
    (keep : ∀ b o, b ≠ X.env.locals → b ∉ X.fs → b ∉ ch → s.heap.get? b = some o → H b = none → h'.get? b = some o)
    (slot : ∀ b o, b ≠ X.env.locals → b ∈ X.fs → b ∉ ch → s.heap.get? b = some o → H b = none → ∃ sl, h'.get? b = some { o with slots := sl }) (free : ∀ b o, b ∉ ch → s.heap.get? b = some o → H b = none → H' b = none)
    (there : ∀ b o, b ∉ ch → s.heap.get? b = some o → ∃ o', h'.get? b = some o')
    (tups : ∀ b xs, H b = some (.tup xs) → H' b = some (.tup xs)) (frzs : ∀ b o u, H b = some (.frz o u) → H' b = some (.frz o u)) (tbls : ∀ b ps, H b = some (.tbl ps) → ∃ more, H' b = some (.tbl (ps ++ more)))
    (ns : ∀ m, s.heap.Ns X.env.locals m → h'.Ns X.env.locals m) (hok : HOk X.prog X.w H' h') (hg : AllBare g') :
    Inv X pins σ H' { s with heap := h', gens := g', drawn := d', toks := t' } := by
  have neL : ∀ b o, X.s_0.heap.get? b = some o → b ≠ X.env.locals := fun b o e => Nat.ne_of_lt (Nat.lt_of_lt_of_le (Heap.lt_size e) I.ok.above)
  have neC : ∀ b o, X.s_0.heap.get? b = some o → b ∉ X.ex → b ∉ ch := fun b o e hx hb => by
    rcases (hch b hb).1 with z | z
    · exact hx z
    · exact absurd (Nat.lt_of_lt_of_le (Heap.lt_size e) z) (Nat.lt_irrefl _)
  have cellK : ∀ x c, X.env.cells.lookup x = some c → ∀ v, s.heap.IsCell c v → h'.IsCell c v := fun x c e v ⟨o, ho, hd⟩ => by
    have nch : c ∉ ch := fun z => (hch c z).2.2.1 x c e rfl
    by_cases hc : c ∈ X.fs
    · obtain ⟨sl, q⟩ := slot c o (I.cne x c e) hc nch ho (I.freeC x c e)
      exact ⟨_, q, hd⟩
    · exact ⟨o, keep c o (I.cne x c e) hc nch ho (I.freeC x c e), hd⟩
  refine ⟨I.ok, I.os, hg, ⟨fun b o e n hb hx => ?_, fun b o e n hb hx => ?_, fun b o e n hx => ?_, fun b o e hx => ?_, fun b xs e => tups b xs (I.base.tups b xs e), fun b o xs e => frzs b o xs (I.base.frzs b o xs e), fun b ps e => ?_⟩, ?_, fun x c e => ?_, ?_, fun x c e => ?_, fun p hp => ?_, hok, I.len⟩
  · exact keep b o (neL b o e) hb (neC b o e hx) (I.base.keep b o e n hb hx) (I.base.free b o e n hx)
  · obtain ⟨sl, e1⟩ := I.base.slot b o e n hb hx
    obtain ⟨sl', e2⟩ := slot b _ (neL b o e) hb (neC b o e hx) e1 (I.base.free b o e n hx)
    exact ⟨sl', e2⟩
  · obtain ⟨o', e1⟩ := I.base.there b o e hx
    exact free b o' (neC b o e hx) e1 (I.base.free b o e n hx)
  · obtain ⟨o', e1⟩ := I.base.there b o e hx
    exact there b o' (neC b o e hx) e1
  · obtain ⟨m1, e1⟩ := I.base.tbls b ps e
    obtain ⟨m2, e2⟩ := tbls b _ e1
    exact ⟨m1 ++ m2, by rw [e2, Array.append_assoc]⟩
  · obtain ⟨m, hn, hl⟩ := I.loc
    refine ⟨m, ns m hn, fun i x v e1 e2 e3 => ?_⟩
    obtain ⟨u, r, l⟩ := hl i x v e1 e2 e3
    refine ⟨u, r, ?_⟩
    rcases l with l | ⟨k, c, e, z⟩
    · exact .inl l
    · exact .inr ⟨k, c, e, cellK x c e _ z⟩
  · obtain ⟨v, z⟩ := I.cell x c e
    exact ⟨v, cellK x c e v z⟩
  · obtain ⟨m, ⟨o, _, _, ho, _⟩, _⟩ := I.loc
    exact free _ o (fun z => (hch _ z).2.1 rfl) ho I.free
  · obtain ⟨v, o, ho, hd⟩ := I.cell x c e
    exact free c o (fun z => (hch c z).2.2.1 x c e rfl) ho (I.freeC x c e)
  · obtain ⟨e, n, ne, nf, d⟩ := I.pin p hp
    have nch : p.1 ∉ ch := fun z => (hch p.1 z).2.2.2 p hp rfl
    exact ⟨keep p.1 p.2 ne nf nch e n, free p.1 p.2 nch e n, ne, nf, d⟩
/-- .. where the frame's own object is kept too -/
theorem Inv.un {t' : Nat} (I : Inv X pins σ H s) (u : Un X.fs [] H H' s.heap h') (hok : HOk X.prog X.w H' h') : Inv X pins σ H' { s with heap := h', toks := t' } := by
  obtain ⟨m, ⟨o, es, ep, ho, r⟩, _⟩ := id I.loc
  obtain ⟨sl, hL⟩ := u.any ho I.free (by simp)
  exact I.step (g' := s.gens) (d' := s.drawn) (ch := []) (fun _ z => nomatch z) (fun b o _ hb _ e n => u.keep b o e n hb (by simp)) (fun b o _ hb _ e n => u.slot b o e n hb (by simp)) (fun b o _ e n => u.free b o e n (by simp)) (fun b o _ e => u.there b o e (by simp)) u.tups u.frzs u.tbls (fun m' hm => by
    obtain ⟨o', es', ep', ho', r'⟩ := hm
    rw [ho] at ho'; cases ho'
    exact ⟨_, es', ep', hL, r'⟩) hok I.bare
/-- behind a call (or a comprehension's block): the slots of this frame may have changed too, the records at ch may have turned -/
theorem Inv.call {g' : Array GenState} {t' : Nat} {d' : Drawn} {ch : List Addr} (I : Inv X pins σ H s) (u : Un (frs X.stack) ch H H' s.heap h') (hok : HOk X.prog X.w H' h') (hg : AllBare g')
    (hch : ∀ b ∈ ch, (b ∈ X.ex ∨ X.s_0.heap.objs.size ≤ b) ∧ b ≠ X.env.locals ∧ (∀ x c, X.env.cells.lookup x = some c → c ≠ b) ∧ ∀ p ∈ X.pn ++ pins, p.1 ≠ b) :
    Inv X pins σ H' { s with heap := h', gens := g', drawn := d', toks := t' } := by
  obtain ⟨m, ⟨o, es, ep, ho, r⟩, _⟩ := id I.loc
  obtain ⟨sl, hL⟩ := u.any ho I.free fun z => (hch _ z).2.1 rfl
  exact I.step (ch := ch) hch (fun b o hL hb hc e n => u.keep b o e n (fun z => (List.mem_cons.mp (I.stkSub b z)).elim hL hb) hc) (fun b o _ _ hc e n => u.any e n hc) (fun b o hc e n => u.free b o e n hc) (fun b o hc e => u.there b o e hc) u.tups u.frzs u.tbls (fun m' hm => by
    obtain ⟨o', es', ep', ho', r'⟩ := hm
    rw [ho] at ho'; cases ho'
    exact ⟨_, es', ep', hL, r'⟩) hok hg
/-- an untracked record of ours (an iterator) has turned -/
theorem Inv.turned {t' : Nat} {it : Addr} (I : Inv X pins σ H s) (k : ∀ b o, b ≠ it → s.heap.get? b = some o → h'.get? b = some o) (hn : H it = none) (hL : it ≠ X.env.locals)
    (h1 : it ∈ X.ex ∨ X.s_0.heap.objs.size ≤ it) (h2 : ∀ x c, X.env.cells.lookup x = some c → c ≠ it) (h3 : ∀ p ∈ X.pn ++ pins, p.1 ≠ it) : Inv X pins σ H { s with heap := h', toks := t' } := by
  have nit : ∀ b u, H b = some u → b ≠ it := fun b u e z => by rw [z, hn] at e; cases e
  refine I.step (g' := s.gens) (d' := s.drawn) (ch := [it]) (fun b hb => ?_) (fun b o _ _ hc e _ => k b o (fun z => hc (by simp [z])) e) (fun b o _ _ hc e _ => ⟨o.slots, k b o (fun z => hc (by simp [z])) e⟩) (fun _ _ _ _ n => n)
    (fun b o hc e => ⟨o, k b o (fun z => hc (by simp [z])) e⟩) (fun _ _ e => e) (fun _ _ _ e => e) (fun b ps e => ⟨#[], by rw [e]; simp⟩) (fun m hm => ?_) (fun b u e => ?_) I.bare
  · have e : b = it := by simpa using hb
    subst e
    exact ⟨h1, hL, h2, h3⟩
  · obtain ⟨o, es, ep, ho, r⟩ := hm
    exact ⟨o, es, ep, k _ o (Ne.symm hL) ho, r⟩
  · refine (I.hok b u e).stay (fun c v hc q => k c v ?_ q) (fun _ q => q) fun _ _ q => q
    rcases hc with z | z
    · rw [z]; exact nit b u e
    · exact nit c _ z
theorem Inv.tok (I : Inv X pins σ H s) (t : Nat) : Inv X pins σ H { s with toks := t } := I.un (h' := s.heap) (t' := t) Un.refl I.hok
/-- all objects kept -/
theorem Inv.kept {t' : Nat} (I : Inv X pins σ H s) (k : ∀ b u, s.heap.get? b = some u → h'.get? b = some u) : Inv X pins σ H { s with heap := h', toks := t' } := I.un (Un.kept k) (I.hok.kept k)
/-- a new object laid and tracked -/
theorem Inv.laid {a : Addr} {o : HO} {t' : Nat} (I : Inv X pins σ H s) (k : ∀ b u, s.heap.get? b = some u → h'.get? b = some u) (hp : s.heap.objs.size ≤ a) (new : ObjOk X.prog X.w (upd H a o) h' a o) :
    Inv X pins σ (upd H a o) { s with heap := h', toks := t' } := I.un (Un.laid k hp (I.hok.fresh hp)) (I.hok.laid k hp new)
/-- an object written -/
theorem Inv.write {x e : Addr} {o : HO} {t' : Nat} (I : Inv X pins σ H s) (mu : Mut (H x)) (he : e = x ∨ H e = some (.own x)) (k : ∀ b u, b ≠ e → s.heap.get? b = some u → h'.get? b = some u) (heo : ∃ u, h'.get? e = some u)
    (new : ObjOk X.prog X.w (upd H x o) h' x o) : Inv X pins σ (upd H x o) { s with heap := h', toks := t' } := I.un (Un.write mu he k heo) (I.hok.write mu he k heo new)
/-- forgetting slots, pins -/
theorem Inv.weak {σ' : List (Option V)} (I : Inv X pins σ H s) (hl : σ'.length = σ.length) (w : ∀ (i : Nat) v, σ'[i]? = some (some v) → σ[i]? = some (some v)) : Inv X pins σ' H s :=
  ⟨I.ok, I.os, I.bare, I.base, let ⟨m, hn, hl'⟩ := I.loc; ⟨m, hn, fun i x v e1 e2 e3 => hl' i x v e1 (w i v e2) e3⟩, I.cell, I.free, I.freeC, I.pin, I.hok, hl.trans I.len⟩
theorem Inv.pins_of {pins' : List (Addr × Obj)} (I : Inv X pins σ H s) (h : ∀ p ∈ pins', s.heap.get? p.1 = some p.2 ∧ H p.1 = none ∧ p.1 ≠ X.env.locals ∧ p.1 ∉ X.fs ∧ ∀ v, p.2.data ≠ .cell v) : Inv X pins' σ H s :=
  ⟨I.ok, I.os, I.bare, I.base, I.loc, I.cell, I.free, I.freeC, fun p hp => (List.mem_append.mp hp).elim (fun z => I.pin p (List.mem_append_left _ z)) (h p), I.hok, I.len⟩

theorem nodup_ix {N : List Str} (hN : N.Nodup) {i j : Nat} {x : Str} (a : N[i]? = some x) (b : N[j]? = some x) : i = j := by
  obtain ⟨h1, e1⟩ := List.getElem?_eq_some_iff.mp a
  obtain ⟨h2, e2⟩ := List.getElem?_eq_some_iff.mp b
  exact (List.getElem_inj hN).mp (e1.trans e2.symm)

/-- a name is stored; what changed -/
theorem store_ok2 {M : Model} {A : Around} {E : Value → Shared → Prop} {i : Nat} {x : Str} {v : V} {u : Value} {Q : Unit → Shared → Prop} (I : Inv X pins σ H s) (hN : X.N.Nodup) (hi : X.N[i]? = some x) (hx : Loc X.env.scope x) (r : RelV v u)
    (h : ∀ s', Inv X pins (σ.set i (some v)) H s' → (∃ a, Heap.SameBut a s.heap s'.heap ∧ (a = X.env.locals ∨ X.env.cells.lookup x = some a)) → Q () s') (hf : X.fn x = true ∨ X.env.scope.names.lookup x = some .local := by first | exact .inl rfl | exact .inr rfl | assumption) : wpAny M A (storeName X.env x u) Q E s := by
  obtain ⟨m, hn, hl⟩ := id I.loc
  have hcls : (X.env.scope.kind == .class || (X.env.scope.kind == .module && X.env.locals != X.env.globals)) = false := by rw [I.ok.kind]; rfl
  have hiσ : i < σ.length := by rw [I.len]; exact (List.getElem?_eq_some_iff.mp hi).1
  have cne := I.cne
  have tracked : ∀ {a : Addr} {h' : Heap}, (∃ o, s.heap.get? a = some o ∧ H a = none) → Heap.SameBut a s.heap h' → HOk X.prog X.w H h' := fun {a h'} ha hs b ob e => by
    obtain ⟨_, _, hfree⟩ := ha
    refine (I.hok b ob e).stay (fun c w' hc q => (hs.2 c ?_).trans q) (fun _ q => q) fun _ _ q => q
    rintro rfl
    rcases hc with rfl | hc
    · rw [hfree] at e; cases e
    · rw [hfree] at hc; cases hc
  rcases hx with hk | hk
  · refine wpAny_storeName_local hk hn (fun h' hn' hs => ?_) hcls
    obtain ⟨oL, _, _, hoL, _⟩ := id hn
    refine h _ ⟨I.ok, I.os, I.bare, ⟨fun b o e n hb hx => ?_, fun b o e n hb hx => ?_, I.base.free, fun b o e hx => ?_, I.base.tups, I.base.frzs, I.base.tbls⟩, ⟨_, hn', fun j y v' e1 e2 e3 => ?_⟩, fun y c e => ?_, I.free, I.freeC, fun p hp => ?_, tracked ⟨oL, hoL, I.free⟩ hs, by simpa using I.len⟩ ⟨_, hs, .inl rfl⟩
    · exact (hs.2 b (Nat.ne_of_lt (Nat.lt_of_lt_of_le (Heap.lt_size e) I.ok.above))).trans (I.base.keep b o e n hb hx)
    · obtain ⟨sl, e1⟩ := I.base.slot b o e n hb hx
      exact ⟨sl, (hs.2 b (Nat.ne_of_lt (Nat.lt_of_lt_of_le (Heap.lt_size e) I.ok.above))).trans e1⟩
    · obtain ⟨o', e1⟩ := I.base.there b o e hx
      exact ⟨o', (hs.2 b (Nat.ne_of_lt (Nat.lt_of_lt_of_le (Heap.lt_size e) I.ok.above))).trans e1⟩
    · by_cases hj : j = i
      · subst hj
        rw [hi] at e1; cases e1
        rw [List.getElem?_set_self hiσ] at e2
        cases e2
        exact ⟨u, r, .inl ⟨hk, by simp⟩⟩
      · rw [List.getElem?_set_ne (Ne.symm hj)] at e2
        obtain ⟨u', r', q⟩ := hl j y v' e1 e2 e3
        refine ⟨u', r', ?_⟩
        rcases q with ⟨k, e⟩ | ⟨k, c, e, z⟩
        · refine .inl ⟨k, ?_⟩
          have : y ≠ x := fun e => hj (nodup_ix hN e1 (e ▸ hi))
          simp [this, e]
        · exact .inr ⟨k, c, e, z.sameBut hs (cne y c e)⟩
    · obtain ⟨w', z⟩ := I.cell y c e
      exact ⟨w', z.sameBut hs (cne y c e)⟩
    · obtain ⟨e, n, ne, nf, d⟩ := I.pin p hp
      exact ⟨(hs.2 p.1 ne).trans e, n, ne, nf, d⟩
  · have hfn : X.fn x = true := by
      rcases hf with z | z
      · exact z
      · rw [z] at hk; cases hk
    obtain ⟨c, hc⟩ := I.ok.has x (.inl hk)
    obtain ⟨w', z⟩ := I.cell x c hc
    refine wpAny_storeName_cell I.ok.kind hk hc z (fun h' hc' hs => ?_)
    obtain ⟨oc, hoc, hocd⟩ := id z
    refine h { s with heap := h' } ⟨I.ok, I.os, I.bare, ⟨fun b o e n hb hx => ?_, fun b o e n hb hx => ?_, I.base.free, fun b o e hx => ?_, I.base.tups, I.base.frzs, I.base.tbls⟩, ⟨m, hn.sameBut hs (Ne.symm (cne x c hc)), fun j y v' e1 e2 e3 => ?_⟩, fun y c' e => ?_, I.free, I.freeC, fun p hp => ?_, tracked ⟨oc, hoc, I.freeC x c hc⟩ hs, by simpa using I.len⟩ ⟨c, hs, .inr hc⟩
    · exact (hs.2 b (Nat.ne_of_lt (Nat.lt_of_lt_of_le (Heap.lt_size e) (I.ok.cab x c hfn hc)))).trans (I.base.keep b o e n hb hx)
    · obtain ⟨sl, e1⟩ := I.base.slot b o e n hb hx
      exact ⟨sl, (hs.2 b (Nat.ne_of_lt (Nat.lt_of_lt_of_le (Heap.lt_size e) (I.ok.cab x c hfn hc)))).trans e1⟩
    · obtain ⟨o', e1⟩ := I.base.there b o e hx
      exact ⟨o', (hs.2 b (Nat.ne_of_lt (Nat.lt_of_lt_of_le (Heap.lt_size e) (I.ok.cab x c hfn hc)))).trans e1⟩
    · by_cases hj : j = i
      · subst hj
        rw [hi] at e1; cases e1
        rw [List.getElem?_set_self hiσ] at e2
        cases e2
        exact ⟨u, r, .inr ⟨.inl hk, c, hc, hc'⟩⟩
      · rw [List.getElem?_set_ne (Ne.symm hj)] at e2
        obtain ⟨u', r', q⟩ := hl j y v' e1 e2 e3
        refine ⟨u', r', ?_⟩
        rcases q with q | ⟨k, c', e, z'⟩
        · exact .inl q
        · refine .inr ⟨k, c', e, z'.sameBut hs ?_⟩
          rintro rfl
          exact hj (nodup_ix hN e1 (I.ok.inj _ _ _ e hc ▸ hi))
    · by_cases hcc : c' = c
      · subst hcc; exact ⟨_, hc'⟩
      · obtain ⟨w2, z2⟩ := I.cell y c' e
        exact ⟨w2, z2.sameBut hs hcc⟩
    · obtain ⟨e, n, ne, nf, d⟩ := I.pin p hp
      refine ⟨(hs.2 p.1 ?_).trans e, n, ne, nf, d⟩
      intro q
      rw [q, hoc] at e
      have q' : oc = p.2 := Option.some.inj e
      exact d w' (by rw [← q']; exact hocd)
theorem store_ok {M : Model} {A : Around} {E : Value → Shared → Prop} {i : Nat} {x : Str} {v : V} {u : Value} {Q : Unit → Shared → Prop} (I : Inv X pins σ H s) (hN : X.N.Nodup) (hi : X.N[i]? = some x) (hx : Loc X.env.scope x) (r : RelV v u)
    (h : ∀ s', Inv X pins (σ.set i (some v)) H s' → Q () s') (hf : X.fn x = true ∨ X.env.scope.names.lookup x = some .local := by first | exact .inl rfl | exact .inr rfl | assumption) : wpAny M A (storeName X.env x u) Q E s :=
  store_ok2 I hN hi hx r (fun s' I' _ => h s' I') hf
/-- behind a call or a block, the state as it is -/
theorem Inv.call' {s' : Shared} {ch : List Addr} (I : Inv X pins σ H s) (ho : s'.os = s.os) (u : Un (frs X.stack) ch H H' s.heap s'.heap) (hok : HOk X.prog X.w H' s'.heap) (hg : AllBare s'.gens)
    (hch : ∀ b ∈ ch, (b ∈ X.ex ∨ X.s_0.heap.objs.size ≤ b) ∧ b ≠ X.env.locals ∧ (∀ x c, X.env.cells.lookup x = some c → c ≠ b) ∧ ∀ p ∈ X.pn ++ pins, p.1 ≠ b) : Inv X pins σ H' s' := by
  obtain ⟨h', g', d', t', o'⟩ := s'
  have e : o' = s.os := ho
  subst e
  exact I.call (g' := g') (t' := t') (d' := d') u hok hg hch
end

/-! ### the judgements -/
/-- an exception: its class, its own dict's address (where it has one), the abstract heap behind it -/
abbrev XK := Value → Option Addr → Hp → Prop
abbrev St := List (Option V)
abbrev VK := V → Hp → Prop
/-- an expression's reading; a test's; an argument list's -/
abbrev TE := St → Hp → VK → Prop
abbrev TT := St → Hp → (Bool → Hp → Prop) → Prop
abbrev TA := St → Hp → (List V → Hp → Prop) → Prop
/-- what is wanted behind a statement -/
structure Ends where
  nx : St → Hp → Prop
  rt : VK
  bk : St → Hp → Prop := fun _ _ => False
  ct : St → Hp → Prop := fun _ _ => False
abbrev TS := Ends → St → Hp → Prop

inductive EP (X : Cx) (pins : List (Addr × Obj)) (σ : St) (Q : VK) (u : Value) (s' : Shared) : Prop
  | mk (v : V) (H' : Hp) : Inv X pins σ H' s' → RelV v u → Q v H' → EP X pins σ Q u s'
inductive TP (X : Cx) (pins : List (Addr × Obj)) (σ : St) (Q : Bool → Hp → Prop) (b : Bool) (s' : Shared) : Prop
  | mk (H' : Hp) : Inv X pins σ H' s' → Q b H' → TP X pins σ Q b s'
inductive AP (X : Cx) (pins : List (Addr × Obj)) (σ : St) (Q : List V → Hp → Prop) (us : List Value) (s' : Shared) : Prop
  | mk (vs : List V) (H' : Hp) : Inv X pins σ H' s' → Vals vs us → Q vs H' → AP X pins σ Q us s'
def SP (X : Cx) (pins : List (Addr × Obj)) (D : Ends) (f : Flow) (s' : Shared) : Prop :=
  match f with
  | .next => ∃ σ' H', Inv X pins σ' H' s' ∧ D.nx σ' H'
  | .brk => ∃ σ' H', Inv X pins σ' H' s' ∧ D.bk σ' H'
  | .cont => ∃ σ' H', Inv X pins σ' H' s' ∧ D.ct σ' H'
  | .ret u => ∃ v σ' H', Inv X pins σ' H' s' ∧ RelV v u ∧ D.rt v H'

def PE (X : Cx) (e : Expr) (t : TE) : Prop :=
  ∀ (pins : List (Addr × Obj)) (s : Shared) (σ : St) (H : Hp) (Q : VK), Inv X pins σ H s → t σ H Q → wpAny (model X.prog X.w) X.A (eval e X.env) (EP X pins σ Q) X.xe s
def PT (X : Cx) (e : Expr) (t : TT) : Prop :=
  ∀ (pins : List (Addr × Obj)) (s : Shared) (σ : St) (H : Hp) (Q : Bool → Hp → Prop), Inv X pins σ H s → t σ H Q → wpAny (model X.prog X.w) X.A (isTrue e X.env (eval e X.env)) (TP X pins σ Q) X.xe s
/-- a test whatever its 'whole' is (and, or) -/
def PW (X : Cx) (e : Expr) (t : TT) : Prop :=
  ∀ (whole : Sem Value) (pins : List (Addr × Obj)) (s : Shared) (σ : St) (H : Hp) (Q : Bool → Hp → Prop), Inv X pins σ H s → t σ H Q → wpAny (model X.prog X.w) X.A (isTrue e X.env whole) (TP X pins σ Q) X.xe s
theorem PW.pt {X : Cx} {e : Expr} {t : TT} (h : PW X e t) : PT X e t := h _
/-- an argument list (no star), from the left -/
def PA (X : Cx) (es : List Expr) (t : TA) : Prop :=
  ∀ (pos : Pos) (pins : List (Addr × Obj)) (s : Shared) (σ : St) (H : Hp) (Q : List V → Hp → Prop), Inv X pins σ H s → t σ H Q → wpAny (model X.prog X.w) X.A (spliced (backTo pos (starEach es X.env))) (AP X pins σ Q) X.xe s
def PS (X : Cx) (st : Stmt) (t : TS) : Prop :=
  ∀ (pins : List (Addr × Obj)) (s : Shared) (σ : St) (H : Hp) (D : Ends), Inv X pins σ H s → t D σ H → wpAny (model X.prog X.w) X.A (exec st X.env) (SP X pins D) X.xe s
def PSs (X : Cx) (st : List Stmt) (t : TS) : Prop :=
  ∀ (pins : List (Addr × Obj)) (s : Shared) (σ : St) (H : Hp) (D : Ends), Inv X pins σ H s → t D σ H → wpAny (model X.prog X.w) X.A (execs st X.env) (SP X pins D) X.xe s
/-- weaken the end -/
theorem thn {α : Type} {t : Sem α} {Q Q' : α → Shared → Prop} {M : Model} {A : Around} {E : Value → Shared → Prop} {s : Shared} (h : wpAny M A t Q E s) (hQ : ∀ a s, Q a s → Q' a s) : wpAny M A t Q' E s := wpAny_mono h hQ fun _ _ x => x
end L2

namespace L2
open PySem PySem.Spec PyProof.Rows
section
variable {X : Cx}

/-- two expressions in a row -/
theorem bin {a b : Expr} {ta tb : TE} (ha : PE X a ta) (hb : PE X b tb) {pins : List (Addr × Obj)} {s : Shared} {σ : St} {H : Hp} {R : V → V → Hp → Prop} (I : Inv X pins σ H s) (h : ta σ H fun x H1 => tb σ H1 fun y H2 => R x y H2)
    {α : Type} {Q : α → Shared → Prop} {f : Value → Value → Sem α}
    (hf : ∀ v u s2 x y H2, Inv X pins σ H2 s2 → RelV x v → RelV y u → R x y H2 → wpAny (model X.prog X.w) X.A (f v u) Q X.xe s2) :
    wpAny (model X.prog X.w) X.A (eval a X.env) (fun v s₁ => wpAny (model X.prog X.w) X.A (eval b X.env) (fun u s₂ => wpAny (model X.prog X.w) X.A (f v u) Q X.xe s₂) X.xe s₁) X.xe s := by
  refine thn (ha pins s σ H _ I h) fun v s1 ⟨x, H1, I1, r1, q1⟩ => ?_
  refine thn (hb pins s1 σ H1 _ I1 q1) fun u s2 ⟨y, H2, I2, r2, q2⟩ => ?_
  exact hf v u s2 x y H2 I2 r1 r2 q2

/-! ### names and constants -/
inductive tVar (i : Nat) (σ : St) (H : Hp) (Q : VK) : Prop
  | mk v : (σ[i]? = some (some v)) → (Q v H) → tVar i σ H Q
def tC (v : V) : TE := fun _ H Q => Q v H
theorem pe_var {i : Nat} {x : Str} {pos : Pos} (hN : X.N[i]? = some x) (hv : Vis X.env.scope x) (hd : (x == ("__debug__" : Str)) = false := by decide) (hcd : (x == ("__classdict__" : Str)) = false := by decide) : PE X (.Name x pos) (tVar i) := by
  intro pins s σ H Q I h
  obtain ⟨v, e, h⟩ := h
  obtain ⟨m, hn, hl⟩ := I.loc
  obtain ⟨u, r, l⟩ := hl i x v hN e hv
  have fin : EP X pins σ Q u s := ⟨v, H, I, r, h⟩
  rcases l with ⟨hk, hm⟩ | ⟨hk, c, hc, hcell⟩
  · exact wpAny_Name (wpAny_loadName_local I.ok.kind hk hn hm fin) hd
  · rcases hk with hk | hk
    · exact wpAny_Name (wpAny_loadName_cell I.ok.kind hk hc hcell fin) hd
    · exact wpAny_Name (wpAny_loadName_free I.ok.kind hk hc hcell fin hcd) hd
theorem pe_int {i j pos} : PE X (.Constant (.int i) j pos) (tC (.int i)) := fun _ _ _ H _ I h => wpAny_Constant_int ⟨.int i, H, I.tok _, ⟨_, rfl⟩, h⟩
theorem pe_bl {b j pos} : PE X (.Constant (.bool b) j pos) (tC (.bl b)) := fun _ _ _ H _ I h => Constant_bool ⟨.bl b, H, I, rfl, h⟩

/-- a global name of the def -/
def Gl (X : Cx) (x : Str) : Prop := X.env.kindOf x = some .globalImplicit
theorem ld_glob {E : Value → Shared → Prop} {pins : List (Addr × Obj)} {s : Shared} {σ : St} {H : Hp} {x : Str} {u : Value} {pos : Pos} {Q : Value → Shared → Prop} (I : Inv X pins σ H s) (hg : Gl X x) (hm : X.mg x = some u) (h : Q u s)
    (hd : (x == ("__debug__" : Str)) = false := by decide) : wpAny (model X.prog X.w) X.A (eval (.Name x pos) X.env) Q E s :=
  Calls.Name_function_global I.ok.kind hg (Calls.loadGlobal_global (by rw [I.ok.glob]; exact I.mod.glob.keeps I.bk) hm h) hd
theorem ld_blt {E : Value → Shared → Prop} {pins : List (Addr × Obj)} {s : Shared} {σ : St} {H : Hp} {x : Str} {u : Value} {pos : Pos} {Q : Value → Shared → Prop} (I : Inv X pins σ H s) (hg : Gl X x) (hm : X.mg x = none) (hv : bootBuiltins x = some u) (h : Q u s)
    (hn : x ≠ "__name__" := by decide) (hd : (x == ("__debug__" : Str)) = false := by decide) : wpAny (model X.prog X.w) X.A (eval (.Name x pos) X.env) Q E s := by
  obtain ⟨mb, h1, h2⟩ := I.mod.blt
  exact Calls.Name_function_global I.ok.kind hg (Calls.loadGlobal_builtin (by rw [I.ok.glob]; exact I.mod.glob.keeps I.bk) hm (by rw [I.ok.blt]; exact h1.keeps I.bk) ((h2 x hn).trans hv) h) hd
/-- a module's constant, a class, a function, as a value -/
theorem pe_glob {x : Str} {v : V} {u : Value} {pos : Pos} (hg : Gl X x) (hm : X.mg x = some u) (r : RelV v u) (hd : (x == ("__debug__" : Str)) = false := by decide) : PE X (.Name x pos) (tC v) :=
  fun _ _ _ H _ I h => ld_glob I hg hm ⟨v, H, I, r, h⟩ hd

/-! ### arithmetic -/
variable {a b : Expr} {ta tb : TE} {pos : Pos}

/-! ### comparisons -/

/-! ### and, or, not -/
variable {tA tB' : TT} {rest : List Expr}
def tAnd (t u : TT) : TT := fun σ H Q => t σ H fun c H1 => if c = true then u σ H1 Q else Q false H1
def tOr (t u : TT) : TT := fun σ H Q => t σ H fun c H1 => if c = true then Q true H1 else u σ H1 Q
def tNot (t : TT) : TT := fun σ H Q => t σ H fun c H1 => Q (!c) H1
theorem pw_and1 (ha : PT X a tA) : PW X (.BoolOp .And [a] pos) tA := by
  intro wh pins s σ H Q I h
  refine isTrue_and (thn (ha pins s σ H Q I h) fun c s1 e => ?_)
  cases c with
  | true => exact isTrue_and_nil e
  | false => exact e
theorem pw_or1 (ha : PT X a tA) : PW X (.BoolOp .Or [a] pos) tA := by
  intro wh pins s σ H Q I h
  refine isTrue_or (thn (ha pins s σ H Q I h) fun c s1 e => ?_)
  cases c with
  | false => exact isTrue_or_nil e
  | true => exact e
theorem pw_and (ha : PT X a tA) (hb : PW X (.BoolOp .And (b :: rest) pos) tB') : PW X (.BoolOp .And (a :: b :: rest) pos) (tAnd tA tB') := by
  intro wh pins s σ H Q I h
  refine isTrue_and (thn (ha pins s σ H _ I h) fun c s1 ⟨H1, I1, q1⟩ => ?_)
  cases c with
  | true => exact hb wh pins s1 σ H1 Q I1 q1
  | false => exact ⟨H1, I1, q1⟩
theorem pw_or (ha : PT X a tA) (hb : PW X (.BoolOp .Or (b :: rest) pos) tB') : PW X (.BoolOp .Or (a :: b :: rest) pos) (tOr tA tB') := by
  intro wh pins s σ H Q I h
  refine isTrue_or (thn (ha pins s σ H _ I h) fun c s1 ⟨H1, I1, q1⟩ => ?_)
  cases c with
  | true => exact ⟨H1, I1, q1⟩
  | false => exact hb wh pins s1 σ H1 Q I1 q1
theorem pt_not (ha : PT X a tA) : PT X (.UnaryOp .Not a pos) (tNot tA) := by
  intro pins s σ H Q I h
  exact isTrue_not (thn (ha pins s σ H (fun c H1 => Q (!c) H1) I h) fun c s' z => by obtain ⟨H', I', q⟩ := z; exact ⟨H', I', q⟩)
/-- .. as values (bools) -/
def tAndV (ta tb : TE) : TE := fun σ H Q => ta σ H fun x H1 => ∃ c, x = .bl c ∧ if c = true then tb σ H1 Q else Q (.bl false) H1
theorem pe_one {op} {t : TE} (h : PE X a t) : PE X (.BoolOp op [a] pos) t := fun pins s σ H Q I hw => BoolOp_one (h pins s σ H Q I hw)
theorem pe_and (ha : PE X a ta) (hb : PE X (.BoolOp .And (b :: rest) pos) tb) : PE X (.BoolOp .And (a :: b :: rest) pos) (tAndV ta tb) := by
  intro pins s σ H Q I h
  refine BoolOp_and (thn (ha pins s σ H _ I h) fun v s1 ⟨x, H1, I1, r1, q1⟩ => ?_)
  obtain ⟨c, rfl, q1⟩ := q1
  cases r1
  refine wpAny_truthy_bool ?_
  cases c with
  | true => exact hb pins s1 σ H1 Q I1 q1
  | false => exact ⟨.bl false, H1, I1, rfl, q1⟩
/-- a if t else b -/
def tIf (t : TT) (ta tb : TE) : TE := fun σ H Q => t σ H fun c H1 => if c = true then ta σ H1 Q else tb σ H1 Q
theorem pe_ifExp {c : Expr} (hc : PT X c tA) (ha : PE X a ta) (hb : PE X b tb) : PE X (.IfExp c a b pos) (tIf tA ta tb) := by
  intro pins s σ H Q I h
  refine wpAny_IfExp (thn (hc pins s σ H _ I h) fun d s1 ⟨H1, I1, q1⟩ => ?_)
  cases d with
  | true => exact ha pins s1 σ H1 Q I1 q1
  | false => exact hb pins s1 σ H1 Q I1 q1
end
end L2

namespace L2
open PySem PySem.Spec PyProof.Rows

/-! ### a list, a tuple that is read: tracked, frozen, or an object of the module -/
def SqL (K : PySem.W.Frag) (H : Hp) (a : Addr) (xs : List V) : Prop :=
  Rd H a (.lst xs) ∨
    ∃ (o : Obj) (its : Array Value) (n : Nat), K.lookup a = some o ∧ o.cls = .type "list" ∧ o.dict = none ∧ o.data = .seq its n ∧ its.size ≤ sizeLine ∧ Vals xs its.toList
def SqT (K : PySem.W.Frag) (H : Hp) (a : Addr) (xs : List V) : Prop :=
  Rd H a (.tup xs) ∨
    ∃ (o : Obj) (its : Array Value) (n : Nat), K.lookup a = some o ∧ o.cls = .type "tuple" ∧ o.data = .seq its n ∧ its.size ≤ sizeLine ∧ Vals xs its.toList
inductive rLen (K : PySem.W.Frag) (xs : List V) (H : Hp) (Q : VK) : Prop
  | mk (p : Addr) (ys : List V) : xs = [.ref p] → (SqL K H p ys ∨ SqT K H p ys) → Q (.int ys.length) H → rLen K xs H Q
def absV : Value → Option V
  | .none => some .non
  | .bool b => some (.bl b)
  | .int i _ => some (.int i)
  | .str x _ => some (.str x)
  | .bytes b _ => some (.byt b)
  | .float b _ => some (.flt b)
  | .ref a => some (.ref a)
  | .type n => some (.ty n)
  | _ => none
theorem RelV.abs {x : V} {u : Value} (r : RelV x u) : absV u = some x := by
  cases x with
  | non => cases r; rfl
  | bl _ => cases r; rfl
  | int _ => obtain ⟨t, rfl⟩ := r; rfl
  | str _ => obtain ⟨t, rfl⟩ := r; rfl
  | byt _ => obtain ⟨t, rfl⟩ := r; rfl
  | flt _ => obtain ⟨t, rfl⟩ := r; rfl
  | ref _ => cases r; rfl
  | ty _ => cases r; rfl
theorem RelV.inj {x y : V} {u : Value} (r : RelV x u) (q : RelV y u) : x = y := Option.some.inj (r.abs.symm.trans q.abs)
theorem Vals.inj : ∀ {xs ys : List V} {us : List Value}, Vals xs us → Vals ys us → xs = ys
  | _, _, _, .nil, .nil => rfl
  | _, _, _, .cons r t, .cons r' t' => by rw [r.inj r', Vals.inj t t']
section
variable {X : Cx} {pins : List (Addr × Obj)} {σ : St} {H : Hp} {s : Shared} {a : Addr} {xs ys : List V}
theorem SqL.of {K : PySem.W.Frag} (h : H a = some (.lst xs)) : SqL K H a xs := .inl (.inl h)
theorem SqT.of {K : PySem.W.Frag} (h : H a = some (.tup xs)) : SqT K H a xs := .inl (.inl h)
theorem Inv.list (I : Inv X pins σ H s) (h : SqL X.K H a xs) : ∃ its : List Value, Vals xs its ∧ PlainL s.heap a its.toArray ∧ xs.length ≤ sizeLine := by
  rcases h with h | ⟨o, its, n, hk, hc, hd, hs, hz, r⟩
  · obtain ⟨z, its, n, r, e⟩ := h.ok I.hok
    exact ⟨its, r, ⟨_, n, e, rfl, rfl, rfl⟩, z⟩
  · refine ⟨its.toList, r, ⟨o, n, I.kIn a o hk, hc, hd, by simpa using hs⟩, ?_⟩
    have e := r.length
    simp only [Array.length_toList] at e
    omega
theorem Inv.tuple (I : Inv X pins σ H s) (h : SqT X.K H a xs) : ∃ its : List Value, Vals xs its ∧ IsTup s.heap a its.toArray ∧ xs.length ≤ sizeLine := by
  rcases h with h | ⟨o, its, n, hk, hc, hs, hz, r⟩
  · obtain ⟨z, its, r, p⟩ := h.ok I.hok
    exact ⟨its, r, p, z⟩
  · refine ⟨its.toList, r, ⟨o, I.kIn a o hk, hc, n, by simpa using hs⟩, ?_⟩
    have e := r.length
    simp only [Array.length_toList] at e
    omega
theorem Inv.list_inj (I : Inv X pins σ H s) (h : SqL X.K H a xs) (h' : SqL X.K H a ys) : xs = ys := by
  obtain ⟨its, r, ⟨o, n, e, _, _, d⟩, _⟩ := I.list h
  obtain ⟨its', r', ⟨o', n', e', _, _, d'⟩, _⟩ := I.list h'
  rw [e] at e'; cases e'
  rw [d] at d'
  injection d' with d1 _
  have : its = its' := by simpa using congrArg Array.toList d1
  subst this
  exact r.inj r'
end

/-! ### another wish about exceptions -/
abbrev Cx.wish (X : Cx) (E : Value → Shared → Prop) : Cx := { X with xe := E }
/-- no exception leaves -/
abbrev Cx.nox (X : Cx) : Cx := X.wish fun _ _ => False
theorem Cx.Ok.wish {X : Cx} (ok : X.Ok) (E : Value → Shared → Prop) : (X.wish E).Ok :=
  ⟨ok.mod, ok.kind, ok.glob, ok.blt, ok.above, ok.inj, ok.has, ok.cab, ok.hd, ok.frames, ok.stk, ok.exf, ok.bs, ok.bsz, ok.noex, ok.exfs, ok.funs, ok.frf⟩
theorem Cx.Ok.unwish {X : Cx} {E : Value → Shared → Prop} (ok : (X.wish E).Ok) : X.Ok :=
  ⟨ok.mod, ok.kind, ok.glob, ok.blt, ok.above, ok.inj, ok.has, ok.cab, ok.hd, ok.frames, ok.stk, ok.exf, ok.bs, ok.bsz, ok.noex, ok.exfs, ok.funs, ok.frf⟩
section
variable {X : Cx} {pins : List (Addr × Obj)} {σ : St} {H : Hp} {s : Shared} {E : Value → Shared → Prop}
theorem Inv.wish (I : Inv X pins σ H s) (E : Value → Shared → Prop) : Inv (X.wish E) pins σ H s := ⟨I.ok.wish E, I.os, I.bare, I.base, I.loc, I.cell, I.free, I.freeC, I.pin, I.hok, I.len⟩
theorem Inv.unwish (I : Inv (X.wish E) pins σ H s) : Inv X pins σ H s := ⟨I.ok.unwish, I.os, I.bare, I.base, I.loc, I.cell, I.free, I.freeC, I.pin, I.hok, I.len⟩
theorem SP.unwish {D : Ends} {f : Flow} {s' : Shared} (h : SP (X.wish E) pins D f s') : SP X pins D f s' := by
  cases f with
  | next => obtain ⟨σ', H', I, q⟩ := h; exact ⟨σ', H', I.unwish, q⟩
  | brk => obtain ⟨σ', H', I, q⟩ := h; exact ⟨σ', H', I.unwish, q⟩
  | cont => obtain ⟨σ', H', I, q⟩ := h; exact ⟨σ', H', I.unwish, q⟩
  | ret u => obtain ⟨v, σ', H', I, r, q⟩ := h; exact ⟨v, σ', H', I.unwish, r, q⟩
theorem PSs.nox {st : List Stmt} {t : TS} (h : PSs X.nox st t) : PSs X st t := fun pins s σ H D I hw =>
  wpAny_mono (h pins s σ H D (I.wish _) hw) (fun _ _ q => q.unwish) fun _ _ z => False.elim z
end

/-! ### blocks and small statements -/
section
variable {X : Cx} {st : Stmt} {rest : List Stmt} {t u : TS} {e : Expr} {te : TE} {pos : Pos}
def tNext : TS := fun D σ H => D.nx σ H
def tSeq (t u : TS) : TS := fun D σ H => t { D with nx := u D } σ H
theorem pss_nil : PSs X [] tNext := fun _ _ σ H _ I h => wpAny_execs_nil ⟨σ, H, I, h⟩
theorem pss_cons (h1 : PS X st t) (h2 : PSs X rest u) : PSs X (st :: rest) (tSeq t u) := by
  intro pins s σ H D I h
  refine wpAny_execs_cons (thn (h1 pins s σ H { D with nx := u D } I h) fun f s1 q => ?_)
  cases f with
  | next =>
    obtain ⟨σ', H', I', q⟩ := q
    exact h2 pins s1 σ' H' D I' q
  | ret v => exact q
  | brk => exact q
  | cont => exact q
theorem pss_one (h1 : PS X st t) : PSs X [st] t := by
  intro pins s σ H D I h
  refine wpAny_execs_cons (thn (h1 pins s σ H D I h) fun f s1 q => ?_)
  cases f with
  | next => exact wpAny_execs_nil q
  | ret v => exact q
  | brk => exact q
  | cont => exact q
def tBreak : TS := fun D σ H => D.bk σ H
theorem ps_break : PS X (.Break pos) tBreak := fun _ _ σ H _ I h => wpAny_Break ⟨σ, H, I, h⟩
/-- in a def's body nothing is shown -/
theorem Inv.quiet {pins : List (Addr × Obj)} {σ : St} {H : Hp} {s : Shared} (I : Inv X pins σ H s) : interactive X.env = false := by simp [interactive, I.ok.kind]
/-- an expression whose value is dropped -/
def tDrop (te : TE) : TS := fun D σ H => te σ H fun _ H1 => D.nx σ H1
theorem ps_expr (he : PE X e te) (hs : swapsWith e none pos.line X.env = pure false := by rfl) : PS X (.Expr e pos) (tDrop te) := by
  intro pins s σ H D I h
  exact wpAny_Expr_any (thn (he pins s σ H _ I h) fun v s1 ⟨x, H1, I1, r1, q1⟩ => ⟨σ, H1, I1, q1⟩) I.quiet hs
def tRet (te : TE) : TS := fun D σ H => te σ H D.rt
theorem ps_ret (he : PE X e te) : PS X (.Return (some e) pos) (tRet te) := by
  intro pins s σ H D I h
  exact wpAny_Return_some (thn (he pins s σ H _ I h) fun v s1 ⟨x, H1, I1, r1, q1⟩ => ⟨x, σ, H1, I1, r1, q1⟩)
def tIfS (c : TT) (t u : TS) : TS := fun D σ H => c σ H fun b H1 => if b = true then t D σ H1 else u D σ H1
theorem ps_if {c : Expr} {a b : List Stmt} {tc : TT} (hc : PT X c tc) (ha : PSs X a t) (hb : PSs X b u) : PS X (.If c a b pos) (tIfS tc t u) := by
  intro pins s σ H D I h
  refine wpAny_If (thn (hc pins s σ H _ I h) fun d s1 ⟨H1, I1, q1⟩ => ?_)
  cases d with
  | true => exact ha pins s1 σ H1 D I1 q1
  | false => exact hb pins s1 σ H1 D I1 q1
end

/-! ### targets -/
abbrev TG := V → St → Hp → (St → Hp → Prop) → Prop
abbrev TGs := List V → St → Hp → (St → Hp → Prop) → Prop
def PG (X : Cx) (target : Expr) (t : TG) : Prop :=
  ∀ (pins : List (Addr × Obj)) (s : Shared) (σ : St) (H : Hp) (v : V) (u : Value) (Q : St → Hp → Prop), Inv X pins σ H s → RelV v u → t v σ H Q →
    wpAny (model X.prog X.w) X.A (assign target X.env u) (fun _ s' => ∃ σ' H', Inv X pins σ' H' s' ∧ Q σ' H') X.xe s
/-- several targets, one after another -/
def PGs (X : Cx) (ts : List Expr) (t : TGs) : Prop :=
  ∀ (pins : List (Addr × Obj)) (s : Shared) (σ : St) (H : Hp) (vs : List V) (us : List Value) (Q : St → Hp → Prop), Inv X pins σ H s → Vals vs us → t vs σ H Q →
    wpAny (model X.prog X.w) X.A (assignInOrder ((assignEach ts X.env).map (·.2)) us) (fun _ s' => ∃ σ' H', Inv X pins σ' H' s' ∧ Q σ' H') X.xe s
/-- o[i] = v, by values -/
abbrev TSet := V → V → V → Hp → (Hp → Prop) → Prop
def PSet (X : Cx) (t : TSet) : Prop :=
  ∀ (pins : List (Addr × Obj)) (s : Shared) (σ : St) (H : Hp) (o i v : V) (ov iv u : Value) (Q : Hp → Prop), Inv X pins σ H s → RelV o ov → RelV i iv → RelV v u → t o i v H Q →
    wpAny (model X.prog X.w) X.A (setItem ov iv u) (fun _ s' => ∃ H', Inv X pins σ H' s' ∧ Q H') X.xe s
/-- a op= b, by values -/
abbrev TIp := V → V → Hp → VK → Prop
def PIp (X : Cx) (op : Operator) (t : TIp) : Prop :=
  ∀ (pins : List (Addr × Obj)) (s : Shared) (σ : St) (H : Hp) (x y : V) (v u : Value) (Q : VK), Inv X pins σ H s → RelV x v → RelV y u → t x y H Q →
    wpAny (model X.prog X.w) X.A (inplaceOp op v u) (EP X pins σ Q) X.xe s
section
variable {X : Cx} {pos : Pos}
def gName (i : Nat) : TG := fun v σ H Q => Q (σ.set i (some v)) H
theorem pg_name {i : Nat} {x : Str} (hN : X.N.Nodup) (hi : X.N[i]? = some x) (hx : Loc X.env.scope x) (hf : X.fn x = true ∨ X.env.scope.names.lookup x = some .local := by first | exact .inl rfl | exact .inr rfl | assumption) : PG X (.Name x pos) (gName i) := by
  intro pins s σ H v u Q I r h
  exact wpAny_assign_Name (store_ok I hN hi hx r (fun s' I' => ⟨_, H, I', h⟩) hf)
def gNil : TGs := fun vs σ H Q => vs = [] ∧ Q σ H
inductive gCons (t : TG) (u : TGs) (vs : List V) (σ : St) (H : Hp) (Q : St → Hp → Prop) : Prop
  | mk v r : (vs = v :: r) → (t v σ H fun σ' H' => u r σ' H' Q) → gCons t u vs σ H Q
theorem pgs_nil : PGs X [] gNil := by
  intro pins s σ H vs us Q I r h
  obtain ⟨e, h⟩ := h
  subst e
  cases r
  exact assignInOrder_nil ⟨σ, H, I, h⟩
theorem pgs_cons {e : Expr} {es : List Expr} {t : TG} {u : TGs} (h1 : PG X e t) (h2 : PGs X es u)
    (hs : (assignEach (e :: es) X.env).map (·.2) = assign e X.env :: (assignEach es X.env).map (·.2) := by rfl) : PGs X (e :: es) (gCons t u) := by
  intro pins s σ H vs us Q I r h
  obtain ⟨v, vr, e1, h⟩ := h
  subst e1
  cases r with
  | cons r rr =>
    rw [hs]
    refine assignInOrder_cons (thn (h1 pins s σ H _ _ _ I r h) fun _ s1 ⟨σ1, H1, I1, q1⟩ => ?_)
    exact h2 pins s1 σ1 H1 _ _ Q I1 rr q1
/-- (a, b, ..) = a tuple of that length -/
inductive gTup (K : PySem.W.Frag) (n : Nat) (t : TGs) (v : V) (σ : St) (H : Hp) (Q : St → Hp → Prop) : Prop
  | mk a xs : (v = .ref a) → (SqT K H a xs) → (xs.length = n) → (t xs σ H Q) → gTup K n t v σ H Q
theorem pg_tup {es : List Expr} {k : Nat} {t : TGs} {n : Nat} (hc : X.calm = true) (h : PGs X es t)
    (hn : (assignEach es X.env).length = n := by rfl) (hst : (assignEach es X.env).findIdx? (·.1) = none := by rfl) : PG X (.Tuple es k pos) (gTup X.K n t) := by
  intro pins s σ H v u Q I r hw
  obtain ⟨a, xs, e1, hq, hl, hw⟩ := hw
  subst e1
  cases r
  obtain ⟨its, rv, ht, hz⟩ := I.tuple hq
  refine assign_Tuple_tuple (I.ok.hd hc) ht (by simp [hn, ← hl, rv.length]) hst fun h' hx => ?_
  have I1 : Inv X pins σ H { s with heap := h' } := I.kept (t' := s.toks) fun b o e => hx b o (Nat.ne_of_lt (Heap.lt_size e)) e
  exact h pins _ σ H xs _ Q I1 (by simpa using rv) hw
/-- o[i] = .. -/
def gSub (to ti : TE) (t : TSet) : TG := fun v σ H Q => to σ H fun o H1 => ti σ H1 fun i H2 => t o i v H2 fun H3 => Q σ H3
theorem pg_sub {o i : Expr} {to ti : TE} {t : TSet} (ho : PE X o to) (hi : PE X i ti) (hs : PSet X t)
    (ha : ∀ v, assign (.Subscript o i pos) X.env v = (do
      let ov ← holding [v] (eval o X.env)
      let iv ← holding [v, ov] (eval i X.env)
      standAt pos
      holding [v, ov, iv] (setItem ov iv v)
      release [v, ov, iv] []) := by intro _; rfl) : PG X (.Subscript o i pos) (gSub to ti t) := by
  intro pins s σ H v u Q I r h
  rw [ha]
  refine wpAny_bind (wpAny_holding (thn (ho pins s σ H _ I h) fun ov s1 ⟨x, H1, I1, r1, q1⟩ => ?_))
  refine wpAny_bind (wpAny_holding (thn (hi pins s1 σ H1 _ I1 q1) fun iv s2 ⟨y, H2, I2, r2, q2⟩ => ?_))
  refine wpAny_bind (wpAny_standAt (wpAny_bind (wpAny_holding (thn (hs pins s2 σ H2 x y v ov iv u _ I2 r1 r2 r q2) fun _ s3 ⟨H3, I3, q3⟩ => ?_))))
  exact wpAny_release ⟨σ, H3, I3, q3⟩
/-- target = value -/
def tAsg (te : TE) (g : TG) : TS := fun D σ H => te σ H fun x H1 => g x σ H1 D.nx
theorem ps_asg {tg e : Expr} {te : TE} {g : TG} (he : PE X e te) (hg : PG X tg g) (hs : swapsWithSole [tg] e pos.line X.env = pure false := by rfl) (hw : swappedStores [tg] e X.env = pure none := by rfl)
    (h1 : (assignEach [tg] X.env).map (·.2) = [assign tg X.env] := by rfl) : PS X (.Assign [tg] e pos) (tAsg te g) := by
  intro pins s σ H D I h
  refine wpAny_Assign_stores (thn (he pins s σ H _ I h) fun v s1 ⟨x, H1, I1, r1, q1⟩ => ?_) hs hw
  rw [h1]
  exact thn (hg pins s1 σ H1 x v _ I1 r1 q1) fun _ s2 q => q
/-- name = value -/
theorem ps_set {i : Nat} {x : Str} {e : Expr} {te : TE} {pos' : Pos} (hN : X.N.Nodup) (hi : X.N[i]? = some x) (hx : Loc X.env.scope x) (he : PE X e te) (hs : swapsWith e (some (.Name x pos')) pos.line X.env = pure false := by rfl) (hf : X.fn x = true ∨ X.env.scope.names.lookup x = some .local := by first | exact .inl rfl | exact .inr rfl | assumption) :
    PS X (.Assign [.Name x pos'] e pos) (tAsg te (gName i)) := by
  intro pins s σ H D I h
  refine wpAny_Assign_Name (thn (he pins s σ H _ I h) fun v s1 ⟨y, H1, I1, r1, q1⟩ => ?_) hs
  exact store_ok I1 hN hi hx r1 (fun s2 I2 => ⟨_, H1, I2, q1⟩) hf
/-- name op= e -/
inductive tAug (i : Nat) (te : TE) (ti : TIp) (D : Ends) (σ : St) (H : Hp) : Prop
  | mk x : (σ[i]? = some (some x)) → (te σ H fun y H1 => ti x y H1 fun z H2 => D.nx (σ.set i (some z)) H2) → tAug i te ti D σ H
theorem ps_aug {i : Nat} {x : Str} {e : Expr} {te : TE} {op : Operator} {ti : TIp} {pos' : Pos} (hN : X.N.Nodup) (hi : X.N[i]? = some x) (hx : Loc X.env.scope x) (he : PE X e te) (ho : PIp X op ti) (hf : X.fn x = true ∨ X.env.scope.names.lookup x = some .local := by first | exact .inl rfl | exact .inr rfl | assumption) :
    PS X (.AugAssign (.Name x pos') op e pos) (tAug i te ti) := by
  intro pins s σ H D I h
  obtain ⟨v, e1, h⟩ := h
  obtain ⟨m, hn, hl⟩ := I.loc
  have vis : Vis X.env.scope x := by rcases hx with k | k; exact .inl k; exact .inr (.inl k)
  obtain ⟨u, r, l⟩ := hl i x v hi e1 vis
  refine wpAny_AugAssign_Name ?_
  have go : wpAny (model X.prog X.w) X.A (eval e X.env) (fun w s₂ => wpAny (model X.prog X.w) X.A (inplaceOp op u w) (fun r s₃ => wpAny (model X.prog X.w) X.A (storeName X.env x r) (fun _ => SP X pins D .next) X.xe s₃) X.xe s₂) X.xe s := by
    refine thn (he pins s σ H _ I h) fun w s1 ⟨y, H1, I1, r1, q1⟩ => ?_
    refine thn (ho pins s1 σ H1 v y u w _ I1 r r1 q1) fun z s2 ⟨zv, H2, I2, r2, q2⟩ => ?_
    exact store_ok I2 hN hi hx r2 (fun s3 I3 => ⟨_, H2, I3, q2⟩) hf
  rcases l with ⟨hk, hm⟩ | ⟨hk, c, hc, hcell⟩
  · exact wpAny_loadName_local I.ok.kind hk hn hm go
  · rcases hk with hk | hk
    · exact wpAny_loadName_cell I.ok.kind hk hc hcell go
    · rcases hx with k | k
      · have : X.env.scope.names.lookup x = some .free := hk
        rw [k] at this; cases this
      · have : X.env.scope.names.lookup x = some .free := hk
        rw [k] at this; cases this
/-- ints -/
inductive ipI (f : Int → Int → Int) (x : V) (y : V) (H : Hp) (Q : VK) : Prop
  | mk i j : (x = .int i) → (y = .int j) → (Q (.int (f i j)) H) → ipI f x y H Q
theorem ip_sub : PIp X .Sub (ipI fun i j => i - j) := by
  intro pins s σ H x y v u Q I r1 r2 h
  obtain ⟨i, j, e1, e2, q⟩ := h
  subst e1; subst e2
  obtain ⟨t, rfl⟩ := r1
  obtain ⟨t', rfl⟩ := r2
  exact isub_int ⟨.int _, H, I.tok _, ⟨_, rfl⟩, q⟩
end

/-! ### while -/
section
variable {X : Cx} {pos : Pos}
/-- the invariant W with its measure -/
def tWhile (c : TT) (tb : TS) : TS := fun D σ H => ∃ W : Nat → St → Hp → Prop, (∃ m, W m σ H) ∧ ∀ m σ H, W m σ H →
  c σ H fun b H1 => if b = true then ∃ N : St → Hp → Prop, (∀ σ' H', N σ' H' → ∃ m', m' < m ∧ W m' σ' H') ∧ tb { D with nx := N, ct := N, bk := D.nx } σ H1 else D.nx σ H1
theorem ps_while {c : Expr} {body : List Stmt} {tc : TT} {tb : TS} (hp : PassesOwn (model X.prog X.w) X.A X.env X.xe) (hc : PT X c tc) (hb : PSs X body tb) : PS X (.While c body [] pos) (tWhile tc tb) := by
  intro pins s σ H D I h
  obtain ⟨W, ⟨m0, w0⟩, turn⟩ := h
  refine wpAny_While (codeAny_whileLoop (fun n s' => ∃ σ' H', Inv X pins σ' H' s' ∧ W n σ' H') ?_ m0 ⟨σ, H, I, w0⟩)
  rintro n s1 ⟨σ1, H1, I1, w1⟩
  refine wpAny_passesOwn hp (thn (hc pins s1 σ1 H1 _ I1 (turn n σ1 H1 w1)) fun b s2 ⟨H2, I2, q2⟩ => ?_)
  cases b with
  | true =>
    obtain ⟨N, hN, q2⟩ := q2
    rw [if_pos rfl]
    refine wpAny_passesOwn hp (thn (hb pins s2 σ1 H2 _ I2 q2) fun f s3 q3 => ?_)
    cases f with
    | next =>
      obtain ⟨σ3, H3, I3, n3⟩ := q3
      obtain ⟨m', hm, w3⟩ := hN σ3 H3 n3
      exact ⟨m', hm, σ3, H3, I3, w3⟩
    | cont =>
      obtain ⟨σ3, H3, I3, n3⟩ := q3
      obtain ⟨m', hm, w3⟩ := hN σ3 H3 n3
      exact ⟨m', hm, σ3, H3, I3, w3⟩
    | brk => exact q3
    | ret v => exact q3
  | false =>
    rw [if_neg Bool.false_ne_true]
    exact wpAny_execs_nil ⟨σ1, H2, I2, q2⟩
end

/-! ### what a loop or a comprehension walks -/
/-- at turn i: it yields x (the heap may grow), or it stops -/
structure It where
  go : Nat → Hp → Prop
  yld : Nat → Hp → V → Hp → Prop
  stop : Nat → Hp → Prop
/-- the iterator's own objects may turn: they are not the frame's, not pinned, younger than the entry (or a comprehension's own) -/
def FpOk (X : Cx) (pins : List (Addr × Obj)) (H : Hp) (b : Addr) : Prop :=
  H b = none ∧ b ≠ X.env.locals ∧ b ∉ X.fs ∧ (b ∈ X.ex ∨ X.s_0.heap.objs.size ≤ b) ∧ (∀ x c, X.env.cells.lookup x = some c → c ≠ b) ∧ ∀ p ∈ X.pn ++ pins, p.1 ≠ b
theorem Inv.fpOk {X : Cx} {pins : List (Addr × Obj)} {σ : St} {H H' : Hp} {s : Shared} {b : Addr} (I : Inv X pins σ H s) (hb : s.heap.objs.size ≤ b) (hn : H' b = none) : FpOk X pins H' b := by
  refine ⟨hn, Nat.ne_of_gt (Nat.lt_of_lt_of_le I.lt hb), I.nofs hb, .inr (Nat.le_trans I.sz hb), fun x c e z => ?_, fun p hp z => ?_⟩
  · obtain ⟨v, q⟩ := I.cell x c e
    exact absurd (Nat.lt_of_lt_of_le q.lt (by rw [z]; exact hb)) (Nat.lt_irrefl _)
  · exact absurd (Nat.lt_of_lt_of_le (Heap.lt_size (I.pin p hp).1) (by rw [z]; exact hb)) (Nat.lt_irrefl _)
structure Turn (P : Program) (w : World) (K : PySem.W.Frag) (tg : Expr) (J : It) (fp : List Addr) (it : Addr) (tn : Nat → Heap → Prop) : Prop where
  mem : it ∈ fp
  obj : ∀ i h, tn i h → ∀ b ∈ fp, ∃ o, h.get? b = some o ∧ ∀ v, o.data ≠ .cell v
  keep : ∀ i h h', tn i h → (∀ b ∈ fp, ∀ o, h.get? b = some o → h'.get? b = some o) → tn i h'
  item : ∀ (X : Cx), X.prog = P → X.w = w → X.K = K → X.calm = true → ∀ (i : Nat) (pins : List (Addr × Obj)) (s : Shared) (σ : St) (H : Hp) (E : Value → Shared → Prop), Inv X pins σ H s → (∀ b ∈ fp, FpOk X pins H b) → tn i s.heap → J.go i H →
    wpAny (model P w) X.A (pyNext (.ref it)) (fun r s1 => ∃ u, r = some u ∧
      wpAny (model P w) X.A (letOwnedTupleGo tg (.ref it) u) (fun _ s2 => ∃ x H', Inv X pins σ H' s2 ∧ RelV x u ∧ J.yld i H x H' ∧ tn (i + 1) s2.heap ∧ ∀ b ∈ fp, H' b = none) E s1) E s
  done : ∀ (X : Cx), X.prog = P → X.w = w → X.K = K → X.calm = true → ∀ (i : Nat) (pins : List (Addr × Obj)) (s : Shared) (σ : St) (H : Hp) (E : Value → Shared → Prop), Inv X pins σ H s → (∀ b ∈ fp, FpOk X pins H b) → tn i s.heap → J.stop i H →
    wpAny (model P w) X.A (pyNext (.ref it)) (fun r s1 => r = none ∧ Inv X pins σ H s1) E s
  self : ∀ (A : Around) (i : Nat) (s : Shared) (Q : Value → Shared → Prop) (E : Value → Shared → Prop), tn i s.heap → Q (.ref it) s → wpAny (model P w) A (pyIter (.ref it)) Q E s
abbrev TI := St → Hp → (It → Hp → Prop) → Prop
/-- an iterator has come -/
def PIE (X : Cx) (pins : List (Addr × Obj)) (σ : St) (tg : Expr) (R : It → Hp → Prop) (itv : Value) (s2 : Shared) : Prop :=
  ∃ (it : Addr) (fp : List Addr) (tn : Nat → Heap → Prop) (J : It) (H' : Hp), itv = .ref it ∧ Inv X pins σ H' s2 ∧ Turn X.prog X.w X.K tg J fp it tn ∧ tn 0 s2.heap ∧ (∀ b ∈ fp, FpOk X pins H' b) ∧ R J H'
def PI (X : Cx) (tg iter : Expr) (wi : TI) : Prop :=
  ∀ (pins : List (Addr × Obj)) (s : Shared) (σ : St) (H : Hp) (R : It → Hp → Prop), Inv X pins σ H s → wi σ H R →
    wpAny (model X.prog X.w) X.A (eval iter X.env) (fun v s1 => wpAny (model X.prog X.w) X.A (pyIter v) (PIE X pins σ tg R) X.xe s1) X.xe s

/-- the step ahead of the store is nothing for an iterator that keeps no tuple -/
theorem go_of {M : Model} {A : Around} {E : Value → Shared → Prop} {s : Shared} {tg : Expr} {it : Addr} {u : Value} {o : Obj} {n : String} {vs : Array Value} {Q : Unit → Shared → Prop} (ho : s.heap.get? it = some o) (hc : o.cls = .type n) (hd : o.data = .fields vs)
    (hn : ["enumerate", "zip", "dict_itemiterator", "dict_reverseitemiterator", "odict_iterator", "itertools.zip_longest", "itertools.pairwise"].contains n = false) (hQ : Q () s) : wpAny M A (letOwnedTupleGo tg (.ref it) u) Q E s := by
  unfold letOwnedTupleGo
  cases tg <;> first
    | exact wpAny_pure hQ
    | (cases u <;> first
        | exact wpAny_pure hQ
        | (refine wpAny_bind (wpAny_load ho ?_)
           rw [hc, hd]
           show wpAny M A (if (["enumerate", "zip", "dict_itemiterator", "dict_reverseitemiterator", "odict_iterator", "itertools.zip_longest", "itertools.pairwise"].contains n && vs[0]? == some (rawInt _)) = true then _ else _) Q E s
           rw [if_neg (by intro h; rw [hn, Bool.false_and] at h; cases h)]
           exact wpAny_pure hQ))

/-- the list at a, as it stands at each turn (a loop may append to it) -/
def Itl (K : PySem.W.Frag) (a : Addr) : It :=
  ⟨fun i H => ∃ xs x, SqL K H a xs ∧ xs[i]? = some x, fun i H x H' => H' = H ∧ ∀ xs, SqL K H a xs → xs[i]? = some x, fun i H => ∃ xs, SqL K H a xs ∧ xs.length ≤ i⟩
/-- lo, lo + 1, .. (n of them) -/
def Itr (lo : Int) (n : Nat) : It := ⟨fun i _ => i < n, fun i H x H' => H' = H ∧ x = .int (lo + i), fun i _ => n ≤ i⟩
theorem turn_list {P : Program} {w : World} {K : PySem.W.Frag} {tg : Expr} (a it : Addr) : Turn P w K tg (Itl K a) [it] it (fun i h => h.IsListIter it a i) where
  mem := by simp
  obj := fun i h st b hb => by
    have e : b = it := by simpa using hb
    subst e
    obtain ⟨o, e, c, d⟩ := st
    exact ⟨o, e, fun v z => by rw [d] at z; cases z⟩
  keep := fun i h h' st k => st.at fun o e => k it (by simp) o e
  item := by
    intro X hP hw hK hc i pins s σ H E I hf st hg
    subst hP hw hK
    obtain ⟨xs, x, hq, hx⟩ := hg
    obtain ⟨its, rv, p, hz⟩ := I.list hq
    obtain ⟨u, hu, ru⟩ := rv.get hx
    obtain ⟨f0, f1, f2, f3, f4, f5⟩ := hf it (by simp)
    refine wpAny_pyNext_list_item st p.isList (x := u) (by simpa using hu) fun h' st' sb => ?_
    have I1 : Inv X pins σ H { s with heap := h' } := I.turned (t' := s.toks) (fun b o hb e => (sb.2 b hb).trans e) f0 f1 f3 f4 f5
    obtain ⟨o, e, c, d⟩ := id st'
    exact ⟨u, rfl, go_of (s := { s with heap := h' }) e c d (by decide) ⟨x, H, I1, ru, ⟨rfl, fun ys hy => by rw [I.list_inj hy hq]; exact hx⟩, st', fun b hb => (hf b hb).1⟩⟩
  done := by
    intro X hP hw hK hc i pins s σ H E I hf st hg
    subst hP hw hK
    obtain ⟨xs, hq, hx⟩ := hg
    obtain ⟨its, rv, p, hz⟩ := I.list hq
    obtain ⟨f0, f1, f2, f3, f4, f5⟩ := hf it (by simp)
    have hl := rv.length
    exact wpAny_pyNext_list_end (I.ok.hd hc) st p.isList (by simp; omega) fun h' eb => ⟨rfl, I.turned (t' := s.toks) (fun b o hb e => eb b o hb e) f0 f1 f3 f4 f5⟩
  self := fun _ _ _ _ _ st h => wpAny_pyIter_listiter st h
theorem turn_range {P : Program} {w : World} {K : PySem.W.Frag} {tg : Expr} (it : Addr) (lo : Int) (n : Nat) : Turn P w K tg (Itr lo n) [it] it (fun i h => IsRangeIter h it (lo + (i : Nat) * 1) ((n : Int) - (i : Nat)) 1) where
  mem := by simp
  obj := fun i h st b hb => by
    have e : b = it := by simpa using hb
    subst e
    exact ⟨_, st, fun v z => by
      have z' : Data.fields _ = Data.cell v := z
      cases z'⟩
  keep := fun i h h' st k => k it (by simp) _ st
  item := by
    intro X hP hw hK hc i pins s σ H E I hf st hg
    subst hP hw hK
    obtain ⟨f0, f1, f2, f3, f4, f5⟩ := hf it (by simp)
    have W := Walks.range (prog := X.prog) (w := X.w) (I.ok.hd hc) it lo 1 n
    refine W.item i s _ _ hg st fun v h' tk hv st' kk => ?_
    obtain ⟨t, rfl⟩ := hv
    have I1 : Inv X pins σ H { s with heap := h', toks := tk } := I.turned (fun b o hb e => kk b o (by simpa using hb) e) f0 f1 f3 f4 f5
    refine ⟨_, rfl, go_of (s := { s with heap := h', toks := tk }) (n := "range_iterator") st' rfl rfl (by decide) ⟨.int (lo + i), H, I1, ⟨t, ?_⟩, ⟨rfl, rfl⟩, st', fun b hb => (hf b hb).1⟩⟩
    rw [Int.mul_one]
  done := by
    intro X hP hw hK hc i pins s σ H E I hf st hg
    subst hP hw hK
    obtain ⟨f0, f1, f2, f3, f4, f5⟩ := hf it (by simp)
    exact wpAny_pyNext_range_end (I.ok.hd hc) st (by have : n ≤ i := hg; omega) fun h' eb => ⟨rfl, I.turned (t' := s.toks) (fun b o hb e => eb b o hb e) f0 f1 f3 f4 f5⟩
  self := fun _ _ _ _ _ st h => wpAny_pyIter_rangeiter st h
end L2

namespace L2
open PySem PySem.Spec PyProof.Rows
section
variable {X : Cx} {tg : Expr}
inductive IListQ (K : PySem.W.Frag) (R : It → Hp → Prop) (x : V) (H1 : Hp) : Prop
  | mk (a : Addr) : x = .ref a → (∃ xs, SqL K H1 a xs) → R (Itl K a) H1 → IListQ K R x H1
def iList (K : PySem.W.Frag) (tl : TE) : TI := fun σ H R => tl σ H (IListQ K R)
theorem pi_list {l : Expr} {tl : TE} (hl : PE X l tl) : PI X tg l (iList X.K tl) := by
  intro pins s σ H R I h
  refine thn (hl pins s σ H _ I h) fun v s1 ⟨x, H1, I1, r1, q1⟩ => ?_
  obtain ⟨a, e, ⟨xs, hq⟩, q⟩ := q1
  subst e
  cases r1
  obtain ⟨its, rv, p, hz⟩ := I1.list hq
  refine wpAny_pyIter_list p.isList ?_
  refine ⟨s1.heap.objs.size, [s1.heap.objs.size], _, _, H1, rfl, I1.kept (t' := s1.toks) fun b o e => Heap.get?_push_of_some _ e, turn_list a _, ⟨_, Heap.get?_push_size _ rfl, rfl, rfl⟩, fun b hb => ?_, q⟩
  have e : b = s1.heap.objs.size := by simpa using hb
  subst e
  exact I1.fpOk (Nat.le_refl _) (I1.hok.fresh (Nat.le_refl _))
/-- a range object just made, walked -/
theorem range_it {pins : List (Addr × Obj)} {σ : St} {H : Hp} {s : Shared} {R : It → Hp → Prop} {E : Value → Shared → Prop} {lo hi : Int} {t u v : Tok} {tk : Nat} (I : Inv X pins σ H s) (h1 : -(2 ^ 62) ≤ lo) (h2 : lo < 2 ^ 62) (h3 : -(2 ^ 62) ≤ hi) (h4 : hi < 2 ^ 62)
    (q : R (Itr lo (hi - lo).toNat) H) : wpAny (model X.prog X.w) X.A (pyIter (.ref s.heap.objs.size)) (PIE X pins σ tg R) E { s with heap := s.heap.push { cls := .type "range", data := .fields #[.int lo t, .int hi u, .int 1 v] }, toks := tk } := by
  refine wpAny_pyIter_range (IsRange.new ..) (small_one h1 h2 h3 h4) ?_
  have I1 : Inv X pins σ H { s with heap := s.heap.push { cls := .type "range", data := .fields #[.int lo t, .int hi u, .int 1 v] }, toks := tk } := I.kept fun b o e => Heap.get?_push_of_some _ e
  refine ⟨(s.heap.push { cls := .type "range", data := .fields #[.int lo t, .int hi u, .int 1 v] }).objs.size, [(s.heap.push { cls := .type "range", data := .fields #[.int lo t, .int hi u, .int 1 v] }).objs.size], _, _, H, rfl,
    I1.kept (t' := tk) fun b o e => Heap.get?_push_of_some _ e, turn_range _ lo (hi - lo).toNat, ?_, fun b hb => ?_, q⟩
  · have e1 : lo + ((0 : Nat) : Int) * 1 = lo := by simp
    have e2 : (((hi - lo).toNat : Nat) : Int) - ((0 : Nat) : Int) = Builtin.Range.rangeSize lo hi 1 := by rw [rangeSize_one]; split <;> omega
    show IsRangeIter _ _ (lo + ((0 : Nat) : Int) * 1) ((((hi - lo).toNat : Nat) : Int) - ((0 : Nat) : Int)) 1
    rw [e1, e2]
    exact Heap.get?_push_size _ rfl
  · have e : b = (s.heap.push { cls := .type "range", data := .fields #[.int lo t, .int hi u, .int 1 v] }).objs.size := by simpa using hb
    subst e
    exact I1.fpOk (Nat.le_refl _) (I1.hok.fresh (Nat.le_refl _))
def iRng1 (ta : TA) : TI := fun σ H R => ta σ H fun vs H1 => ∃ j : Int, vs = [.int j] ∧ -(2 ^ 62) ≤ j ∧ j < 2 ^ 62 ∧ R (Itr 0 j.toNat) H1
theorem pi_range1 {a : Expr} {ta : TA} {p pos : Pos} (hg : Gl X "range") (hm : X.mg "range" = none) (ha : PA X [a] ta) (hs : starEach [a] X.env = [(false, eval a X.env)] := by rfl) : PI X tg (.Call (.Name "range" p) [a] [] pos) (iRng1 ta) := by
  intro pins s σ H R I h
  refine Call_ (ld_blt I hg hm boot_range (PyProof.Rows.callWith_type1 (thn (ha pos pins s σ H _ I h) fun us s1 ⟨vs, H1, I1, r1, q1⟩ => ?_) hs rfl))
  obtain ⟨j, e, q1, q2, q⟩ := q1
  subst e
  cases r1 with
  | cons r rr =>
    cases rr
    obtain ⟨t, rfl⟩ := r
    exact call_range_1 (range_it I1 (by omega) (by omega) q1 q2 (by simpa using q))

/-! ### for -/
/-- W: the invariant by the turn and a measure; N: what the body is to reach -/
def tFor (wi : TI) (g : TG) (tb : TS) : TS := fun D σ H => wi σ H fun J H1 => ∃ W : Nat → Nat → St → Hp → Prop, (∃ m, W 0 m σ H1) ∧ ∀ i m σ H, W i m σ H →
  (J.stop i H ∧ D.nx σ H) ∨ (J.go i H ∧ ∃ N : St → Hp → Prop, (∀ σ' H', N σ' H' → ∃ m', m' < m ∧ W (i + 1) m' σ' H') ∧ ∀ x H', J.yld i H x H' → g x σ H' fun σ2 H2 => tb { D with nx := N, ct := N, bk := D.nx } σ2 H2)
/-- the records at fp as they stand -/
def pinsAt (fp : List Addr) (h : Heap) : List (Addr × Obj) := fp.filterMap fun b => (h.get? b).map fun o => (b, o)
theorem mem_pinsAt {fp : List Addr} {h : Heap} {b : Addr} {o : Obj} (hb : b ∈ fp) (e : h.get? b = some o) : (b, o) ∈ pinsAt fp h := List.mem_filterMap.mpr ⟨b, hb, by rw [e]; rfl⟩
theorem of_pinsAt {fp : List Addr} {h : Heap} {p : Addr × Obj} (hp : p ∈ pinsAt fp h) : p.1 ∈ fp ∧ h.get? p.1 = some p.2 := by
  obtain ⟨b, hb, e⟩ := List.mem_filterMap.mp hp
  cases q : h.get? b with
  | none => rw [q] at e; cases e
  | some o =>
    rw [q] at e
    have e' : (b, o) = p := Option.some.inj e
    subst e'
    exact ⟨hb, q⟩
theorem Inv.pinned {pins : List (Addr × Obj)} {σ : St} {H : Hp} {s : Shared} {fp : List Addr} (I : Inv X pins σ H s) (hf : ∀ b ∈ fp, FpOk X pins H b) (ho : ∀ b ∈ fp, ∃ o, s.heap.get? b = some o ∧ ∀ v, o.data ≠ .cell v) : Inv X (pins ++ pinsAt fp s.heap) σ H s :=
  I.pins_of fun p hp => (List.mem_append.mp hp).elim (fun z => I.pin p (List.mem_append_right _ z)) fun z => by
    obtain ⟨hb, e⟩ := of_pinsAt z
    obtain ⟨f0, f1, f2, _⟩ := hf p.1 hb
    obtain ⟨o, e', d⟩ := ho p.1 hb
    rw [e] at e'; cases e'
    exact ⟨e, f0, f1, f2, d⟩
theorem Inv.unpinned {pins pl : List (Addr × Obj)} {σ : St} {H : Hp} {s : Shared} (I : Inv X (pins ++ pl) σ H s) : Inv X pins σ H s := I.pins_of fun p hp => I.pin p (List.mem_append_right _ (List.mem_append_left _ hp))
theorem ps_for {iter : Expr} {body : List Stmt} {wi : TI} {g : TG} {tb : TS} {pos : Pos} (hp : PassesOwn (model X.prog X.w) X.A X.env X.xe) (hc : X.calm = true) (hi : PI X tg iter wi) (hg : PG X tg g) (hb : PSs X body tb)
    (hs : ∀ x, foldedSetIterable iter X.env x = pure x := by intro _; rfl) : PS X (.For tg iter body [] pos) (tFor wi g tb) := by
  intro pins s σ H D I h
  refine wpAny_For (thn (hi pins s σ H _ I h) fun v s1 h1 => thn h1 fun itv s2 h2 => ?_) hs
  obtain ⟨it, fp, tn, J, H2, e, I2, T, st2, f2, W, ⟨m0, w0⟩, turn⟩ := h2
  subst e
  -- what stays true of the iterator's objects through the loop
  have stat : ∀ {H' : Hp}, (∀ b ∈ fp, H' b = none) → ∀ b ∈ fp, FpOk X pins H' b := fun hn b hb => ⟨hn b hb, (f2 b hb).2⟩
  refine codeAny_forLoop_any (fun n s' => ∃ i σ' H', Inv X pins σ' H' s' ∧ tn i s'.heap ∧ (∀ b ∈ fp, H' b = none) ∧ W i n σ' H') ?_ m0 ⟨0, σ, H2, I2, st2, fun b hb => (f2 b hb).1, w0⟩
  rintro n s3 ⟨i, σ3, H3, I3, st3, fr3, w3⟩
  rcases turn i n σ3 H3 w3 with ⟨stop, qn⟩ | ⟨go, N, hN, step⟩
  · refine wpAny_passesOwn hp (thn (T.done X rfl rfl rfl hc i pins s3 σ3 H3 X.xe I3 (stat fr3) st3 stop) fun r s4 ⟨hr, I4⟩ => ?_)
    subst hr
    exact wpAny_execs_nil ⟨σ3, H3, I4, qn⟩
  · refine wpAny_passesOwn hp (thn (T.item X rfl rfl rfl hc i pins s3 σ3 H3 X.xe I3 (stat fr3) st3 go) fun r s4 ⟨u, hr, h4⟩ => ?_)
    subst hr
    refine wpAny_passesOwn hp (thn h4 fun _ s5 ⟨x, H5, I5, r5, y5, st5, fr5⟩ => ?_)
    have I5' := I5.pinned (stat fr5) (T.obj _ _ st5)
    refine wpAny_passesOwn hp (thn (hg _ s5 σ3 H5 x u _ I5' r5 (step x H5 y5)) fun _ s6 ⟨σ6, H6, I6, q6⟩ => ?_)
    refine wpAny_passesOwn hp (thn (hb _ s6 σ6 H6 _ I6 q6) fun f s7 q7 => ?_)
    have again : ∀ {σ7 : St} {H7 : Hp}, Inv X (pins ++ pinsAt fp s5.heap) σ7 H7 s7 → N σ7 H7 → ∃ m, m < n ∧ ∃ i σ' H', Inv X pins σ' H' s7 ∧ tn i s7.heap ∧ (∀ b ∈ fp, H' b = none) ∧ W i m σ' H' := fun {σ7 H7} I7 n7 => by
      obtain ⟨m', hm, w7⟩ := hN σ7 H7 n7
      refine ⟨m', hm, i + 1, σ7, H7, I7.unpinned, T.keep _ _ _ st5 fun b hb o e => (I7.pin (b, o) (List.mem_append_right _ (List.mem_append_right _ (mem_pinsAt hb e)))).1, fun b hb => ?_, w7⟩
      obtain ⟨o, e, d⟩ := T.obj _ _ st5 b hb
      exact (I7.pin (b, o) (List.mem_append_right _ (List.mem_append_right _ (mem_pinsAt hb e)))).2.1
    cases f with
    | next => obtain ⟨σ7, H7, I7, n7⟩ := q7; exact again I7 n7
    | cont => obtain ⟨σ7, H7, I7, n7⟩ := q7; exact again I7 n7
    | brk => obtain ⟨σ7, H7, I7, q7⟩ := q7; exact ⟨σ7, H7, I7.unpinned, q7⟩
    | ret v => obtain ⟨x7, σ7, H7, I7, r7, q7⟩ := q7; exact ⟨x7, σ7, H7, I7.unpinned, r7, q7⟩
end

/-! ### the forms one uses -/
/-- over a list that the body leaves as it is -/
theorem for_list {K : PySem.W.Frag} {a : Addr} {xs : List V} {g : TG} {tb : TS} {D : Ends} {σ : St} {H : Hp} (Pv : Nat → St → Hp → Prop) (h0 : Pv 0 σ H) (hl : ∀ i σ H, i ≤ xs.length → Pv i σ H → SqL K H a xs)
    (hs : ∀ i x σ H, xs[i]? = some x → Pv i σ H → g x σ H fun σ2 H2 => tb { D with nx := Pv (i + 1), ct := Pv (i + 1), bk := D.nx } σ2 H2) (hd : ∀ σ H, Pv xs.length σ H → D.nx σ H) :
    ∃ W : Nat → Nat → St → Hp → Prop, (∃ m, W 0 m σ H) ∧ ∀ i m σ H, W i m σ H →
      ((Itl K a).stop i H ∧ D.nx σ H) ∨ ((Itl K a).go i H ∧ ∃ N : St → Hp → Prop, (∀ σ' H', N σ' H' → ∃ m', m' < m ∧ W (i + 1) m' σ' H') ∧ ∀ x H', (Itl K a).yld i H x H' → g x σ H' fun σ2 H2 => tb { D with nx := N, ct := N, bk := D.nx } σ2 H2) := by
  refine ⟨fun i m σ H => m = xs.length - i ∧ i ≤ xs.length ∧ Pv i σ H, ⟨xs.length, by simp, Nat.zero_le _, h0⟩, ?_⟩
  rintro i m σ H ⟨rfl, hi, p⟩
  have q := hl i σ H hi p
  by_cases hlt : i < xs.length
  · refine .inr ⟨⟨xs, xs[i], q, by simp [hlt]⟩, Pv (i + 1), fun σ' H' p' => ⟨xs.length - (i + 1), by omega, rfl, hlt, p'⟩, fun x H' y => ?_⟩
    obtain ⟨e, y⟩ := y
    subst e
    exact hs i x σ _ (y xs q) p
  · have e : i = xs.length := by omega
    subst e
    exact .inl ⟨⟨xs, q, Nat.le_refl _⟩, hd σ H p⟩
theorem for_range {lo : Int} {n : Nat} {g : TG} {tb : TS} {D : Ends} {σ : St} {H : Hp} (Pv : Nat → St → Hp → Prop) (h0 : Pv 0 σ H)
    (hs : ∀ i σ H, i < n → Pv i σ H → g (.int (lo + i)) σ H fun σ2 H2 => tb { D with nx := Pv (i + 1), ct := Pv (i + 1), bk := D.nx } σ2 H2) (hd : ∀ σ H, Pv n σ H → D.nx σ H) :
    ∃ W : Nat → Nat → St → Hp → Prop, (∃ m, W 0 m σ H) ∧ ∀ i m σ H, W i m σ H →
      ((Itr lo n).stop i H ∧ D.nx σ H) ∨ ((Itr lo n).go i H ∧ ∃ N : St → Hp → Prop, (∀ σ' H', N σ' H' → ∃ m', m' < m ∧ W (i + 1) m' σ' H') ∧ ∀ x H', (Itr lo n).yld i H x H' → g x σ H' fun σ2 H2 => tb { D with nx := N, ct := N, bk := D.nx } σ2 H2) := by
  refine ⟨fun i m σ H => m = n - i ∧ i ≤ n ∧ Pv i σ H, ⟨n, by simp, Nat.zero_le _, h0⟩, ?_⟩
  rintro i m σ H ⟨rfl, hi, p⟩
  by_cases hlt : i < n
  · refine .inr ⟨hlt, Pv (i + 1), fun σ' H' p' => ⟨n - (i + 1), by omega, rfl, hlt, p'⟩, fun x H' y => ?_⟩
    obtain ⟨e, y⟩ := y
    subst e y
    exact hs i σ _ hlt p
  · have e : i = n := by omega
    subst e
    exact .inl ⟨Nat.le_refl _, hd σ H p⟩
end L2

namespace L2
open PySem PySem.Spec PyProof.Rows

abbrev R2 := V → V → Hp → VK → Prop
/-- a two-place operation on values: f is binaryOp op, inplaceOp op or compareOp op -/
def OpR (X : Cx) (f : Value → Value → Sem Value) (r : R2) : Prop :=
  ∀ (pins : List (Addr × Obj)) (s : Shared) (σ : St) (H : Hp) (x y : V) (v u : Value) (Q : VK), Inv X pins σ H s → RelV x v → RelV y u → r x y H Q →
    wpAny (model X.prog X.w) X.A (f v u) (EP X pins σ Q) X.xe s
/-- a one-place operation -/
def UnR (X : Cx) (f : Value → Sem Value) (r : V → Hp → VK → Prop) : Prop :=
  ∀ (pins : List (Addr × Obj)) (s : Shared) (σ : St) (H : Hp) (x : V) (v : Value) (Q : VK), Inv X pins σ H s → RelV x v → r x H Q →
    wpAny (model X.prog X.w) X.A (f v) (EP X pins σ Q) X.xe s
/-- a call of a value that is known (a builtin, a type) with values -/
def CallR (X : Cx) (f : Value) (r : List V → Hp → VK → Prop) : Prop :=
  ∀ (pins : List (Addr × Obj)) (s : Shared) (σ : St) (H : Hp) (xs : List V) (us : List Value) (Q : VK), Inv X pins σ H s → Vals xs us → r xs H Q →
    wpAny (model X.prog X.w) X.A (call f us) (EP X pins σ Q) X.xe s
/-- a value's truth -/
def TruR (X : Cx) (r : V → Hp → (Bool → Hp → Prop) → Prop) : Prop :=
  ∀ (pins : List (Addr × Obj)) (s : Shared) (σ : St) (H : Hp) (x : V) (v : Value) (Q : Bool → Hp → Prop), Inv X pins σ H s → RelV x v → r x H Q →
    wpAny (model X.prog X.w) X.A (truthy v) (TP X pins σ Q) X.xe s

def tOp (r : R2) (ta tb : TE) : TE := fun σ H Q => ta σ H fun x H1 => tb σ H1 fun y H2 => r x y H2 Q
def tUn (r : V → Hp → VK → Prop) (ta : TE) : TE := fun σ H Q => ta σ H fun x H1 => r x H1 Q
/-- ints in, under C, and a value out -/
inductive rI (C : Int → Int → Prop) (g : Int → Int → V) (x : V) (y : V) (H : Hp) (Q : VK) : Prop
  | mk i j : (x = .int i) → (y = .int j) → (C i j) → (Q (g i j) H) → rI C g x y H Q
inductive rI0 (g : Int → Int → V) (x : V) (y : V) (H : Hp) (Q : VK) : Prop
  | mk i j : (x = .int i) → (y = .int j) → (Q (g i j) H) → rI0 g x y H Q
inductive rU (g : Int → V) (x : V) (H : Hp) (Q : VK) : Prop
  | mk i : (x = .int i) → (Q (g i) H) → rU g x H Q

section
variable {X : Cx} {a b c : Expr} {ta tb tc : TE} {pos : Pos}

theorem binT (ha : PE X a ta) (hb : PE X b tb) {pins : List (Addr × Obj)} {s : Shared} {σ : St} {H : Hp} {R : V → V → Hp → Prop} (I : Inv X pins σ H s)
    (h : ta σ H fun x H1 => tb σ H1 fun y H2 => R x y H2) {Q : Value → Shared → Prop} {f : Value → Value → Sem Value}
    (hf : ∀ v u s2 x y H2, Inv X pins σ H2 s2 → RelV x v → RelV y u → R x y H2 → wpAny (model X.prog X.w) X.A (f v u) Q X.xe s2) :
    wpAny (model X.prog X.w) X.A (eval a X.env) (fun v s₁ => wpAny (model X.prog X.w) X.A (eval b X.env) (fun u s₂ => wpAny (model X.prog X.w) X.A (f v u) Q X.xe s₂) X.xe s₁) X.xe s := by
  refine thn (ha pins s σ H _ I h) fun v s1 ⟨x, H1, I1, r1, q1⟩ => ?_
  refine thn (hb pins s1 σ H1 _ I1 q1) fun u s2 ⟨y, H2, I2, r2, q2⟩ => ?_
  exact hf v u s2 x y H2 I2 r1 r2 q2

theorem pe_op {op : Operator} {r : R2} (ho : OpR X (binaryOp op) r) (ha : PE X a ta) (hb : PE X b tb) : PE X (.BinOp a op b pos) (tOp r ta tb) := by
  intro pins s σ H Q I h
  exact wpAny_BinOp (binT ha hb I h fun v u s2 x y H2 I2 rx ry q => ho pins s2 σ H2 x y v u Q I2 rx ry q)
theorem pe_un {op : UnaryOp} {r : V → Hp → VK → Prop} (ho : UnR X (unaryOp op) r) (ha : PE X a ta) : PE X (.UnaryOp op a pos) (tUn r ta) := by
  intro pins s σ H Q I h
  exact UnaryOp_ (thn (ha pins s σ H _ I h) fun v s1 ⟨x, H1, I1, r1, q1⟩ => ho pins s1 σ H1 x v Q I1 r1 q1)

/-! ### ints -/
theorem opI {f : Value → Value → Sem Value} {C : Int → Int → Prop} {g : Int → Int → Int}
    (rule : ∀ (i j : Int) (t u : Tok) (s : Shared) (Q : Value → Shared → Prop) (E : Value → Shared → Prop), C i j → Q (.int (g i j) s.toks) { s with toks := s.toks + 1 } → wpAny (model X.prog X.w) X.A (f (.int i t) (.int j u)) Q E s) :
    OpR X f (rI C fun i j => .int (g i j)) := by
  intro pins s σ H x y v u Q I rx ry h
  obtain ⟨i, j, rfl, rfl, hc, q⟩ := h
  obtain ⟨t, rfl⟩ := rx
  obtain ⟨t', rfl⟩ := ry
  exact rule i j t t' s _ _ hc ⟨.int (g i j), H, I.tok _, ⟨_, rfl⟩, q⟩
theorem opI0 {f : Value → Value → Sem Value} {g : Int → Int → Int}
    (rule : ∀ (i j : Int) (t u : Tok) (s : Shared) (Q : Value → Shared → Prop) (E : Value → Shared → Prop), Q (.int (g i j) s.toks) { s with toks := s.toks + 1 } → wpAny (model X.prog X.w) X.A (f (.int i t) (.int j u)) Q E s) :
    OpR X f (rI0 fun i j => .int (g i j)) := by
  intro pins s σ H x y v u Q I rx ry h
  obtain ⟨i, j, rfl, rfl, q⟩ := h
  obtain ⟨t, rfl⟩ := rx
  obtain ⟨t', rfl⟩ := ry
  exact rule i j t t' s _ _ ⟨.int (g i j), H, I.tok _, ⟨_, rfl⟩, q⟩
theorem opB0 {f : Value → Value → Sem Value} {g : Int → Int → Bool}
    (rule : ∀ (i j : Int) (t u : Tok) (s : Shared) (Q : Value → Shared → Prop) (E : Value → Shared → Prop), Q (.bool (g i j)) s → wpAny (model X.prog X.w) X.A (f (.int i t) (.int j u)) Q E s) :
    OpR X f (rI0 fun i j => .bl (g i j)) := by
  intro pins s σ H x y v u Q I rx ry h
  obtain ⟨i, j, rfl, rfl, q⟩ := h
  obtain ⟨t, rfl⟩ := rx
  obtain ⟨t', rfl⟩ := ry
  exact rule i j t t' s _ _ ⟨.bl (g i j), H, I, rfl, q⟩

theorem op_add : OpR X (binaryOp .Add) (rI0 fun i j => .int (i + j)) := opI0 fun _ _ _ _ _ _ _ q => add_int q
theorem op_sub : OpR X (binaryOp .Sub) (rI0 fun i j => .int (i - j)) := opI0 fun _ _ _ _ _ _ _ q => sub_int q
/-- % by a positive divisor of any size -/
theorem op_mod : OpR X (binaryOp .Mod) (rI (fun _ j => 0 < j) fun i j => .int (i % j)) := opI fun i j _ _ _ _ _ hc q => by
  have h1 : (0 : Int) < j := hc
  exact mod_int' (by omega) (by rw [Int.fmod_eq_emod_of_nonneg i (by omega)]; exact q)

theorem unI {f : Value → Sem Value} {g : Int → Int}
    (rule : ∀ (i : Int) (t : Tok) (s : Shared) (Q : Value → Shared → Prop) (E : Value → Shared → Prop), Q (.int (g i) s.toks) { s with toks := s.toks + 1 } → wpAny (model X.prog X.w) X.A (f (.int i t)) Q E s) :
    UnR X f (rU fun i => .int (g i)) := by
  intro pins s σ H x v Q I rx h
  obtain ⟨i, rfl, q⟩ := h
  obtain ⟨t, rfl⟩ := rx
  exact rule i t s _ _ ⟨.int (g i), H, I.tok _, ⟨_, rfl⟩, q⟩
theorem un_neg : UnR X (unaryOp .USub) (rU fun i => .int (-i)) := unI fun _ _ _ _ _ q => neg_int q

/-! ### bools among ints: n += (a < b) -/
end

/-! ### comparisons -/
/-- the scalars that == tells apart as data does -/
def scal : V → V → Bool
  | .non, .non => true | .non, .int _ => true | .int _, .non => true | .non, .bl _ => true | .bl _, .non => true | .non, .str _ => true | .str _, .non => true
  | .int _, .int _ => true | .bl _, .bl _ => true | .str _, .str _ => true | .byt _, .byt _ => true
  | .int _, .str _ => true | .str _, .int _ => true | .bl _, .str _ => true | .str _, .bl _ => true
  | _, _ => false
def rEq : R2 := fun x y H Q => scal x y = true ∧ Q (.bl (decide (x = y))) H
def rNe : R2 := fun x y H Q => scal x y = true ∧ Q (.bl (!decide (x = y))) H

theorem dec_int {i j : Int} : decide (V.int i = V.int j) = (i == j) := by
  rw [Bool.eq_iff_iff]
  simp
theorem dec_bl {i j : Bool} : decide (V.bl i = V.bl j) = (i == j) := by
  rw [Bool.eq_iff_iff]
  simp
theorem dec_str {i j : Str} : decide (V.str i = V.str j) = (i == j) := by
  rw [Bool.eq_iff_iff]
  simp
theorem dec_byt {i j : Array UInt8} : decide (V.byt i = V.byt j) = (i.toList == j.toList) := by
  rw [Bool.eq_iff_iff]
  cases i
  cases j
  simp

section
variable {X : Cx} {a b c : Expr} {ta tb tc : TE} {pos : Pos}
theorem fin_bl {pins : List (Addr × Obj)} {σ : St} {H : Hp} {s : Shared} {Q : VK} {k k' : Bool} (I : Inv X pins σ H s) (q : Q (.bl k) H) (e : k = k') : EP X pins σ Q (.bool k') s := by
  subst e
  exact ⟨.bl k, H, I, rfl, q⟩
theorem op_eq : OpR X (compareOp .Eq) rEq := by
  intro pins s σ H x y v u Q I rx ry h
  obtain ⟨hs, q⟩ := h
  cases x with
  | non =>
    cases rx
    cases y with
    | non => cases ry; exact PySem.EqNone.eq_none_none (fin_bl I q (by simp))
    | bl j => cases ry; exact PySem.EqNone.eq_none_bool (fin_bl I q (by simp))
    | int j => obtain ⟨t', rfl⟩ := ry; exact PySem.EqNone.eq_none_int (fin_bl I q (by simp))
    | str j => obtain ⟨t', rfl⟩ := ry; exact PySem.EqNone.eq_none_str (fin_bl I q (by simp))
    | _ => exact absurd (show false = true from hs) Bool.false_ne_true
  | bl i =>
    cases rx
    cases y with
    | non => cases ry; exact PySem.EqNone.eq_bool_none (fin_bl I q (by simp))
    | bl j => cases ry; exact eq_bool (fin_bl I q dec_bl)
    | str j => obtain ⟨t', rfl⟩ := ry; exact PySem.EqMixed.eq_bool_str (fin_bl I q (by simp))
    | _ => exact absurd (show false = true from hs) Bool.false_ne_true
  | int i =>
    obtain ⟨t, rfl⟩ := rx
    cases y with
    | non => cases ry; exact PySem.EqNone.eq_int_none (fin_bl I q (by simp))
    | int j => obtain ⟨t', rfl⟩ := ry; exact eq_int (fin_bl I q dec_int)
    | str j => obtain ⟨t', rfl⟩ := ry; exact PySem.EqMixed.eq_int_str (fin_bl I q (by simp))
    | _ => exact absurd (show false = true from hs) Bool.false_ne_true
  | str i =>
    obtain ⟨t, rfl⟩ := rx
    cases y with
    | non => cases ry; exact PySem.EqNone.eq_str_none (fin_bl I q (by simp))
    | bl j => cases ry; exact PySem.EqMixed.eq_str_bool (fin_bl I q (by simp))
    | int j => obtain ⟨t', rfl⟩ := ry; exact PySem.EqMixed.eq_str_int (fin_bl I q (by simp))
    | str j => obtain ⟨t', rfl⟩ := ry; exact eq_str (fin_bl I q dec_str)
    | _ => exact absurd (show false = true from hs) Bool.false_ne_true
  | byt i =>
    obtain ⟨t, rfl⟩ := rx
    cases y with
    | byt j => obtain ⟨t', rfl⟩ := ry; exact PySem.W.eq_bytes (fin_bl I q dec_byt)
    | _ => exact absurd (show false = true from hs) Bool.false_ne_true
  | _ => cases y <;> exact absurd (show false = true from hs) Bool.false_ne_true
theorem op_ne : OpR X (compareOp .NotEq) rNe := by
  intro pins s σ H x y v u Q I rx ry h
  obtain ⟨hs, q⟩ := h
  cases x with
  | non =>
    cases rx
    cases y with
    | non => cases ry; exact PySem.EqNone.ne_none_none (fin_bl I q (by simp))
    | bl j => cases ry; exact PySem.EqNone.ne_none_bool (fin_bl I q (by simp))
    | int j => obtain ⟨t', rfl⟩ := ry; exact PySem.EqNone.ne_none_int (fin_bl I q (by simp))
    | str j => obtain ⟨t', rfl⟩ := ry; exact PySem.EqNone.ne_none_str (fin_bl I q (by simp))
    | _ => exact absurd (show false = true from hs) Bool.false_ne_true
  | bl i =>
    cases rx
    cases y with
    | non => cases ry; exact PySem.EqNone.ne_bool_none (fin_bl I q (by simp))
    | bl j => cases ry; exact ne_bool (fin_bl I q (congrArg not dec_bl))
    | str j => obtain ⟨t', rfl⟩ := ry; exact PySem.EqMixed.ne_bool_str (fin_bl I q (by simp))
    | _ => exact absurd (show false = true from hs) Bool.false_ne_true
  | int i =>
    obtain ⟨t, rfl⟩ := rx
    cases y with
    | non => cases ry; exact PySem.EqNone.ne_int_none (fin_bl I q (by simp))
    | int j => obtain ⟨t', rfl⟩ := ry; exact ne_int (fin_bl I q (congrArg not dec_int))
    | str j => obtain ⟨t', rfl⟩ := ry; exact PySem.EqMixed.ne_int_str (fin_bl I q (by simp))
    | _ => exact absurd (show false = true from hs) Bool.false_ne_true
  | str i =>
    obtain ⟨t, rfl⟩ := rx
    cases y with
    | non => cases ry; exact PySem.EqNone.ne_str_none (fin_bl I q (by simp))
    | bl j => cases ry; exact PySem.EqMixed.ne_str_bool (fin_bl I q (by simp))
    | int j => obtain ⟨t', rfl⟩ := ry; exact PySem.EqMixed.ne_str_int (fin_bl I q (by simp))
    | str j => obtain ⟨t', rfl⟩ := ry; exact ne_str (fin_bl I q (congrArg not dec_str))
    | _ => exact absurd (show false = true from hs) Bool.false_ne_true
  | byt i =>
    obtain ⟨t, rfl⟩ := rx
    cases y with
    | byt j => obtain ⟨t', rfl⟩ := ry; exact PySem.W.ne_bytes (fin_bl I q (congrArg not dec_byt))
    | _ => exact absurd (show false = true from hs) Bool.false_ne_true
  | _ => cases y <;> exact absurd (show false = true from hs) Bool.false_ne_true

theorem op_lt : OpR X (compareOp .Lt) (rI0 fun i j => .bl (decide (i < j))) := opB0 fun _ _ _ _ _ _ _ q => lt_int q
theorem op_le : OpR X (compareOp .LtE) (rI0 fun i j => .bl (decide (i ≤ j))) := opB0 fun _ _ _ _ _ _ _ q => le_int q
theorem op_gt : OpR X (compareOp .Gt) (rI0 fun i j => .bl (decide (j < i))) := opB0 fun _ _ _ _ _ _ _ q => gt_int q
theorem op_ge : OpR X (compareOp .GtE) (rI0 fun i j => .bl (decide (j ≤ i))) := opB0 fun _ _ _ _ _ _ _ q => ge_int q

theorem nomark (b : Expr) {op : CmpOp} (h : op ≠ .In := by decide) (h2 : op ≠ .NotIn := by decide) : behindInMarks op b = false := by
  have e1 : (op == CmpOp.In) = false := by cases op <;> first | rfl | exact absurd rfl h
  have e2 : (op == CmpOp.NotIn) = false := by cases op <;> first | rfl | exact absurd rfl h2
  cases b <;> simp [behindInMarks, e1, e2]
/-- a comparison as a value; hm: nomark b, or (for in, not in) by with_unfolding_all rfl -/
theorem pe_cmpR {op : CmpOp} {r : R2} (ho : OpR X (compareOp op) r) (ha : PE X a ta) (hb : PE X b tb) (hm : behindInMarks op b = false) : PE X (.Compare a [op] [b] pos) (tOp r ta tb) := by
  intro pins s σ H Q I h
  exact wpAny_Compare1 (binT ha hb I h fun v u s2 x y H2 I2 rx ry q => ho pins s2 σ H2 x y v u Q I2 rx ry q) hm
/-- a reading of a value as a test -/
inductive TestQ (Q : Bool → Hp → Prop) (x : V) (H' : Hp) : Prop
  | mk (k : Bool) : x = .bl k → Q k H' → TestQ Q x H'
def tTest (t : TE) : TT := fun σ H Q => t σ H (TestQ Q)
theorem pt_cmpR {op : CmpOp} {r : R2} (ho : OpR X (compareOp op) r) (ha : PE X a ta) (hb : PE X b tb) (hm : behindInMarks op b = false) : PT X (.Compare a [op] [b] pos) (tTest (tOp r ta tb)) := by
  intro pins s σ H Q I h
  refine wpAny_isTrue_Compare1 (thn (ha pins s σ H _ I h) fun v s1 ⟨x, H1, I1, r1, q1⟩ => thn (hb pins s1 σ H1 _ I1 q1) fun u s2 ⟨y, H2, I2, r2, q2⟩ =>
    thn (ho pins s2 σ H2 x y v u _ I2 r1 r2 q2) fun c s3 ⟨z, H3, I3, r3, k, e, q3⟩ => ?_) hm
  subst e
  cases r3
  exact wpAny_truthy_bool ⟨H3, I3, q3⟩
/-- a op1 b op2 c -/
def tChain (r r' : R2) (ta tb tc : TE) : TE := fun σ H Q => ta σ H fun x H1 => tb σ H1 fun y H2 => r x y H2 fun z H3 => ∃ k, z = .bl k ∧
  (if k = true then tc σ H3 fun w' H4 => r' y w' H4 Q else Q (.bl false) H3)
theorem pt_chain {op op' : CmpOp} {r r' : R2} (ho : OpR X (compareOp op) r) (ho' : OpR X (compareOp op') r') (ha : PE X a ta) (hb : PE X b tb) (hc : PE X c tc)
    (hm : lastMarks [op, op'] [b, c] = false := by with_unfolding_all rfl) : PT X (.Compare a [op, op'] [b, c] pos) (tTest (tChain r r' ta tb tc)) := by
  intro pins s σ H Q I h
  refine isTrue_chain (thn (ha pins s σ H _ I h) fun v s1 ⟨x, H1, I1, r1, q1⟩ => test_link (thn (hb pins s1 σ H1 _ I1 q1) fun u s2 ⟨y, H2, I2, r2, q2⟩ =>
    thn (ho pins s2 σ H2 x y v u _ I2 r1 r2 q2) fun d s3 ⟨z, H3, I3, r3, k, e, q3⟩ => ?_)) hm
  subst e
  cases r3
  refine wpAny_truthy_bool ?_
  cases k with
  | false =>
    obtain ⟨k', e', q'⟩ := q3
    cases e'
    exact ite_ff ⟨H3, I3, q'⟩
  | true =>
    refine ite_tt (test_last (thn (hc pins s3 σ H3 _ I3 q3) fun w' s4 ⟨z', H4, I4, r4, q4⟩ => thn (ho' pins s4 σ H4 y z' u w' _ I4 r2 r4 q4) fun d' s5 ⟨z2, H5, I5, r5, k2, e2, q5⟩ => ?_))
    subst e2
    cases r5
    exact wpAny_truthy_bool ⟨H5, I5, q5⟩

/-! ### truth -/
/-- a value's truth by the abstract heap -/
def TruV (K : PySem.W.Frag) (x : V) (H : Hp) (k : Bool) : Prop :=
  match x with
  | .non => k = false
  | .bl b => k = b
  | .int i => k = (i != 0)
  | .str y => y.length ≤ sizeLine ∧ k = ((y.length : Int) != 0)
  | .byt y => y.size ≤ sizeLine ∧ k = ((y.size : Int) != 0)
  | .ref p => (∃ xs, SqL K H p xs ∧ k = !xs.isEmpty) ∨ (∃ xs, SqT K H p xs ∧ k = !xs.isEmpty) ∨ ∃ kvs, H p = some (.dK kvs) ∧ k = !kvs.isEmpty
  | _ => False
theorem isEmpty_kv {κ : Type} {kvs : List (κ × V)} {vs : List (κ × Value)} (r : KV kvs vs) : (!vs.isEmpty) = !kvs.isEmpty := by
  cases r <;> rfl
theorem isEmpty_of {xs : List V} {its : List Value} (r : Vals xs its) : (!its.toArray.isEmpty) = !xs.isEmpty := by
  cases r <;> simp
theorem line63 : (sizeLine : Nat) < 2 ^ 63 := by rw [sizeLine_eq]; decide
theorem tru_ok : TruR X (fun x H Q => ∃ k, TruV X.K x H k ∧ Q k H) := by
  intro pins s σ H x v Q I rx h
  obtain ⟨k, e, q⟩ := h
  have hl := line63
  have hs : sizeLine = 16777216 := sizeLine_eq
  cases x with
  | non =>
    cases rx
    have e' : k = false := e
    subst e'
    exact truthy_none ⟨H, I, q⟩
  | bl b =>
    cases rx
    have e' : k = b := e
    subst e'
    exact wpAny_truthy_bool ⟨H, I, q⟩
  | int i =>
    obtain ⟨t, rfl⟩ := rx
    have e' : k = (i != 0) := e
    subst e'
    exact PySem.P.truthy_int ⟨H, I, q⟩
  | str y =>
    obtain ⟨t, rfl⟩ := rx
    obtain ⟨hy, e'⟩ : y.length ≤ sizeLine ∧ k = ((y.length : Int) != 0) := e
    subst e'
    exact PySem.P.truthy_str (by omega) ⟨H, I.tok _, q⟩
  | byt y =>
    obtain ⟨t, rfl⟩ := rx
    obtain ⟨hy, e'⟩ : y.size ≤ sizeLine ∧ k = ((y.size : Int) != 0) := e
    subst e'
    exact PySem.W.truthy_bytes (by omega) ⟨H, I.tok _, q⟩
  | ref p =>
    cases rx
    have e' : (∃ xs, SqL X.K H p xs ∧ k = !xs.isEmpty) ∨ (∃ xs, SqT X.K H p xs ∧ k = !xs.isEmpty) ∨ ∃ kvs, H p = some (.dK kvs) ∧ k = !kvs.isEmpty := e
    rcases e' with ⟨xs, hx, e'⟩ | ⟨xs, hx, e'⟩ | ⟨kvs, hx, e'⟩
    · subst e'
      obtain ⟨its, r, pl, hz⟩ := I.list hx
      have hlen := r.length
      exact wpAny_truthy_list pl.isList (by simp only [List.size_toArray]; omega) ⟨H, I.tok _, by rw [isEmpty_of r]; exact q⟩
    · subst e'
      obtain ⟨its, r, pl, hz⟩ := I.tuple hx
      have hlen := r.length
      exact truthy_tuple pl (by simp only [List.size_toArray]; omega) ⟨H, I.tok _, by rw [isEmpty_of r]; exact q⟩
    · subst e'
      obtain ⟨hz, hS, vs, r, m⟩ : kvs.length ≤ sizeLine ∧ (p == sysModules) = false ∧ ∃ vs, KV kvs vs ∧ s.heap.DictOf (mixKind X.prog X.w) p vs := I.hok p _ hx
      have hlen : kvs.length = vs.length := Paired.length r
      exact wpAny_truthy_dict hS m (by omega) ⟨H, I.tok _, by rw [isEmpty_kv r]; exact q⟩
  | _ => exact (show False from e).elim
/-- any expression whose test is its value's truth (a name, a call, a subscript, a field ..: he by fun _ => rfl) -/
theorem pt_truth (ha : PE X a ta) (he : ∀ whole, isTrue a X.env whole = (do let v ← whole; standAt a.pos; holding [v] (truthy v))) :
    PT X a (fun σ H Q => ta σ H fun x H' => ∃ k, TruV X.K x H' k ∧ Q k H') := by
  intro pins s σ H Q I h
  exact isTrue_plain (thn (ha pins s σ H _ I h) fun v s1 ⟨x, H1, I1, r1, q1⟩ => tru_ok pins s1 σ H1 x v Q I1 r1 q1) (he _)

/-! ### strs and bytes -/

/-! ### scalar builtins, by CallR -/
theorem vals1 {x : V} {us : List Value} (r : Vals [x] us) : ∃ u, us = [u] ∧ RelV x u := by
  cases r with
  | cons r1 r2 => cases r2; exact ⟨_, rfl, r1⟩
theorem vals2 {x y : V} {us : List Value} (r : Vals [x, y] us) : ∃ u w', us = [u, w'] ∧ RelV x u ∧ RelV y w' := by
  cases r with
  | cons r1 r2 =>
    cases r2 with
    | cons r3 r4 => cases r4; exact ⟨_, _, rfl, r1, r3⟩
theorem call_max2 (hc : X.calm = true) : CallR X (.builtin "max") (fun xs H Q => ∃ i j, xs = [.int i, .int j] ∧ Q (.int (if j > i then j else i)) H) := by
  intro pins s σ H xs us Q I r h
  obtain ⟨i, j, rfl, q⟩ := h
  obtain ⟨u, w', rfl, ⟨t, rfl⟩, ⟨t', rfl⟩⟩ := vals2 r
  refine max_two_ints (I.ok.hd hc) fun h' tk k => ⟨_, H, I.kept k, ?_, q⟩
  by_cases hj : j > i
  · rw [if_pos hj, if_pos hj]; exact ⟨_, rfl⟩
  · rw [if_neg hj, if_neg hj]; exact ⟨_, rfl⟩
theorem call_min2 (hc : X.calm = true) : CallR X (.builtin "min") (fun xs H Q => ∃ i j, xs = [.int i, .int j] ∧ Q (.int (if j < i then j else i)) H) := by
  intro pins s σ H xs us Q I r h
  obtain ⟨i, j, rfl, q⟩ := h
  obtain ⟨u, w', rfl, ⟨t, rfl⟩, ⟨t', rfl⟩⟩ := vals2 r
  refine min_two_ints (I.ok.hd hc) fun h' tk k => ⟨_, H, I.kept k, ?_, q⟩
  by_cases hj : j < i
  · rw [if_pos hj, if_pos hj]; exact ⟨_, rfl⟩
  · rw [if_neg hj, if_neg hj]; exact ⟨_, rfl⟩
end
end L2

namespace L2
open PySem PySem.Spec PyProof.Rows

/-! ### an instance, its attributes a map -/
structure ObjM (h : Heap) (x dx C : Addr) (mA : Str → Option Value) : Prop where
  obj : h.get? x = some (PySem.W.instObj C dx)
  ns : h.Ns1 dx mA
  ne : dx ≠ x

theorem lookIn_ns {h : Heap} {dx : Addr} {mA : Str → Option Value} (n : h.Ns1 dx mA) : ∃ od, h.get? dx = some od ∧ ∀ name, PySem.W.lookIn name od = some (mA name) := by
  obtain ⟨o, es, ep, ho, hd, hk, _, hm⟩ := n
  refine ⟨o, ho, fun name => ?_⟩
  have e := hm name
  unfold nsFind findBy at e
  rw [← Array.find?_toList] at e
  unfold PySem.W.lookIn
  rw [hd]
  dsimp only
  split
  · rename_i y q
    rw [q] at e
    exact congrArg some e
  · rename_i q
    rw [q] at e
    have a : es.toList.any (·.refKey) = false := by
      rw [List.any_eq_false]
      intro y hy
      obtain ⟨z, t, hkey⟩ := hk y (Array.mem_toList_iff.mp hy)
      simp [DictEntry.refKey, hkey]
    have a' : ¬ es.toList.any (·.refKey) = true := by rw [a]; exact Bool.false_ne_true
    rw [if_neg a']
    exact congrArg some e

theorem ObjM.look {h : Heap} {x dx C : Addr} {mA : Str → Option Value} (I : ObjM h x dx C mA) : ∃ od, PySem.W.InstAt h x (PySem.W.instObj C dx) C (some od) ∧ ∀ name, PySem.W.lookIn name od = some (mA name) :=
  let ⟨od, ho, hl⟩ := lookIn_ns I.ns
  ⟨od, ⟨I.obj, rfl, rfl, ho⟩, hl⟩

section
variable {prog : Program} {w : World} {A : Around} {E : Value → Shared → Prop} {s : Shared} {K : PySem.W.Frag} {x dx C f : Addr} {mA : Str → Option Value} {name : Str} {v : Value}

theorem get_map {expr : Bool} {Q : Value → Shared → Prop} (X : K.In s.heap) (I : ObjM s.heap x dx C mA) (hg : PySem.W.plainGet K C name = true) (hh : PySem.W.hasDictIn K C = true)
    (ha : PySem.W.findIn K (.ref C) name = some none) (hv : mA name = some v) (hv' : PySem.W.handedIn v = true) (h : Q v { s with toks := s.toks + 1 }) :
    wpAny (model prog w) A (getAttr (.ref x) name expr) Q E s := by
  obtain ⟨od, J, hl⟩ := I.look
  exact PySem.W.get_value X J (PySem.W.plainGet_of hg).1 (PySem.W.findObj_own hh ha rfl (by rw [hl, hv])) hv' h

theorem get_meth {pl : Sem Bool} {Q : Value × List Value → Shared → Prop} (X : K.In s.heap) (I : ObjM s.heap x dx C mA) (hg : PySem.W.plainGet K C name = true)
    (hf : PySem.W.findIn K (.ref C) name = some (some (.ref f))) (ht : PySem.W.isFn K (.ref f) = true) (hv : mA name = none) (h : Q (.ref f, [.ref x]) s) :
    wpAny (model prog w) A (getMethod (.ref x) name pl) Q E s := by
  obtain ⟨od, J, hl⟩ := I.look
  exact PySem.W.method_fn X J (PySem.W.plainGet_of hg).1 (PySem.W.plainGet_of hg).2 hf (beq_iff_eq.mp ht) (by show (PySem.W.lookIn name od).map (·.isSome) = some false; rw [hl, hv]; rfl) h

theorem set_map {ns : List Str} {Q : Unit → Shared → Prop} (X : K.In s.heap) (I : ObjM s.heap x dx C mA)
    (hs : PySem.W.findIn K (.ref C) "__setattr__" = some (some (.builtin "object.__setattr__"))) (hp : PySem.W.plainOver K C = true) (ht : PySem.W.takerIn K C name = some none) (hh : PySem.W.hasDictIn K C = true)
    (hw : PySem.Within mA ns) (hsz : ns.length ≤ sizeLine)
    (h : ∀ h', ObjM h' x dx C (fun y => if y = name then some v else mA y) → Heap.SameBut dx s.heap h' → Q () { s with heap := h', toks := s.toks + 2 }) :
    wpAny (model prog w) A (setAttr (.ref x) name v) Q E s := by
  obtain ⟨od, J, hl⟩ := I.look
  refine PySem.W.set_plain X J hs (PySem.W.osa_open (s := { s with toks := s.toks + 1 }) (r := none) X J hp ht fun b => ?_)
  obtain ⟨cd, hc, hd'⟩ := PySem.W.any_some hh
  have hx : s.heap.get? x = some ⟨.ref C, some dx, .plain, #[]⟩ := I.obj
  refine wpAny_bind (wpAny_pure (wpAny_bind (wpAny_bind (wpAny_loadPart hx (wpAny_bind (PySem.W.Looks.here (s := { s with toks := s.toks + 1 }) (PySem.W.looks_clsIn X hc) ?_))))))
  rw [hd']
  refine wpAny_pure (a := some dx) (wpAny_bind (wpAny_pure (wpAny_bind ?_)))
  refine wpAny_nsSet1 (s := { s with toks := s.toks + 1 }) I.ns fun h' hn2 hs2 => ?_
  obtain ⟨oD, esD, epD, hoD, hdD, hcD⟩ := hn2.count (PySem.Within.cons name v hw)
  refine wpAny_bind (wpAny_lookBehind hoD (by rw [hdD]; exact pastItsLine_dict (Nat.le_trans hcD (by rw [List.length_cons]; omega))) ?_)
  exact wpAny_pure (h _ ⟨(hs2.2 _ (Ne.symm I.ne)).trans I.obj, hn2, I.ne⟩ hs2)

/-- C(..): the dict at the heap's end, the instance behind it; then its __init__ -/
theorem make_map {R : Result → Shared → Prop} {vs : List Value} {kw : List (Str × Value)} (X : K.In s.heap) (hm : PySem.W.makesIn K C = true)
    (hi : PySem.W.findIn K (.ref C) "__init__" = some (some (.ref f))) (hf : PySem.W.typeIn K (.ref f) = some (.type "function"))
    (h : codeAny (model prog w) (A.under (.builtin "type.__call__" ⟨.ref C :: vs, kw⟩)) (.call (.ref f) ⟨.ref (s.heap.objs.size + 1) :: vs, kw⟩) (PySem.W.InitBack (s.heap.objs.size + 1) R)
      { s with heap := (s.heap.push PySem.W.emptyDict).push (PySem.W.instObj C s.heap.objs.size) }) :
    codeAny (model prog w) A (.call (.ref C) ⟨vs, kw⟩) R s := by
  obtain ⟨hh, g, d, t, os⟩ := s
  exact PySem.W.make_core (PySem.W.makes_of X hm) (PySem.W.looks_findIn X hi) (fun self => PySem.W.bind_fn X self hf) (.inl rfl) h
end

/-! ### the attributes as a list of pairs -/
def putF (f : Str) (v : V) : List (Str × V) → List (Str × V)
  | [] => [(f, v)]
  | (g, x) :: r => if g = f then (g, v) :: r else (g, x) :: putF f v r
theorem lookup_putF (f g : Str) (v : V) : ∀ fs : List (Str × V), (putF f v fs).lookup g = if g = f then some v else fs.lookup g
  | [] => by
    show List.lookup g [(f, v)] = _
    by_cases h : g = f
    · have hb : (g == f) = true := beq_iff_eq.mpr h
      simp only [List.lookup, hb, if_pos h]
    · have hb : (g == f) = false := beq_eq_false_iff_ne.mpr h
      simp only [List.lookup, hb, if_neg h]
  | (k, x) :: r => by
    have ih := lookup_putF f g v r
    rw [show putF f v ((k, x) :: r) = (if k = f then (k, v) :: r else (k, x) :: putF f v r) from rfl]
    by_cases hk : k = f
    · rw [if_pos hk]
      by_cases h : g = k
      · have hb : (g == k) = true := beq_iff_eq.mpr h
        simp only [List.lookup, hb, if_pos (h.trans hk)]
      · have hb : (g == k) = false := beq_eq_false_iff_ne.mpr h
        simp only [List.lookup, hb, if_neg (fun e : g = f => h (e.trans hk.symm))]
    · rw [if_neg hk]
      by_cases h : g = k
      · have hb : (g == k) = true := beq_iff_eq.mpr h
        simp only [List.lookup, hb, if_neg (fun e : g = f => hk (h.symm.trans e))]
      · have hb : (g == k) = false := beq_eq_false_iff_ne.mpr h
        simp only [List.lookup, hb]
        exact ih
theorem keys_putF (f : Str) (v : V) : ∀ fs : List (Str × V), f ∈ (putF f v fs).map (·.1) ∧ ∀ g, g ∈ fs.map (·.1) → g ∈ (putF f v fs).map (·.1)
  | [] => ⟨by simp [putF], fun g h => by simp at h⟩
  | (k, x) :: r => by
    obtain ⟨i1, i2⟩ := keys_putF f v r
    rw [show putF f v ((k, x) :: r) = (if k = f then (k, v) :: r else (k, x) :: putF f v r) from rfl]
    by_cases hk : k = f
    · rw [if_pos hk]
      subst hk
      exact ⟨by simp, fun g h => by simpa using h⟩
    · rw [if_neg hk]
      refine ⟨?_, fun g h => ?_⟩
      · rw [List.map_cons]
        exact List.mem_cons_of_mem _ i1
      · rw [List.map_cons] at h ⊢
        rcases List.mem_cons.mp h with e | e
        · exact List.mem_cons.mpr (.inl e)
        · exact List.mem_cons_of_mem _ (i2 g e)
theorem length_putF (f : Str) (v : V) : ∀ fs : List (Str × V), (putF f v fs).length ≤ fs.length + 1
  | [] => by simp [putF]
  | (k, x) :: r => by
    have ih := length_putF f v r
    rw [show putF f v ((k, x) :: r) = (if k = f then (k, v) :: r else (k, x) :: putF f v r) from rfl]
    by_cases hk : k = f
    · rw [if_pos hk, List.length_cons, List.length_cons]; omega
    · rw [if_neg hk, List.length_cons, List.length_cons]; omega

theorem RelO.some_of {v : V} {o : Option Value} (r : RelO (some v) o) : ∃ u, o = some u ∧ RelV v u := by
  cases o with
  | none => exact (show False from r).elim
  | some u => exact ⟨u, rfl, r⟩
theorem RelO.none_of {o : Option Value} (r : RelO none o) : o = none := by
  cases o with
  | none => rfl
  | some u => exact (show False from r).elim
theorem handed_of {v : V} {u : Value} (r : RelV v u) : PySem.W.handedIn u = true := by
  cases v with
  | non => cases (show u = Value.none from r); rfl
  | bl b => cases (show u = Value.bool b from r); rfl
  | int i => obtain ⟨t, e⟩ := (show ∃ t, u = Value.int i t from r); cases e; rfl
  | str x => obtain ⟨t, e⟩ := (show ∃ t, u = Value.str x t from r); cases e; rfl
  | byt b => obtain ⟨t, e⟩ := (show ∃ t, u = Value.bytes b t from r); cases e; rfl
  | flt b => obtain ⟨t, e⟩ := (show ∃ t, u = Value.float b t from r); cases e; rfl
  | ref a => cases (show u = Value.ref a from r); rfl
  | ty n => cases (show u = Value.type n from r); rfl

section
variable {P : Program} {w : World} {H H' : Hp} {h h' : Heap} {a C dx : Addr} {fs fs' : List (Str × V)}
theorem ins_get (hok : HOk P w H h) (e : H a = some (.ins C dx fs)) : ∃ mA, ObjM h a dx C mA ∧ (∀ f, RelO (fs.lookup f) (mA f)) ∧ PySem.Within mA (fs.map (·.1)) ∧ fs.length ≤ 1000 ∧ H dx = some (.own a) := by
  obtain ⟨d, z, ne, ob, mA, n, r, q⟩ := (show ObjOk P w H h a (.ins C dx fs) from hok a _ e)
  exact ⟨mA, ⟨ob, n, ne⟩, r, q, z, d⟩
end

/-! ### what of the text a class must have -/
structure Cls (K : PySem.W.Frag) (C : Addr) : Prop where
  pg : PySem.W.plainGet K C Str.empty = true
  hd : PySem.W.hasDictIn K C = true
  po : PySem.W.plainOver K C = true
  sa : PySem.W.findIn K (.ref C) "__setattr__" = some (some (.builtin "object.__setattr__"))
theorem Cls.get {K : PySem.W.Frag} {C : Addr} (c : Cls K C) (f : Str) : PySem.W.plainGet K C f = true := c.pg
/-- no class of it has the name -/
def NoAttr (K : PySem.W.Frag) (C : Addr) (f : Str) : Prop := PySem.W.findIn K (.ref C) f = some none
theorem NoAttr.taker {K : PySem.W.Frag} {C : Addr} {f : Str} (n : NoAttr K C f) : PySem.W.takerIn K C f = some none := by
  unfold PySem.W.takerIn
  rw [show PySem.W.findIn K (.ref C) f = some none from n]
  rfl
/-- a method: a plain def of the class or of one above it -/
structure Meth (K : PySem.W.Frag) (C : Addr) (m : Str) (f : Addr) : Prop where
  at_ : PySem.W.findIn K (.ref C) m = some (some (.ref f))
  fn : PySem.W.isFn K (.ref f) = true
  kp : PySem.W.keepIn K (.ref f) = true

section
variable {X : Cx} {pins : List (Addr × Obj)} {σ : St} {H : Hp} {s : Shared} {a C dx : Addr} {fs : List (Str × V)} {f : Str} {v : V} {A : Around} {E : Value → Shared → Prop}

theorem getattr_ok {b : Bool} {Q : Value → Shared → Prop} (I : Inv X pins σ H s) (e : H a = some (.ins C dx fs)) (c : Cls X.K C) (n : NoAttr X.K C f) (l : fs.lookup f = some v)
    (h : ∀ u s', Inv X pins σ H s' → RelV v u → Q u s') : wpAny (model X.prog X.w) A (getAttr (.ref a) f b) Q E s := by
  obtain ⟨mA, O, r, _, _, _⟩ := ins_get I.hok e
  obtain ⟨u, hu, ru⟩ := RelO.some_of (v := v) (o := mA f) (by rw [← l]; exact r f)
  exact get_map I.kIn O (c.get f) c.hd n hu (handed_of ru) (h u _ (I.tok _) ru)

theorem getmeth_ok {m : Str} {g : Addr} {pl : Sem Bool} {Q : Value × List Value → Shared → Prop} (I : Inv X pins σ H s) (e : H a = some (.ins C dx fs)) (c : Cls X.K C) (k : Meth X.K C m g) (l : fs.lookup m = none)
    (h : Q (.ref g, [.ref a]) s) : wpAny (model X.prog X.w) A (getMethod (.ref a) m pl) Q E s := by
  obtain ⟨mA, O, r, _, _, _⟩ := ins_get I.hok e
  have hn : mA m = none := RelO.none_of (by rw [← l]; exact r m)
  exact get_meth I.kIn O (c.get m) k.at_ k.fn hn h

theorem setattr_ok {y : V} {u : Value} {Q : Unit → Shared → Prop} (I : Inv X pins σ H s) (e : H a = some (.ins C dx fs)) (c : Cls X.K C) (n : NoAttr X.K C f) (hl : fs.length < 1000) (ry : RelV y u)
    (h : ∀ s', Inv X pins σ (upd H a (.ins C dx (putF f y fs))) s' → Q () s') : wpAny (model X.prog X.w) A (setAttr (.ref a) f u) Q E s := by
  obtain ⟨mA, O, r, wi, _, ho⟩ := ins_get I.hok e
  have hz : (fs.map (·.1)).length ≤ sizeLine := by rw [List.length_map, sizeLine_eq]; omega
  refine set_map I.kIn O c.sa c.po n.taker c.hd wi hz fun h' O' sb => h _ ?_
  have hd : ∃ o, h'.get? dx = some o := let ⟨o, _, _, e', _⟩ := O'.ns; ⟨o, e'⟩
  refine I.write (x := a) (e := dx) (by rw [e]; exact True.intro) (.inr ho) (fun b q hb z => (sb.2 b hb).trans z) hd ?_
  refine ⟨by rw [upd_ne O.ne]; exact ho, ?_, O.ne, O'.obj, _, O'.ns, fun g => ?_, fun g hg => ?_⟩
  · have := length_putF f y fs; omega
  · show RelO ((putF f y fs).lookup g) (if g = f then some u else mA g)
    rw [lookup_putF]
    by_cases q : g = f
    · rw [if_pos q, if_pos q]; exact ry
    · rw [if_neg q, if_neg q]; exact r g
  · by_cases q : g = f
    · rw [q]; exact (keys_putF f y fs).1
    · refine (keys_putF f y fs).2 g (wi g fun z => hg ?_)
      show (if g = f then some u else mA g) = none
      rw [if_neg q]; exact z

/-- a new instance, tracked, without attributes -/
theorem Inv.made (I : Inv X pins σ H s) : Inv X pins σ (upd (upd H s.heap.objs.size (.own (s.heap.objs.size + 1))) (s.heap.objs.size + 1) (.ins C s.heap.objs.size []))
    { s with heap := (s.heap.push PySem.W.emptyDict).push (PySem.W.instObj C s.heap.objs.size) } := by
  have e1 : (s.heap.push PySem.W.emptyDict).get? s.heap.objs.size = some PySem.W.emptyDict := Heap.get?_push_size s.heap rfl
  have e2 : ((s.heap.push PySem.W.emptyDict).push (PySem.W.instObj C s.heap.objs.size)).get? (s.heap.objs.size + 1) = some (PySem.W.instObj C s.heap.objs.size) := by
    have := Heap.get?_push_size (s.heap.push PySem.W.emptyDict) (o := PySem.W.instObj C s.heap.objs.size) rfl
    rwa [Heap.size_push] at this
  have e3 : (s.heap.push PySem.W.emptyDict).Ns s.heap.objs.size (fun _ => none) := ⟨PySem.W.emptyDict, #[], _, e1, rfl, (fun e he => absurd he (by simp)), fun _ => rfl⟩
  have I1 := I.laid (a := s.heap.objs.size) (o := .own (s.heap.objs.size + 1)) (h' := s.heap.push PySem.W.emptyDict) (t' := s.toks) (fun b u q => Heap.get?_push_of_some _ q) (Nat.le_refl _) ⟨_, e1⟩
  refine I1.laid (a := s.heap.objs.size + 1) (o := .ins C s.heap.objs.size []) (t' := s.toks) (fun b u q => Heap.get?_push_of_some _ q) (Nat.le_of_eq (Heap.size_push _ _)) ?_
  have ne : s.heap.objs.size ≠ s.heap.objs.size + 1 := Nat.ne_of_lt (Nat.lt_succ_self _)
  refine ⟨by rw [upd_ne ne, upd_same], Nat.zero_le _, ne, e2, fun _ => none, (Heap.Ns1.of_empty e3).at fun o q => Heap.get?_push_of_some _ q, fun _ => True.intro, fun y hy => absurd rfl hy⟩

/-- e.f where nothing but the object is asked: through attributeBase (super) and the last hold -/
theorem attr_of {prog : Program} {w : World} {env : Env} {e : Expr} {f : Str} {pos : Pos} {s : Shared} {Q : Value → Shared → Prop} (hb : attributeBase e f env (eval e env) = eval e env)
    (h : wpAny (model prog w) A (eval e env) (fun o s₁ => wpAny (model prog w) A (getAttr o f true) Q E s₁) E s) : wpAny (model prog w) A (eval (.Attribute e f pos) env) Q E s :=
  Attribute_any_ h (by rw [arm_eval_Attribute, hb])
end

/-! ### readings and rules -/
/-- e.f, an attribute of the instance -/
inductive FldQ (K : PySem.W.Frag) (f : Str) (Q : VK) (x : V) (H1 : Hp) : Prop
  | mk (a C dx : Addr) (fs : List (Str × V)) (v : V) : x = .ref a → H1 a = some (.ins C dx fs) → Cls K C → NoAttr K C f → fs.lookup f = some v → Q v H1 → FldQ K f Q x H1
def tFld (K : PySem.W.Frag) (ta : TE) (f : Str) : TE := fun σ H Q => ta σ H (FldQ K f Q)
/-- e.f = value -/
inductive SFldQ (K : PySem.W.Frag) (f : Str) (y : V) (N : Hp → Prop) (x : V) (H2 : Hp) : Prop
  | mk (a C dx : Addr) (fs : List (Str × V)) : x = .ref a → H2 a = some (.ins C dx fs) → Cls K C → NoAttr K C f → fs.length < 1000 → N (upd H2 a (.ins C dx (putF f y fs))) → SFldQ K f y N x H2
def sFld (K : PySem.W.Frag) (ta tv : TE) (f : Str) : TS := fun D σ H => tv σ H fun y H1 => ta σ H1 (SFldQ K f y (D.nx σ))
/-- an augmented operator on two values -/
def InOp (X : Cx) (op : Operator) (rd : V → V → Hp → VK → Prop) : Prop :=
  ∀ (pins : List (Addr × Obj)) (s : Shared) (σ : St) (H : Hp) (x y : V) (u v : Value) (Q : VK), Inv X pins σ H s → RelV x u → RelV y v → rd x y H Q → wpAny (model X.prog X.w) X.A (inplaceOp op u v) (EP X pins σ Q) X.xe s
/-- e.f op= value -/
def sFldAug (K : PySem.W.Frag) (ta tv : TE) (rd : V → V → Hp → VK → Prop) (f : Str) : TS := fun D σ H => ta σ H fun x H1 => ∃ a C dx fs v, x = .ref a ∧ H1 a = some (.ins C dx fs) ∧ Cls K C ∧ NoAttr K C f ∧ fs.lookup f = some v ∧
  tv σ H1 fun y H2 => rd v y H2 fun z H3 => ∃ dx' fs', H3 a = some (.ins C dx' fs') ∧ fs'.length < 1000 ∧ D.nx σ (upd H3 a (.ins C dx' (putF f z fs')))

section
variable {X : Cx} {o e value : Expr} {f : Str} {pos pos' tpos : Pos} {ta tv : TE}
theorem pe_fld (he : PE X e ta) (hb : attributeBase e f X.env (eval e X.env) = eval e X.env) : PE X (.Attribute e f pos) (tFld X.K ta f) := by
  intro pins s σ H Q I h
  refine attr_of hb (thn (he pins s σ H _ I h) fun u s1 ⟨x, H1, I1, rx, a, C, dx, fs, v, ex, ea, c, n, l, q⟩ => ?_)
  subst ex
  obtain rfl : u = Value.ref a := rx
  exact getattr_ok I1 ea c n l fun u' s2 I2 ru => ⟨v, H1, I2, ru, q⟩
theorem ps_fld (ha : PE X o ta) (hv : PE X value tv) (hs : swapsWith value (some (.Attribute o f pos')) pos.line X.env = pure false) : PS X (.Assign [.Attribute o f pos'] value pos) (sFld X.K ta tv f) := by
  intro pins s σ H D I h
  refine plainObj_wpAny_Assign_Attribute (thn (hv pins s σ H _ I h) fun u s1 ⟨y, H1, I1, ry, q⟩ => thn (ha pins s1 σ H1 _ I1 q) fun ov s2 ⟨x, H2, I2, rx, a, C, dx, fs, ex, ea, c, n, l, q2⟩ => ?_) hs
  subst ex
  obtain rfl : ov = Value.ref a := rx
  exact setattr_ok I2 ea c n l ry fun s3 I3 => ⟨σ, _, I3, q2⟩
theorem ps_fldaug {op : Operator} {rd : V → V → Hp → VK → Prop} (ha : PE X o ta) (hv : PE X value tv) (hop : InOp X op rd) : PS X (.AugAssign (.Attribute o f tpos) op value pos) (sFldAug X.K ta tv rd f) := by
  intro pins s σ H D I h
  refine wpAny_AugAssign_AttributeAny (thn (ha pins s σ H _ I h) fun ov s1 ⟨x, H1, I1, rx, a, C, dx, fs, v, ex, ea, c, n, l, q⟩ => ?_)
  subst ex
  obtain rfl : ov = Value.ref a := rx
  refine getattr_ok I1 ea c n l fun u s2 I2 ru => thn (hv pins s2 σ H1 _ I2 q) fun w3 s3 ⟨y, H2, I3, ry, q3⟩ => thn (hop pins s3 σ H2 v y u w3 _ I3 ru ry q3) fun w4 s4 ⟨z, H3, I4, rz, dx', fs', ea', l', q4⟩ => ?_
  exact setattr_ok I4 ea' c n l' rz fun s5 I5 => ⟨σ, _, I5, q4⟩
inductive rAdd  (x : V) (y : V) (H : Hp) (Q : VK) : Prop
  | mk i j : (x = .int i) → (y = .int j) → (Q (.int (i + j)) H) → rAdd  x y H Q
theorem in_add : InOp X .Add rAdd := by
  rintro pins s σ H x y u v Q I rx ry ⟨i, j, rfl, rfl, q⟩
  obtain ⟨t, rfl⟩ := (show ∃ t, u = Value.int i t from rx)
  obtain ⟨t', rfl⟩ := (show ∃ t', v = Value.int j t' from ry)
  exact PyProof.Rows.iadd_int ⟨.int (i + j), H, I.tok _, ⟨_, rfl⟩, q⟩

/-- what is between an instance and its method: the tree of a method call -/
theorem methcall_of {pl : Sem Bool} {m : Str} {apos : Pos} {args : List Expr} {pins : List (Addr × Obj)} {s : Shared} {σ : St} {H : Hp} {Q : Value → Shared → Prop} {te : TE} (he : PE X e te) (I : Inv X pins σ H s)
    (h : te σ H fun x H1 => ∃ a C dx fs g, x = .ref a ∧ H1 a = some (.ins C dx fs) ∧ Cls X.K C ∧ Meth X.K C m g ∧ fs.lookup m = none ∧
      ∀ s1, Inv X pins σ H1 s1 → wpAny (model X.prog X.w) X.A (callWith pos (.ref g) [.ref a] (backTo pos (starEach args X.env)) (backToKw pos (keywordEach [] X.env))) Q X.xe s1)
    (ht : eval (.Call (.Attribute e m apos) args [] pos) X.env = (do
      let ov ← eval e X.env
      standAt apos.atName
      let (f, first) ← holding [ov] (getMethod ov m pl)
      callWith pos f first (backTo pos (starEach args X.env)) (backToKw pos (keywordEach [] X.env)))) :
    wpAny (model X.prog X.w) X.A (eval (.Call (.Attribute e m apos) args [] pos) X.env) Q X.xe s := by
  refine PySem.W.methodCall_KW (pl := pl) (thn (he pins s σ H _ I h) fun u s1 ⟨x, H1, I1, rx, a, C, dx, fs, g, ex, ea, c, k, l, q⟩ => ?_) ht
  subst ex
  obtain rfl : u = Value.ref a := rx
  exact getmeth_ok I1 ea c k l (q s1 I1)
end

/-! ### isinstance -/
end L2

namespace L2
open PySem PySem.Spec PyProof.Rows

/-! ### room -/
structure Room (k : Nat) (A : Around) : Prop where
  hd : A.handled = none
  dp : A.depth + 3 * k + 5 < recursionLimit
  un : A.units + 16 * k + 200 < cLine
theorem Room.mono {j k : Nat} {A : Around} (r : Room k A) (h : j ≤ k) : Room j A := ⟨r.hd, by have := r.dp; omega, by have := r.un; omega⟩
theorem Room.deeper {k : Nat} {A : Around} (r : Room (k + 1) A) (env : Env) : Room k (A.deeper env) :=
  ⟨r.hd, by have := r.dp; show A.depth + 1 + 3 * k + 5 < _; omega, by have := r.un; show A.units + 3 + 16 * k + 200 < _; omega⟩
theorem make_depth {A : Around} {C : Addr} {us : List Value} {kw : List (Str × Value)} : (A.under (.builtin "type.__call__" ⟨.ref C :: us, kw⟩)).depth = A.depth + 1 := by
  first | rfl | simp [Around.under, Code.weight, Code.isCreation, Code.isGuard, Code.isCaller, Code.frames, Code.isFrame, guardIds]
theorem make_units {A : Around} {C : Addr} {us : List Value} {kw : List (Str × Value)} : (A.under (.builtin "type.__call__" ⟨.ref C :: us, kw⟩)).units = A.units + 1 := by
  first | rfl | simp [Around.under, Code.cUnits, Code.frames, Code.isFrame]
theorem Room.make {k : Nat} {A : Around} (r : Room (k + 1) A) (C : Addr) (us : List Value) (kw : List (Str × Value)) : Room k (A.under (.builtin "type.__call__" ⟨.ref C :: us, kw⟩)) :=
  ⟨r.hd, by have := r.dp; rw [make_depth]; omega, by have := r.un; rw [make_units]; omega⟩
theorem Room.depth {k : Nat} {A : Around} (r : Room k A) : A.depth < recursionLimit := by have := r.dp; omega

/-! ### argument lists and displays -/
def tNil : TA := fun _ H Q => Q [] H
def tCons (ta : TE) (tr : TA) : TA := fun σ H Q => ta σ H fun x H1 => tr σ H1 fun xs H2 => Q (x :: xs) H2
section
variable {X : Cx} {e : Expr} {es : List Expr} {te : TE} {t : TA} {pos : Pos}
theorem pa_nil : PA X [] tNil := fun _ _ _ _ H Q I h => Calls.spliced_nil ⟨[], H, I, .nil, h⟩
theorem pa_cons (ha : PE X e te) (hr : PA X es t) (hs : starEach (e :: es) X.env = (false, eval e X.env) :: starEach es X.env := by rfl) : PA X (e :: es) (tCons te t) := by
  intro pos pins s σ H Q I h
  rw [hs]
  show wpAny _ _ (spliced ((false, eval e X.env) :: backTo pos (starEach es X.env))) _ _ s
  refine Calls.spliced_cons (thn (ha pins s σ H _ I h) fun u s1 ⟨x, H1, I1, r1, q1⟩ => ?_)
  exact thn (hr pos pins s1 σ H1 _ I1 q1) fun us s2 ⟨xs, H2, I2, r2, q2⟩ => ⟨x :: xs, H2, I2, .cons r1 r2, q2⟩

/-- a tuple, a list of written items -/
def tTup (t : TA) : TE := fun σ H Q => t σ H fun xs H1 => xs.length ≤ sizeLine ∧ ∀ p, H1 p = none → Q (.ref p) (upd H1 p (.tup xs))
def tLst (t : TA) : TE := fun σ H Q => t σ H fun xs H1 => xs.length ≤ sizeLine ∧ ∀ p, H1 p = none → Q (.ref p) (upd H1 p (.lst xs))
theorem pe_tup {x1} (h : PA X es t) : PE X (.Tuple es x1 pos) (tTup t) := by
  intro pins s σ H Q I hq
  refine wpAny_Tuple_spliced (thn (h pos pins s σ H _ I hq) fun us s1 ⟨xs, H1, I1, r, z, q⟩ => ⟨by rw [← r.length]; exact z, ?_⟩)
  have hf : H1 s1.heap.objs.size = none := I1.hok.fresh (Nat.le_refl _)
  refine ⟨.ref s1.heap.objs.size, upd H1 s1.heap.objs.size (.tup xs), I1.laid (t' := s1.toks) (fun b u e => Heap.get?_push_of_some _ e) (Nat.le_refl _) ?_, rfl, q _ hf⟩
  exact ⟨z, us, r, ⟨_, Heap.get?_push_size _ rfl, rfl, _, rfl⟩⟩
theorem pe_lst (h : PA X es t) : PE X (.List es pos) (tLst t) := by
  intro pins s σ H Q I hq
  refine wpAny_List_spliced (thn (h pos pins s σ H _ I hq) fun us s1 ⟨xs, H1, I1, r, z, q⟩ => ⟨by rw [← r.length]; exact z, ?_⟩)
  have hf : H1 s1.heap.objs.size = none := I1.hok.fresh (Nat.le_refl _)
  refine ⟨.ref s1.heap.objs.size, upd H1 s1.heap.objs.size (.lst xs), I1.laid (t' := s1.toks) (fun b u e => Heap.get?_push_of_some _ e) (Nat.le_refl _) ?_, rfl, q _ hf⟩
  exact ⟨z, us, 0, r, Heap.get?_push_size _ rfl⟩
end

/-! ### what a def promises -/
/-- a def's promise: the bound arguments in the parameters' order, the heap, the wanted end, the wanted exception -/
abbrev Sp := List V → Hp → VK → XK → Prop
/-- how an exception lies behind a call (file 08 gives it): the callers' frames, abstract heap and state ahead of the call, the wish, the exception, the state -/
abbrev CXT := List Env → Hp → Shared → XK → Value → Shared → Prop

/-- the state at a call -/
structure Env0 (P : Program) (w : World) (K : PySem.W.Frag) (mg : Str → Option Value) (base : Heap) (A : Around) (outer : List Env) (s : Shared) (H : Hp) : Prop where
  frames : A.frames = some outer
  mod : Mod K mg base
  bs : ∀ b o, base.get? b = some o → s.heap.get? b = some o ∧ H b = none
  bsz : base.objs.size ≤ s.heap.objs.size
  funs : s.heap.FunFrames base outer
  frf : ∀ b ∈ frs outer, H b = none
  hok : HOk P w H s.heap
  bare : AllBare s.gens
/-- a call's end -/
def CE (outer : List Env) (P : Program) (w : World) (H : Hp) (s : Shared) (Q : VK) (u : Value) (s' : Shared) : Prop :=
  ∃ v H', s'.os = s.os ∧ AllBare s'.gens ∧ Un (frs outer) [] H H' s.heap s'.heap ∧ HOk P w H' s'.heap ∧ RelV v u ∧ Q v H'
def CR (CX : CXT) (outer : List Env) (P : Program) (w : World) (H : Hp) (s : Shared) (Q : VK) (E : XK) (r : Result) (s' : Shared) : Prop :=
  match r with
  | .ok (.ret u) => CE outer P w H s Q u s'
  | .ok _ => False
  | .error e => CX outer H s E e s'
structure FnOk (P : Program) (w : World) (K : PySem.W.Frag) (mg : Str → Option Value) (base : Heap) (CX : CXT) (k : Nat) (f : Addr) (fd : FuncData) (ps : List Str) (sp : Sp) : Prop where
  len : ∀ vs H Q E, sp vs H Q E → vs.length = ps.length
  run : ∀ (A : Around) (outer : List Env) (s : Shared) (H : Hp) (args : Args) (us : List Value) (vs : List V) (Q : VK) (E : XK), Room k A → Env0 P w K mg base A outer s H → BindsTo s fd args (ps.zip us) → Vals vs us → sp vs H Q E →
    codeAny (model P w) A (.call (.ref f) args) (CR CX outer P w H s Q E) s

theorem Env0.make {P : Program} {w : World} {K : PySem.W.Frag} {mg : Str → Option Value} {base : Heap} {A : Around} {outer : List Env} {s : Shared} {H : Hp} (e : Env0 P w K mg base A outer s H) (C : Addr) (us : List Value) (kw : List (Str × Value)) :
    Env0 P w K mg base (A.under (.builtin "type.__call__" ⟨.ref C :: us, kw⟩)) outer s H := ⟨by first | exact e.frames | (simpa [Around.under, Code.envs, Code.isFrame, pushEnvs] using e.frames), e.mod, e.bs, e.bsz, e.funs, e.frf, e.hok, e.bare⟩

section
variable {X : Cx} {pins : List (Addr × Obj)} {σ : St} {H : Hp} {s s' : Shared}
/-- from a body: what a callee wants -/
theorem Inv.env0 (I : Inv X pins σ H s) : Env0 X.prog X.w X.K X.mg X.base X.A X.stack s H :=
  ⟨I.ok.frames, I.ok.mod, I.bs, Nat.le_trans I.ok.bsz I.sz, I.stack, I.stkFree, I.hok, I.bare⟩
/-- behind a call -/
theorem Inv.after {Q : VK} {u : Value} (I : Inv X pins σ H s) (h : CE X.stack X.prog X.w H s Q u s') : EP X pins σ Q u s' := by
  obtain ⟨v, H', os, bare, un, hok, r, q⟩ := h
  obtain ⟨hh, g, d, t, os'⟩ := s'
  obtain rfl : os' = s.os := os
  exact ⟨v, H', I.call (h' := hh) (g' := g) (d' := d) (t' := t) (ch := []) un hok bare (fun b z => absurd z (by simp)), r, q⟩
end

/-! ### calls -/
/-- f(..): the written arguments, then the defaults dvs; E: what is wanted of an exception -/
def tCall (sp : Sp) (dvs : List V) (E : XK) (t : TA) : TE := fun σ H Q => t σ H fun vs H1 => sp (vs ++ dvs) H1 Q E
/-- o.m(..) of an instance of the class at C -/
inductive MethQ (C : Addr) (m : Str) (k : VK) (x : V) (H1 : Hp) : Prop
  | mk (a dx : Addr) (fs : List (Str × V)) : x = .ref a → H1 a = some (.ins C dx fs) → fs.lookup m = none → k x H1 → MethQ C m k x H1
def tMeth (C : Addr) (m : Str) (sp : Sp) (dvs : List V) (E : XK) (ta : TE) (t : TA) : TE := fun σ H Q => ta σ H (MethQ C m fun x H1 => t σ H1 fun vs H2 => sp (x :: (vs ++ dvs)) H2 Q E)
/-- C(..): a new instance and its dict, then __init__ -/
def tMake (C : Addr) (sp : Sp) (dvs : List V) (E : XK) (t : TA) : TE := fun σ H Q => t σ H fun vs H1 => ∀ x dx, H1 x = none → H1 dx = none → dx ≠ x →
  sp (.ref x :: (vs ++ dvs)) (upd (upd H1 dx (.own x)) x (.ins C dx [])) (fun v H2 => v = .non ∧ Q (.ref x) H2) E

/-- how the parameters are bound: us the positional arguments, kw the keywords' values by name, ds the defaults that fill up -/
def Binds (K : PySem.W.Frag) (fd : FuncData) (ps : List Str) (ds : List Value) : Prop :=
  ∀ (s : Shared) (us : List Value), K.In s.heap → (us ++ ds).length = ps.length → BindsTo s fd ⟨us, []⟩ (ps.zip (us ++ ds))
/-- every parameter is given -/
theorem Binds.all {K : PySem.W.Frag} {fd : FuncData} {ps : List Str} (h : ∀ us : List Value, us.length = ps.length → bindArgs fd ⟨us, []⟩ = pure (ps.zip us)) : Binds K fd ps [] := fun s us _ hl => by
  rw [List.append_nil] at hl ⊢
  exact .of_eq (h us hl)

/-- an exception of a callee reaches what this body wants of exceptions -/
def Passes (CX : CXT) (X : Cx) (E : XK) : Prop := ∀ (pins : List (Addr × Obj)) (σ : St) (H : Hp) (s : Shared) (e : Value) (s' : Shared), Inv X pins σ H s → CX X.stack H s E e s' → X.xe e s'

section
variable {X : Cx} {CX : CXT} {k : Nat} {f C : Addr} {fd : FuncData} {ps : List Str} {sp : Sp} {dvs : List V} {ds : List Value} {E : XK} {x m : Str} {p pos apos : Pos} {e o : Expr} {es : List Expr} {ta : TE} {t : TA}

/-- the callee runs -/
theorem run_fn {pins : List (Addr × Obj)} {σ : St} {H : Hp} {s : Shared} {Q : VK} {us : List Value} {vs : List V} (F : FnOk X.prog X.w X.K X.mg X.base CX k f fd ps sp) (hr : Room k X.A) (hb : Binds X.K fd ps ds) (hd : Vals dvs ds) (hx : Passes CX X E)
    (I : Inv X pins σ H s) (r : Vals vs us) (h : sp (vs ++ dvs) H Q E) : wpAny (model X.prog X.w) X.A (call (.ref f) us) (EP X pins σ Q) X.xe s := by
  have r2 : Vals (vs ++ dvs) (us ++ ds) := r.append hd
  have hl : (us ++ ds).length = ps.length := by rw [← r2.length]; exact F.len _ _ _ _ h
  refine wpAny_call (codeAny_mono (F.run X.A X.stack s H ⟨us, []⟩ (us ++ ds) (vs ++ dvs) Q E hr I.env0 (hb s us I.kIn hl) r2 h) fun r s' hq => ?_)
  cases r with
  | error e => exact hx pins σ H s e s' I hq
  | ok fl =>
    cases fl with
    | ret u => exact I.after hq
    | next => exact False.elim hq
    | brk => exact False.elim hq
    | cont => exact False.elim hq

theorem pe_call (F : FnOk X.prog X.w X.K X.mg X.base CX k f fd ps sp) (hr : Room k X.A) (hg : Gl X x) (hm : X.mg x = some (.ref f)) (hk : PySem.W.keepIn X.K (.ref f) = true) (hb : Binds X.K fd ps ds) (hd : Vals dvs ds) (hx : Passes CX X E)
    (ha : PA X (e :: es) t) (hdb : (x == ("__debug__" : Str)) = false := by decide) (he : starEach (e :: es) X.env = (false, eval e X.env) :: starEach es X.env := by rfl) (hpl : (backTo pos (starEach es X.env)).any (·.1) = false := by rfl) :
    PE X (.Call (.Name x p) (e :: es) [] pos) (tCall sp dvs E t) := by
  intro pins s σ H Q I h
  refine wpAny_Call_Name_kw (ld_glob I hg hm ?_ hdb)
  refine PySem.W.callWith_K (h₀ := X.base) I.ok.mod.kin hk (thn (ha pos pins s σ H _ I h) fun us s1 ⟨vs, H1, I1, r, q⟩ => ⟨I1.kIn, ?_⟩) he hpl
  exact run_fn F hr hb hd hx I1 r q

/-- o.m(e, ..) -/
theorem pe_meth {pl : Sem Bool} (he : PE X o ta) (c : Cls X.K C) (hm : Meth X.K C m f) (F : FnOk X.prog X.w X.K X.mg X.base CX k f fd ps sp) (hr : Room k X.A) (hb : Binds X.K fd ps ds) (hd : Vals dvs ds) (hx : Passes CX X E) (ha : PA X (e :: es) t)
    (hst : starEach (e :: es) X.env = (false, eval e X.env) :: starEach es X.env := by rfl) (hpl : (backTo pos (starEach es X.env)).any (·.1) = false := by rfl)
    (ht : eval (.Call (.Attribute o m apos) (e :: es) [] pos) X.env = (do
      let ov ← eval o X.env
      standAt apos.atName
      let (f, first) ← holding [ov] (getMethod ov m pl)
      callWith pos f first (backTo pos (starEach (e :: es) X.env)) (backToKw pos (keywordEach [] X.env))) := by rfl) :
    PE X (.Call (.Attribute o m apos) (e :: es) [] pos) (tMeth C m sp dvs E ta t) := by
  intro pins s σ H Q I h
  refine PySem.W.methodCall_KW (pl := pl) (thn (he pins s σ H _ I h) fun u s1 ⟨x, H1, I1, rx, a, dx, fs, ex, ea, l, q⟩ => ?_) ht
  subst ex
  obtain rfl : u = Value.ref a := rx
  refine getmeth_ok I1 ea c hm l ?_
  refine PySem.W.callWith_K (first := [.ref a]) (h₀ := X.base) I.ok.mod.kin hm.kp (thn (ha pos pins s1 σ H1 _ I1 q) fun us s2 ⟨vs, H2, I2, r, q2⟩ => ⟨I2.kIn, ?_⟩) hst hpl
  exact run_fn (us := .ref a :: us) (vs := .ref a :: vs) F hr hb hd hx I2 (.cons rfl r) q2
/-- o.m() -/
theorem pe_meth0 {pl : Sem Bool} (he : PE X o ta) (c : Cls X.K C) (hm : Meth X.K C m f) (F : FnOk X.prog X.w X.K X.mg X.base CX k f fd ps sp) (hr : Room k X.A) (hb : Binds X.K fd ps ds) (hd : Vals dvs ds) (hx : Passes CX X E)
    (ht : eval (.Call (.Attribute o m apos) [] [] pos) X.env = (do
      let ov ← eval o X.env
      standAt apos.atName
      let (f, first) ← holding [ov] (getMethod ov m pl)
      callWith pos f first (backTo pos (starEach [] X.env)) (backToKw pos (keywordEach [] X.env))) := by rfl) :
    PE X (.Call (.Attribute o m apos) [] [] pos) (tMeth C m sp dvs E ta tNil) := by
  intro pins s σ H Q I h
  refine PySem.W.methodCall_KW (pl := pl) (thn (he pins s σ H _ I h) fun u s1 ⟨x, H1, I1, rx, a, dx, fs, ex, ea, l, q⟩ => ?_) ht
  subst ex
  obtain rfl : u = Value.ref a := rx
  refine getmeth_ok I1 ea c hm l ?_
  exact PySem.W.callWith_K0 (first := [.ref a]) I1.kIn hm.kp (run_fn (us := [.ref a]) (vs := [.ref a]) F hr hb hd hx I1 (.cons rfl .nil) q)

/-- what a class must have to be made -/
structure Mk (K : PySem.W.Frag) (C f : Addr) : Prop where
  makes : PySem.W.makesIn K C = true
  init : PySem.W.findIn K (.ref C) "__init__" = some (some (.ref f))
  fn : PySem.W.isFn K (.ref f) = true
  kp : PySem.W.keepIn K (.ref C) = true

theorem run_make {pins : List (Addr × Obj)} {σ : St} {H : Hp} {s : Shared} {Q : VK} {us : List Value} {vs : List V} (M : Mk X.K C f) (F : FnOk X.prog X.w X.K X.mg X.base CX k f fd ps sp) (hr : Room (k + 1) X.A) (hb : Binds X.K fd ps ds) (hd : Vals dvs ds)
    (hx : Passes CX X E) (I : Inv X pins σ H s) (r : Vals vs us)
    (h : ∀ x dx, H x = none → H dx = none → dx ≠ x → sp (.ref x :: (vs ++ dvs)) (upd (upd H dx (.own x)) x (.ins C dx [])) (fun v H2 => v = .non ∧ Q (.ref x) H2) E) :
    wpAny (model X.prog X.w) X.A (call (.ref C) us) (EP X pins σ Q) X.xe s := by
  have hq := h (s.heap.objs.size + 1) s.heap.objs.size (I.hok.fresh (Nat.le_succ _)) (I.hok.fresh (Nat.le_refl _)) (Nat.ne_of_lt (Nat.lt_succ_self _))
  have I2 := Inv.made (C := C) I
  have r2 : Vals (V.ref (s.heap.objs.size + 1) :: (vs ++ dvs)) (Value.ref (s.heap.objs.size + 1) :: (us ++ ds)) := .cons rfl (r.append hd)
  have hl : (Value.ref (s.heap.objs.size + 1) :: us ++ ds).length = ps.length := by
    have e := r2.length
    rw [F.len _ _ _ _ hq] at e
    exact e.symm
  refine wpAny_call (make_map (f := f) I.kIn M.makes M.init (beq_iff_eq.mp M.fn) (codeAny_mono (F.run _ X.stack _ _ ⟨Value.ref (s.heap.objs.size + 1) :: us, []⟩ (Value.ref (s.heap.objs.size + 1) :: (us ++ ds)) _ _ E (hr.make C us [])
    (I2.env0.make C us []) (hb _ (Value.ref (s.heap.objs.size + 1) :: us) I2.kIn hl) r2 hq) fun r s' hq' => ?_))
  cases r with
  | error e => exact hx pins σ _ _ e s' I2 hq'
  | ok fl =>
    cases fl with
    | ret u =>
      obtain ⟨v, H', I3, rv, ev, q3⟩ := I2.after hq'
      subst ev
      exact ⟨rv, ⟨V.ref (s.heap.objs.size + 1), H', I3, rfl, q3⟩⟩
    | next => exact False.elim hq'
    | brk => exact False.elim hq'
    | cont => exact False.elim hq'
theorem pe_make (M : Mk X.K C f) (F : FnOk X.prog X.w X.K X.mg X.base CX k f fd ps sp) (hr : Room (k + 1) X.A) (hg : Gl X x) (hm : X.mg x = some (.ref C)) (hb : Binds X.K fd ps ds) (hd : Vals dvs ds) (hx : Passes CX X E)
    (ha : PA X (e :: es) t) (hdb : (x == ("__debug__" : Str)) = false := by decide) (he : starEach (e :: es) X.env = (false, eval e X.env) :: starEach es X.env := by rfl) (hpl : (backTo pos (starEach es X.env)).any (·.1) = false := by rfl) :
    PE X (.Call (.Name x p) (e :: es) [] pos) (tMake C sp dvs E t) := by
  intro pins s σ H Q I h
  refine wpAny_Call_Name_kw (ld_glob I hg hm ?_ hdb)
  refine PySem.W.callWith_K (h₀ := X.base) I.ok.mod.kin M.kp (thn (ha pos pins s σ H _ I h) fun us s1 ⟨vs, H1, I1, r, q⟩ => ⟨I1.kIn, ?_⟩) he hpl
  exact run_make M F hr hb hd hx I1 r q
theorem pe_make0 (M : Mk X.K C f) (F : FnOk X.prog X.w X.K X.mg X.base CX k f fd ps sp) (hr : Room (k + 1) X.A) (hg : Gl X x) (hm : X.mg x = some (.ref C)) (hb : Binds X.K fd ps ds) (hd : Vals dvs ds) (hx : Passes CX X E)
    (hdb : (x == ("__debug__" : Str)) = false := by decide) : PE X (.Call (.Name x p) [] [] pos) (tMake C sp dvs E tNil) := by
  intro pins s σ H Q I h
  refine wpAny_Call_Name_kw (ld_glob I hg hm ?_ hdb)
  exact PySem.W.callWith_K0 I.kIn M.kp (run_make (us := []) M F hr hb hd hx I .nil h)
end

/-! ### keywords -/
section
variable {X : Cx} {CX : CXT} {k : Nat} {f C : Addr} {fd : FuncData} {ps ks : List Str} {sp : Sp} {E : XK} {x m : Str} {p pos apos kpos : Pos} {e o : Expr} {es : List Expr} {kws : List Keyword} {te ta : TE} {t tk : TA} {nm : Option Str}

variable {g : List Value → List Value → List Value} {gV : List V → List V → List V}
end

/-! ### a def's body keeps its promise -/
/-- names: the parameters first -/
structure FnScope (N P : List Str) (sc : Scope) : Prop where
  kind : sc.kind = .function
  co : sc.isCoroutine = false
  gen : sc.isGenerator = false
  nd : N.Nodup
  pre : N.take P.length = P
  par : ∀ x ∈ P, sc.names.lookup x = some .local ∨ sc.names.lookup x = some .cell
  nofree : ∀ y ∈ sc.names, y.2 ≠ .free

theorem bindL_out {kindOf : Str → Option NameKind} {x : Str} : ∀ {binds : List (Str × Value)} {m : Str → Option Value}, (∀ v, (x, v) ∉ binds) → bindL kindOf binds m x = m x
  | [], _, _ => rfl
  | (n, v) :: r, m, h => by
    unfold bindL
    rw [bindL_out fun w hw => h w (List.mem_cons_of_mem _ hw)]
    split
    · have : x ≠ n := by rintro rfl; exact h v List.mem_cons_self
      simp [this]
    · rfl
theorem bindC_out {kindOf : Str → Option NameKind} {x : Str} : ∀ {binds : List (Str × Value)} {m : Str → Option Value}, (∀ v, (x, v) ∉ binds) → bindC kindOf binds m x = m x
  | [], _, _ => rfl
  | (n, v) :: r, m, h => by
    unfold bindC
    rw [bindC_out fun w hw => h w (List.mem_cons_of_mem _ hw)]
    split
    · rfl
    · have : x ≠ n := by rintro rfl; exact h v List.mem_cons_self
      simp [this]
theorem bindL_get {kindOf : Str → Option NameKind} {x : Str} {v : Value} : ∀ {P : List Str} {vs : List Value} {i : Nat} {m : Str → Option Value}, P.Nodup → P[i]? = some x → vs[i]? = some v → kindOf x = some .local →
    bindL kindOf (P.zip vs) m x = some v
  | [], _, _, _, _, h, _, _ => by simp at h
  | _ :: _, [], _, _, _, _, h, _ => by simp at h
  | p :: P, w :: vs, 0, m, nd, h1, h2, hk => by
    simp at h1 h2; subst h1; subst h2
    show bindL kindOf ((p, w) :: P.zip vs) m p = _
    unfold bindL
    rw [bindL_out fun v hv => (List.nodup_cons.mp nd).1 (List.of_mem_zip hv).1, if_pos hk]
    simp
  | p :: P, w :: vs, i + 1, m, nd, h1, h2, hk => by
    show bindL kindOf ((p, w) :: P.zip vs) m x = _
    unfold bindL
    exact bindL_get (i := i) (List.nodup_cons.mp nd).2 (by simpa using h1) (by simpa using h2) hk
theorem bindC_get {kindOf : Str → Option NameKind} {x : Str} {v : Value} : ∀ {P : List Str} {vs : List Value} {i : Nat} {m : Str → Option Value}, P.Nodup → P[i]? = some x → vs[i]? = some v → kindOf x ≠ some .local →
    bindC kindOf (P.zip vs) m x = some v
  | [], _, _, _, _, h, _, _ => by simp at h
  | _ :: _, [], _, _, _, _, h, _ => by simp at h
  | p :: P, w :: vs, 0, m, nd, h1, h2, hk => by
    simp at h1 h2; subst h1; subst h2
    show bindC kindOf ((p, w) :: P.zip vs) m p = _
    unfold bindC
    rw [bindC_out fun v hv => (List.nodup_cons.mp nd).1 (List.of_mem_zip hv).1, if_neg hk]
    simp
  | p :: P, w :: vs, i + 1, m, nd, h1, h2, hk => by
    show bindC kindOf ((p, w) :: P.zip vs) m x = _
    unfold bindC
    exact bindC_get (i := i) (List.nodup_cons.mp nd).2 (by simpa using h1) (by simpa using h2) hk

/-- the names' values at the entry -/
def start (N : List Str) (vs : List V) : St := vs.map some ++ List.replicate (N.length - vs.length) none

/-- the context of a def's body, at its entry; an exception leaves the frame, then lies as CX says -/
def cxOf (CX : CXT) (P : Program) (w : World) (K : PySem.W.Frag) (mg : Str → Option Value) (base : Heap) (N : List Str) (qual : Str) (scope : Scope) (f : Addr) (cd : Value) (A : Around) (outer : List Env) (s : Shared) (H : Hp) (E : XK) : Cx where
  prog := P
  w := w
  K := K
  mg := mg
  base := base
  A := A.deeper (envOfC qual scope s.heap.objs.size f cd)
  N := N
  s_0 := s
  H_0 := H
  env := envOfC qual scope s.heap.objs.size f cd
  outer := outer
  stack := envOfC qual scope s.heap.objs.size f cd :: outer
  ex := []
  calm := true
  fn := fun _ => true
  pn := []
  xe := fun e s' => wpAny (model P w) (A.deeper (envOfC qual scope s.heap.objs.size f cd)) (leaving (envOfC qual scope s.heap.objs.size f cd) e) (fun _ s'' => CX outer H s E e s'') (fun e' s'' => CX outer H s E e' s'') s'

theorem cell_has {sc : Scope} {n : Nat} {x : Str} (h : sc.names.lookup x = some .cell) : ∃ c, (cellsFrom n sc.names []).lookup x = some c := by
  have q := PySem.W.cellsFrom_some sc.names n [] (.inl h)
  exact Option.isSome_iff_exists.mp q

theorem inv_start {CX : CXT} {P : Program} {w : World} {K : PySem.W.Frag} {mg : Str → Option Value} {base : Heap} {N ps : List Str} {qual : Str} {scope : Scope} {f : Addr} {cd : Value} {A : Around} {outer : List Env} {s s1 : Shared} {H : Hp} {E : XK} {us : List Value} {vs : List V}
    (S : FnScope N ps scope) (hd : A.handled = none) (e0 : Env0 P w K mg base A outer s H) (hl : vs.length = ps.length) (r : Vals vs us)
    (x : InCallC s s.heap.objs.size (bindL (envOfC qual scope s.heap.objs.size f cd).kindOf (ps.zip us) fun _ => none) (cellsFrom (s.heap.objs.size + 1) scope.names []) (bindC (envOfC qual scope s.heap.objs.size f cd).kindOf (ps.zip us) fun _ => none) s1) :
    Inv (cxOf CX P w K mg base N qual scope f cd A outer s H E) [] (start N vs) H s1 := by
  have hpl : ps.length ≤ N.length := by have := congrArg List.length S.pre; rw [List.length_take] at this; omega
  obtain ⟨h1, tk, rfl, hk⟩ := x.done
  have noA : ∀ b : Addr, b ∉ (cxOf CX P w K mg base N qual scope f cd A outer s H E).ex := fun b z => absurd (show b ∈ ([] : List Addr) from z) (by simp)
  refine ⟨⟨e0.mod, S.kind, rfl, rfl, Nat.le_refl _, fun y z c h1 h2 => ?_, fun y hy => ?_, fun y c _ h => ?_, fun _ => hd, Around.frames_deeper e0.frames, .inr ⟨rfl, rfl⟩, fun b z => absurd z (noA b), e0.bs, e0.bsz, fun b _ _ => noA b, fun b z => absurd z (noA b), e0.funs, e0.frf⟩,
    rfl, e0.bare, Un.kept hk, ⟨_, x.toInCall.ns, fun i y v h1 h2 h3 => ?_⟩, fun y c h => ⟨_, x.cell y c h⟩, e0.hok.fresh (Nat.le_refl _), fun y c h => ?_, fun p hp => absurd (show p ∈ ([] : List (Addr × Obj)) from hp) (by simp), e0.hok.kept hk, ?_⟩
  · exact name_of_addr x.apart (PySem.mem_of_lookup h1) (PySem.mem_of_lookup h2)
  · have hy : scope.names.lookup y = some .cell ∨ scope.names.lookup y = some .free := hy
    rcases hy with hy | hy
    · exact cell_has hy
    · exact absurd rfl (S.nofree _ (PySem.mem_of_lookup hy))
  · exact Nat.le_of_lt (x.above y c (PySem.mem_of_lookup h))
  · have hi : i < vs.length := by
      unfold start at h2
      by_cases hi : i < vs.length
      · exact hi
      · rw [List.getElem?_append_right (by simpa using hi)] at h2
        rw [List.getElem?_replicate] at h2
        split at h2 <;> cases h2
    have ha : vs[i]? = some v := by
      unfold start at h2
      rw [List.getElem?_append_left (by simpa using hi), List.getElem?_map] at h2
      cases e : vs[i]? with
      | none => rw [e] at h2; cases h2
      | some a => rw [e] at h2; cases h2; rfl
    obtain ⟨u, hu, rv⟩ := r.get ha
    have hp : ps[i]? = some y := by
      rw [← S.pre, List.getElem?_take_of_lt (by omega)]; exact h1
    have ndP : ps.Nodup := by rw [← S.pre]; exact S.nd.sublist (List.take_sublist _ _)
    refine ⟨u, rv, ?_⟩
    rcases S.par y (List.mem_of_getElem? hp) with k | k
    · exact .inl ⟨k, bindL_get ndP hp hu k⟩
    · obtain ⟨c, e⟩ := cell_has (n := s.heap.objs.size + 1) k
      refine .inr ⟨.inl k, c, e, ?_⟩
      have q := x.cell y c e
      rw [bindC_get ndP hp hu (by show scope.names.lookup y ≠ _; rw [k]; decide)] at q
      exact q
  · exact e0.hok.fresh (Nat.le_of_lt (x.above y c (PySem.mem_of_lookup h)))
  · unfold start
    show _ = N.length
    rw [List.length_append, List.length_map, List.length_replicate]
    omega

/-- THE RULE: a def (or a method) of the text, by its body. The body's reading t is chosen for each entry; it is run at the parameters' values -/
theorem fn_of {CX : CXT} {P : Program} {w : World} {K : PySem.W.Frag} {mg : Str → Option Value} {base : Heap} {k : Nat} {f : Addr} {name qual : Str} {params : Arguments} {body : List Stmt} {scope : Scope} {dV kV doc pm cdv ct oc : Value} {an od : Option Addr}
    {osl : Array (Option Value)} {N ps : List Str} {sp : Sp} (lk : K.lookup f = some ⟨oc, od, .func (PySem.W.fnOf name qual params body scope dV kV doc pm an cdv ct), osl⟩) (hcd : PySem.W.codeIn K cdv qual = true) (S : FnScope N ps scope)
    (len : ∀ vs H Q E, sp vs H Q E → vs.length = ps.length)
    (hbody : ∀ (A : Around) (outer : List Env) (s : Shared) (H : Hp) (vs : List V) (Q : VK) (E : XK), Room k (A.deeper (envOfC qual scope s.heap.objs.size f cdv)) → sp vs H Q E →
      ∃ t, PSs (cxOf CX P w K mg base N qual scope f cdv A outer s H E) body t ∧ t { nx := fun _ H' => Q .non H', rt := Q } (start N vs) H) :
    FnOk P w K mg base CX (k + 1) f (PySem.W.fnOf name qual params body scope dV kV doc pm an cdv ct) ps sp := by
  refine ⟨len, fun A outer s H args us vs Q E hr e0 hb r hsp => ?_⟩
  have hl := len _ _ _ _ hsp
  have KX : K.In s.heap := e0.mod.kin.keeps fun b o e => (e0.bs b o e).1
  have lim : s.heap.NoLimit := e0.mod.nolimit.keeps fun b o e => (e0.bs b o e).1
  have hkind : ∀ y ∈ ps.zip us, scope.names.lookup y.1 = some .local ∨ (scope.names.lookup y.1 = some .cell ∧ ((cellsFrom (s.heap.objs.size + 1) scope.names []).lookup y.1).isSome = true) := fun ⟨n, v⟩ hy => by
    rcases S.par n (List.of_mem_zip hy).1 with q | q
    · exact .inl q
    · exact .inr ⟨q, PySem.W.cellsFrom_some _ _ _ (.inl q)⟩
  refine codeAny_call_function hr.depth (KX _ _ lk) rfl S.co S.gen rfl (PySem.W.codeRec_of KX hcd) (hb _ _ _ _ ?_)
  refine wpAny_newFunctionEnv_cells S.kind hkind fun env he s1 x => ?_
  subst he
  refine ⟨lim.keeps x.toInCall.keep, codeAny_func ?_⟩
  obtain ⟨t, ht, hq⟩ := hbody A outer s H vs Q E (hr.deeper _) hsp
  have I : Inv (cxOf CX P w K mg base N qual scope f cdv A outer s H E) [] (start N vs) H s1 := inv_start S hr.hd e0 hl r x
  refine wpAny_mono (ht [] s1 (start N vs) H _ I hq) (fun fl s' hs => ?_) fun e s' hs => hs
  have fin : ∀ {σ' : St} {H' : Hp} {v : V} {u : Value}, Inv (cxOf CX P w K mg base N qual scope f cdv A outer s H E) [] σ' H' s' → RelV v u → Q v H' → CE outer P w H s Q u s' :=
    fun {σ' H' v u} J rv q => ⟨v, H', J.os, J.bare, J.base, J.hok, rv, q⟩
  cases fl with
  | ret u =>
    obtain ⟨v, σ', H', J, rv, q⟩ := hs
    exact fin J rv q
  | next =>
    obtain ⟨σ', H', J, q⟩ := hs
    exact fin (v := V.non) (u := Value.none) J rfl q
  | brk =>
    obtain ⟨_, _, _, q⟩ := hs
    exact False.elim q
  | cont =>
    obtain ⟨_, _, _, q⟩ := hs
    exact False.elim q
end L2

namespace L2
open PySem PySem.Spec PyProof.Rows
section
variable {X : Cx} {x : Str} {p pos : Pos} {e : Expr} {es : List Expr} {t : TA} {id T : String} {r : List V → Hp → VK → Prop}

def tCB (r : List V → Hp → VK → Prop) (t : TA) : TE := fun σ H Q => t σ H fun vs H1 => r vs H1 Q
/-- f(e, ..), f a built-in function -/
theorem pe_callB (hc : CallR X (.builtin id) r) (hg : Gl X x) (hm : X.mg x = none) (hv : bootBuiltins x = some (.builtin id)) (ha : PA X (e :: es) t) (hn : x ≠ "__name__" := by decide) (hdb : (x == ("__debug__" : Str)) = false := by decide)
    (he : starEach (e :: es) X.env = (false, eval e X.env) :: starEach es X.env := by rfl) (hpl : (backTo pos (starEach es X.env)).any (·.1) = false := by rfl) : PE X (.Call (.Name x p) (e :: es) [] pos) (tCB r t) := by
  intro pins s σ H Q I h
  refine wpAny_Call_Name_kw (ld_blt I hg hm hv ?_ hn hdb)
  exact PyProof.Rows.callWith_builtin1 (thn (ha pos pins s σ H _ I h) fun us s1 ⟨vs, H1, I1, r1, q1⟩ => hc pins s1 σ H1 vs us Q I1 r1 q1) he hpl
/-- T(e, ..), T a built-in type -/
theorem pe_callTy (hc : CallR X (.type T) r) (hg : Gl X x) (hm : X.mg x = none) (hv : bootBuiltins x = some (.type T)) (ha : PA X (e :: es) t) (hn : x ≠ "__name__" := by decide) (hdb : (x == ("__debug__" : Str)) = false := by decide)
    (he : starEach (e :: es) X.env = (false, eval e X.env) :: starEach es X.env := by rfl) (hpl : (backTo pos (starEach es X.env)).any (·.1) = false := by rfl) : PE X (.Call (.Name x p) (e :: es) [] pos) (tCB r t) := by
  intro pins s σ H Q I h
  refine wpAny_Call_Name_kw (ld_blt I hg hm hv ?_ hn hdb)
  exact PyProof.Rows.callWith_type1 (thn (ha pos pins s σ H _ I h) fun us s1 ⟨vs, H1, I1, r1, q1⟩ => hc pins s1 σ H1 vs us Q I1 r1 q1) he hpl
end
end L2

namespace HT
open PySem PyProof.Rows

section
open PySem.SeqAt
open PySem.AutoSeq1 (wpAny_loadPart')
open PySem.MeetsSeq PySem.MeetsSeq2 PySem.MeetsSeq3

end

section
variable {prog : Program} {w : World} {A : Around} {E : Value → Shared → Prop} {s : Shared}

/-- t + u, t not empty -/
theorem cat_tup {t b : Addr} {vs ws : List Value} {Q : Value → Shared → Prop} (ht : IsTup s.heap t vs.toArray) (hb : IsTup s.heap b ws.toArray) (hv : vs ≠ [])
    (h1 : ws = [] → Q (.ref t) s) (h2 : ws ≠ [] → Q (.ref s.heap.objs.size) { s with heap := s.heap.push { cls := .type "tuple", data := .seq (vs ++ ws).toArray } })
    (hsz : vs.length + ws.length ≤ sizeLine) : wpAny (model prog w) A (binaryOp .Add (.ref t) (.ref b)) Q E s := by
  obtain ⟨⟨cls, dd, data, sl⟩, ho, hc, n, hd⟩ := id ht
  obtain ⟨⟨cls2, dd2, data2, sl2⟩, ho2, hc2, n2, hd2⟩ := id hb
  simp only at hc hd hc2 hd2
  subst hc hd hc2 hd2
  have e : vs.toArray ++ ws.toArray = (vs ++ ws).toArray := by simp
  by_cases hw : ws = []
  · exact concat_meets ⟨_, ho, rfl⟩ ⟨_, ho2, rfl⟩ noFill_tuple_add seq_tuple_add PySem.F.slot_tuple_add PySem.F.entry_tuple_add (PySem.F.args_tuple_add_2 _ _)
      (tuple_addW1 t b vs.toArray ws.toArray n n2 dd dd2 sl sl2 (by simpa using hv) (by simp [hw])) ⟨ho, ho2, h1 hw⟩
  · refine concat_meets ⟨_, ho, rfl⟩ ⟨_, ho2, rfl⟩ noFill_tuple_add seq_tuple_add PySem.F.slot_tuple_add PySem.F.entry_tuple_add (PySem.F.args_tuple_add_2 _ _)
      (tuple_addW2 t b vs.toArray ws.toArray n n2 dd dd2 sl sl2 (by simpa using hv) (by simpa using hw) (by rw [List.size_toArray, List.size_toArray]; exact hsz)) ⟨ho, ho2, ?_⟩
    rw [e]
    exact h2 hw

/-! ### t[a:b], not the whole -/
/-- a slice's bound as a place among n (d where it is left out) -/
def sIx (n d : Nat) : Option Int → Nat
  | none => d
  | some v => if v < 0 then (v + (n : Int)).toNat else min v.toNat n
theorem sIx_nat (n d k : Nat) : sIx n d (some (k : Int)) = min k n := by
  show (if (k : Int) < 0 then ((k : Int) + (n : Int)).toNat else min (k : Int).toNat n) = min k n
  rw [if_neg (by omega), Int.toNat_natCast]

end
end HT

namespace L2
open PySem PySem.Spec PyProof.Rows

/-! ### the parts of a slice -/
abbrev TO := St → Hp → (Option Int → Hp → Prop) → Prop
/-- a slice's part (left out, or an int) -/
def PO (X : Cx) (e : Option Expr) (t : TO) : Prop :=
  ∀ (pins : List (Addr × Obj)) (s : Shared) (σ : St) (H : Hp) (Q : Option Int → Hp → Prop), Inv X pins σ H s → t σ H Q →
    wpAny (model X.prog X.w) X.A (evalPart e X.env) (fun u s' => ∃ o H', Inv X pins σ H' s' ∧ IsPart u o ∧ Q o H') X.xe s
def tPart (t : TE) : TO := fun σ H Q => t σ H fun x H1 => ∃ i, x = .int i ∧ Q (some i) H1

section
variable {X : Cx} {e : Expr} {te : TE} {lo hi : Option Expr} {tl th : TO} {pos p2 : Pos}

theorem po_some (h : PE X e te) : PO X (some e) (tPart te) := by
  intro pins s σ H Q I hw
  rw [evalPart_some]
  refine thn (h pins s σ H _ I hw) fun u s1 ⟨x, H1, I1, r1, q1⟩ => ?_
  obtain ⟨i, rfl, q⟩ := q1
  obtain ⟨t, rfl⟩ := r1
  exact ⟨some i, H1, I1, .int i t, q⟩

/-- what a slice of a value is, by values: the slice object stands at sl -/
def SlR (X : Cx) (r : V → Option Int → Option Int → Hp → VK → Prop) : Prop :=
  ∀ (pins : List (Addr × Obj)) (s : Shared) (σ : St) (H : Hp) (x : V) (v vl vu : Value) (lo hi : Option Int) (sl : Addr) (Q : VK), Inv X pins σ H s → RelV x v → s.heap.IsSliceOf sl vl vu .none → IsPart vl lo → IsPart vu hi → r x lo hi H Q →
    ∃ T id, typeLookup (.type T) "__getitem__" = pure (some (.builtin id)) ∧ s.TypeIs v T ∧ wpAny (model X.prog X.w) X.A (getItem v (.ref sl)) (EP X pins σ Q) X.xe s
def tSl (r : V → Option Int → Option Int → Hp → VK → Prop) (te : TE) (tl th : TO) : TE := fun σ H Q => te σ H fun x H1 => tl σ H1 fun l H2 => th σ H2 fun u H3 => r x l u H3 Q
/-- a[lo:hi], any a -/
theorem pe_slice {r : V → Option Int → Option Int → Hp → VK → Prop} (hr : SlR X r) (he : PE X e te) (hl : PO X lo tl) (hu : PO X hi th) : PE X (.Subscript e (.Slice lo hi none p2) pos) (tSl r te tl th) := by
  intro pins s σ H Q I h
  refine Subscript_ (thn (he pins s σ H _ I h) fun v s1 ⟨x, H1, I1, r1, q1⟩ => ?_)
  refine wpAny_Slice (thn (hl pins s1 σ H1 _ I1 q1) fun vl s2 ⟨l, H2, I2, pl, q2⟩ => thn (hu pins s2 σ H2 _ I2 q2) fun vu s3 ⟨u, H3, I3, pu, q3⟩ => ?_)
  rw [evalPart_none]
  refine wpAny_pure ?_
  have I4 : Inv X pins σ H3 { s3 with heap := s3.heap.push { cls := .type "slice", data := .fields #[vl, vu, .none] } } := I3.kept (t' := s3.toks) fun b ob q => Heap.get?_push_of_some _ q
  obtain ⟨T, id, hT, ht, hg⟩ := hr pins { s3 with heap := s3.heap.push { cls := .type "slice", data := .fields #[vl, vu, .none] } } σ H3 x v vl vu l u s3.heap.objs.size Q I4 r1 (Heap.IsSliceOf.new ..) pl pu q3
  show wpAny (model X.prog X.w) X.A (subscriptTail e (.Slice lo hi none p2) v (.ref s3.heap.objs.size)) (EP X pins σ Q) X.xe { s3 with heap := s3.heap.push { cls := .type "slice", data := .fields #[vl, vu, .none] } }
  exact tail_any (ops := [.ref s3.heap.objs.size, v]) ht hT hg (by with_unfolding_all rfl)

/-- the items of xs[lo:hi] -/
def cutV (xs : List V) (lo hi : Option Int) : List V := (xs.drop (HT.sIx xs.length 0 lo)).take (HT.sIx xs.length xs.length hi - HT.sIx xs.length 0 lo)
theorem cutV_length (xs : List V) (lo hi : Option Int) : (cutV xs lo hi).length ≤ xs.length := by
  unfold cutV
  rw [List.length_take, List.length_drop]
  omega

/-! ### t < u, t + u -/
/-- t + u, t not empty: u empty gives t itself -/
inductive rCatT (K : PySem.W.Frag) (x : V) (y : V) (H : Hp) (Q : VK) : Prop
  | mk a b xs ys : (x = .ref a) → (y = .ref b) → (SqT K H a xs) → (SqT K H b ys) → (xs ≠ []) → (xs.length + ys.length ≤ sizeLine) → ((ys = [] → Q (.ref a) H)) → ((ys ≠ [] → ∀ p, H p = none → Q (.ref p) (upd H p (.tup (xs ++ ys))))) → rCatT K x y H Q
theorem Vals.nil_iff {xs : List V} {us : List Value} (r : Vals xs us) : us = [] ↔ xs = [] := by
  cases r with
  | nil => simp
  | cons _ _ => simp
theorem op_catT : OpR X (binaryOp .Add) (rCatT X.K) := by
  intro pins s σ H x y v u Q I rx ry h
  obtain ⟨a, b, xs, ys, rfl, rfl, ha, hb, hx, hz, q1, q2⟩ := h
  cases rx
  cases ry
  obtain ⟨its, r1, p1, _⟩ := I.tuple ha
  obtain ⟨its2, r2, p2, _⟩ := I.tuple hb
  refine HT.cat_tup p1 p2 (fun z => hx (r1.nil_iff.mp z)) (fun z => ⟨.ref a, H, I, rfl, q1 (r2.nil_iff.mp z)⟩) (fun z => ?_) (by rw [← r1.length, ← r2.length]; exact hz)
  refine ⟨.ref s.heap.objs.size, _, I.laid (t' := s.toks) (o := .tup (xs ++ ys)) (fun b ob q => Heap.get?_push_of_some _ q) (Nat.le_refl _) ?_, rfl, q2 (fun w => z (r2.nil_iff.mpr w)) _ (I.hok.fresh (Nat.le_refl _))⟩
  exact ⟨by rw [List.length_append]; exact hz, _, r1.append r2, IsTup.new _ _⟩
end
end L2

namespace L2
open PySem PySem.Spec PyProof.Rows

/-! ### places -/
/-- the place that an index of any sign means -/
def ixN (n : Nat) (i : Int) : Option Nat := if 0 ≤ i then (if i < n then some i.toNat else none) else if -(n : Int) ≤ i then some (i + n).toNat else none
def atI {α : Type} (xs : List α) (i : Int) : Option α := (ixN xs.length i).bind fun j => xs[j]?
theorem ixN_seq {n : Nat} {i : Int} {j : Nat} (h : ixN n i = some j) : seqIndex? i n = some j ∧ j < n ∧ -(n : Int) ≤ i ∧ i < n := by
  unfold ixN at h
  by_cases h0 : 0 ≤ i
  · rw [if_pos h0] at h
    by_cases h1 : i < n
    · rw [if_pos h1] at h
      have e : i.toNat = j := Option.some.inj h
      exact ⟨by rw [seqIndex_of h0 h1, e], by omega, by omega, h1⟩
    · rw [if_neg h1] at h; cases h
  · rw [if_neg h0] at h
    by_cases h1 : -(n : Int) ≤ i
    · rw [if_pos h1] at h
      have e : (i + n).toNat = j := Option.some.inj h
      exact ⟨by rw [seqIndex_neg (by omega) h1, e], by omega, h1, by omega⟩
    · rw [if_neg h1] at h; cases h
theorem atI_get {α : Type} {xs : List α} {i : Int} {v : α} (h : atI xs i = some v) : ∃ j, seqIndex? i xs.length = some j ∧ xs[j]? = some v ∧ j < xs.length ∧ -(xs.length : Int) ≤ i ∧ i < xs.length := by
  unfold atI at h
  cases e : ixN xs.length i with
  | none => rw [e] at h; cases h
  | some j =>
    rw [e] at h
    obtain ⟨h1, h2, h3, h4⟩ := ixN_seq e
    exact ⟨j, h1, h, h2, h3, h4⟩
theorem atI_nat {α : Type} {xs : List α} {j : Nat} {v : α} (h : xs[j]? = some v) : atI xs (j : Int) = some v := by
  have hj : j < xs.length := (List.getElem?_eq_some_iff.mp h).1
  have e : ixN xs.length (j : Int) = some j := by
    unfold ixN
    rw [if_pos (by omega), if_pos (by omega)]; simp
  unfold atI; rw [e]; exact h
theorem atI_last {α : Type} (xs : List α) (v : α) : atI (xs ++ [v]) (-1) = some v := by
  have hl : (xs ++ [v]).length = xs.length + 1 := by simp
  have e : ixN (xs ++ [v]).length (-1) = some xs.length := by
    unfold ixN
    rw [hl, if_neg (by decide), if_pos (by omega)]
    congr 1
    omega
  unfold atI
  rw [e]
  show (xs ++ [v])[xs.length]? = some v
  simp

/-! ### what may be subscripted -/
/-- what stands as an index of a plain subscript -/
def PlainIx (b : Expr) : Prop := ∀ o i, subscripted b false o i = operate [o, i] (getItem o i)
/-- a subscript by values -/
def IxR (X : Cx) (r : R2) : Prop :=
  ∀ (value slice : Expr) (pins : List (Addr × Obj)) (s : Shared) (σ : St) (H : Hp) (x y : V) (v u : Value) (Q : VK), Inv X pins σ H s → RelV x v → RelV y u → r x y H Q →
    subscripted slice false v u = operate [v, u] (getItem v u) → wpAny (model X.prog X.w) X.A (subscriptTail value slice v u) (EP X pins σ Q) X.xe s
/-- a call of a builtin's method by values: the receiver, the arguments -/
def MtR (X : Cx) (id : String) (r : V → List V → Hp → VK → Prop) : Prop :=
  ∀ (pins : List (Addr × Obj)) (s : Shared) (σ : St) (H : Hp) (x : V) (xs : List V) (v : Value) (us : List Value) (Q : VK), Inv X pins σ H s → RelV x v → Vals xs us → r x xs H Q →
    wpAny (model X.prog X.w) X.A (call (.builtin id) (v :: us)) (EP X pins σ Q) X.xe s
section
variable {X : Cx} {a b : Expr} {ta tb : TE} {pos : Pos}
/-- a[b] -/
theorem pe_ix {r : R2} (hr : IxR X r) (ha : PE X a ta) (hb : PE X b tb) (hs : PlainIx b) : PE X (.Subscript a b pos) (tOp r ta tb) := by
  intro pins s σ H Q I h
  exact Subscript_ (binT ha hb I h fun v u s2 x y H2 I2 rx ry q => hr a b pins s2 σ H2 x y v u Q I2 rx ry q (hs _ _))

inductive rIxL (K : PySem.W.Frag) (x : V) (y : V) (H : Hp) (Q : VK) : Prop
  | mk p xs i v : (x = .ref p) → (y = .int i) → (SqL K H p xs) → (atI xs i = some v) → (Q v H) → rIxL K x y H Q
theorem ix_list : IxR X (rIxL X.K) := by
  intro value slice pins s σ H x y v u Q I rx ry h hs
  obtain ⟨p, xs, i, z, rfl, rfl, hq, he, q⟩ := h
  cases rx
  obtain ⟨t, rfl⟩ := ry
  obtain ⟨its, r, pl, hz⟩ := I.list hq
  obtain ⟨j, h1, h2, h3, h4, h5⟩ := atI_get he
  obtain ⟨w, ew, rw'⟩ := r.get h2
  have hl := r.length
  have hn := line63
  have fin : EP X pins σ Q w s := ⟨z, H, I, rw', q⟩
  by_cases h0 : 0 ≤ i
  · have hj : i.toNat = j := by
      rw [seqIndex_of h0 h5] at h1
      exact Option.some.inj h1
    exact item_listR pl.isList h0 (by omega) (by rw [hj]; simpa using ew) fin hs
  · have hj : (i + (its.toArray.size : Int)).toNat = j := by
      rw [seqIndex_neg (by omega) h4] at h1
      rw [List.size_toArray, ← hl]
      exact Option.some.inj h1
    exact subscriptTail_builtinR (x := w) pl.isList.typeIs slot_list_getitem.lookup
      (wpAny_getItem_list_neg (Q := fun r s' => r = w ∧ EP X pins σ Q r s') pl.isList (by omega) (by rw [List.size_toArray] <;> omega) (by omega) (by rw [hj]; simpa using ew) ⟨rfl, fin⟩) hs

/-! ### xs[i] = v, any sign -/
/-- the list's object behind a store -/
theorem mapSeq_set (its : List Value) (n j : Nat) (u : Value) : Obj.mapSeq (·.setIfInBounds j u) { cls := .type "list", data := .seq its.toArray n } = { cls := .type "list", data := .seq (its.set j u).toArray n } := by
  simp [Obj.mapSeq]
theorem Inv.lst {pins : List (Addr × Obj)} {σ : St} {H : Hp} {s : Shared} {p : Addr} {xs : List V} (I : Inv X pins σ H s) (h : H p = some (.lst xs)) :
    ∃ (its : List Value) (n : Nat), Vals xs its ∧ s.heap.get? p = some { cls := .type "list", data := .seq its.toArray n } ∧ xs.length ≤ sizeLine := by
  obtain ⟨z, its, n, r, e⟩ := I.hok p _ h
  exact ⟨its, n, r, e, z⟩
/-- the list at p is written by an update of its object -/
theorem Inv.lstUpd {pins : List (Addr × Obj)} {σ : St} {H : Hp} {s : Shared} {p : Addr} {xs ys : List V} {its its' : List Value} {n n' : Nat} {f : Obj → Obj} (I : Inv X pins σ H s) (h : H p = some (.lst xs))
    (ho : s.heap.get? p = some { cls := .type "list", data := .seq its.toArray n }) (hf : f { cls := .type "list", data := .seq its.toArray n } = { cls := .type "list", data := .seq its'.toArray n' }) (r : Vals ys its') (hz : ys.length ≤ sizeLine) (t : Nat) :
    Inv X pins σ (upd H p (.lst ys)) { s with heap := s.heap.update p f, toks := t } := by
  have e : (s.heap.update p f).get? p = some { cls := .type "list", data := .seq its'.toArray n' } := by
    rw [Heap.get?_update_self f ho (by rw [hf] <;> rfl), hf]
  refine I.write (x := p) (e := p) (by rw [h]; trivial) (.inl rfl) (fun b u hb q => (Heap.get?_update_other _ _ (Ne.symm hb)).trans q) ⟨_, e⟩ ?_
  exact ⟨hz, its', n', r, e⟩
inductive rSetL  (o : V) (i : V) (v : V) (H : Hp) (Q : Hp → Prop) : Prop
  | mk p xs k j : (o = .ref p) → (i = .int k) → (H p = some (.lst xs)) → (ixN xs.length k = some j) → (Q (upd H p (.lst (xs.set j v)))) → rSetL  o i v H Q
theorem set_list : PSet X rSetL := by
  intro pins s σ H o i v ov iv u Q I ro ri rv h
  obtain ⟨p, xs, k, j, rfl, rfl, hp, hj, q⟩ := h
  cases ro
  obtain ⟨t, rfl⟩ := ri
  obtain ⟨its, n, r, ho, hz⟩ := I.lst hp
  obtain ⟨h1, h2, h3, h4⟩ := ixN_seq hj
  have hl := r.length
  have hn := line63
  have I' : Inv X pins σ (upd H p (.lst (xs.set j v))) { s with heap := s.heap.update p (Obj.mapSeq (·.setIfInBounds j u)) } :=
    I.lstUpd hp ho (mapSeq_set its n j u) (r.set rv j) (by rw [List.length_set]; exact hz) s.toks
  by_cases h0 : 0 ≤ k
  · have hk : k.toNat = j := by
      rw [seqIndex_of h0 h4] at h1
      exact Option.some.inj h1
    exact PySem.W.ki_setAt ho h0 (by omega) (by rw [List.size_toArray, ← hl]; exact h4) (by rw [hk]; exact ⟨_, I', q⟩)
  · have hk : (k + (its.toArray.size : Int)).toNat = j := by
      rw [seqIndex_neg (by omega) h3] at h1
      rw [List.size_toArray, ← hl]
      exact Option.some.inj h1
    exact PySem.W.ki_setBack ho (by omega) (by rw [List.size_toArray, ← hl]; exact h3) (by omega) (by rw [hk]; exact ⟨_, I', q⟩)

/-! ### slices -/
theorem slice_bounds (lo hi : Option Int) (n : Nat) : (sliceBounds lo hi none n).1 = ((HT.sIx n 0 lo : Nat) : Int) ∧ (sliceBounds lo hi none n).2.1 = ((HT.sIx n n hi : Nat) : Int) ∧ (sliceBounds lo hi none n).2.2 = 1 := by
  refine ⟨?_, ?_, rfl⟩
  · cases lo with
    | none => simp [sliceBounds, HT.sIx]
    | some i =>
      simp only [sliceBounds, HT.sIx, Option.getD_none, show (1 : Int) > 0 by decide, if_true]
      by_cases h : i < 0
      · simp only [h, if_true] <;> omega
      · simp only [h, if_false] <;> omega
  · cases hi with
    | none => simp [sliceBounds, HT.sIx]
    | some i =>
      simp only [sliceBounds, HT.sIx, Option.getD_none, show (1 : Int) > 0 by decide, if_true]
      by_cases h : i < 0
      · simp only [h, if_true] <;> omega
      · simp only [h, if_false] <;> omega
theorem slicePick_cut (its : List Value) (lo hi : Option Int) : slicePick its.toArray lo hi none = ((its.drop (HT.sIx its.length 0 lo)).take (HT.sIx its.length its.length hi - HT.sIx its.length 0 lo)).toArray := by
  obtain ⟨h1, h2, h3⟩ := slice_bounds lo hi its.toArray.size
  unfold slicePick
  rw [h1, h2, h3]
  simp only [sliceRange_one, pick_run, List.size_toArray] <;> rfl
/-- xs[lo:hi] of a list: a new list -/
inductive rSlL (K : PySem.W.Frag) (x : V) (lo : Option Int) (hi : Option Int) (H : Hp) (Q : VK) : Prop
  | mk a xs : (x = .ref a) → (SqL K H a xs) → (∀ p, H p = none → Q (.ref p) (upd H p (.lst (cutV xs lo hi)))) → rSlL K x lo hi H Q
theorem sl_list : SlR X (rSlL X.K) := by
  intro pins s σ H x v vl vu lo hi sl Q I rx hs pl pu h
  obtain ⟨a, xs, rfl, hx, q⟩ := h
  cases rx
  obtain ⟨its, r, ht, hz⟩ := I.list hx
  have hlen := r.length
  refine ⟨"list", _, slot_list_getitem.lookup, ht.isList.typeIs, ?_⟩
  refine wpAny_getItem_list_slice ht.isList hs pl pu .none (by simp) ?_ (by rw [List.size_toArray] <;> omega)
  rw [slicePick_cut, ← hlen]
  refine ⟨.ref s.heap.objs.size, _, I.laid (t' := s.toks) (o := .lst (cutV xs lo hi)) (fun b ob q => Heap.get?_push_of_some _ q) (Nat.le_refl _) ?_, rfl, q _ (I.hok.fresh (Nat.le_refl _))⟩
  exact ⟨Nat.le_trans (cutV_length xs lo hi) hz, _, 0, (r.drop (HT.sIx xs.length 0 lo)).take (HT.sIx xs.length xs.length hi - HT.sIx xs.length 0 lo), Heap.get?_push_size _ rfl⟩

/-! ### in, not in: flat items -/


theorem call_len_seq : CallR X (.builtin "len") (rLen X.K) := by
  intro pins s σ H xs us Q I r h
  obtain ⟨p, ys, rfl, hq, q⟩ := h
  obtain ⟨u, rfl, rx⟩ := vals1 r
  cases rx
  have hn := line63
  rcases hq with hq | hq
  · obtain ⟨its, r', pl, hz⟩ := I.list hq
    have hlen := r'.length
    exact Calls.call_len_list pl.isList (by simp only [List.size_toArray] <;> omega) ⟨.int ys.length, H, I.tok _, ⟨s.toks + 1, by rw [List.size_toArray, hlen]⟩, q⟩
  · obtain ⟨its, r', pl, hz⟩ := I.tuple hq
    have hlen := r'.length
    exact len_tuple pl (by simp only [List.size_toArray] <;> omega) ⟨.int ys.length, H, I.tok _, ⟨s.toks + 1, by rw [List.size_toArray, hlen]⟩, q⟩
theorem call_list_of : CallR X (.type "list") (fun xs H Q => ∃ p ys, xs = [.ref p] ∧ (SqL X.K H p ys ∨ SqT X.K H p ys) ∧ ∀ l, H l = none → Q (.ref l) (upd H l (.lst ys))) := by
  intro pins s σ H xs us Q I r h
  obtain ⟨p, ys, rfl, hq, q⟩ := h
  obtain ⟨u, rfl, rx⟩ := vals1 r
  cases rx
  have fin : ∀ (its : List Value), Vals ys its → ys.length ≤ sizeLine → ∀ (h' : Heap) (c' : Nat), (∀ b o', s.heap.get? b = some o' → h'.get? b = some o') →
      h'.get? s.heap.objs.size = some { cls := .type "list", dict := none, data := .seq its.toArray c', slots := #[] } → EP X pins σ Q (.ref s.heap.objs.size) { s with heap := h' } := fun its r' hz h' c' kp e =>
    ⟨.ref s.heap.objs.size, _, I.laid (t' := s.toks) kp (Nat.le_refl _) (show ObjOk X.prog X.w _ h' _ (.lst ys) from ⟨hz, its, c', r', e⟩), rfl, q _ (I.hok.fresh (Nat.le_refl _))⟩
  rcases hq with hq | hq
  · obtain ⟨its, r', pl, hz⟩ := I.list hq
    have hlen := r'.length
    obtain ⟨o, ho, hc, n, hd⟩ := pl.isList
    exact call_list_seq p (.inl rfl) ho hc hd (fun h' c' kp e => fin its r' hz h' c' kp e) (by simp only [List.size_toArray] <;> omega)
  · obtain ⟨its, r', pl, hz⟩ := I.tuple hq
    have hlen := r'.length
    obtain ⟨o, ho, hc, n, hd⟩ := pl
    exact call_list_seq p (.inr rfl) ho hc hd (fun h' c' kp e => fin its r' hz h' c' kp e) (by simp only [List.size_toArray] <;> omega)

/-! ### the call of a builtin's method: o.m(..) -/
/-- the value is of that builtin type -/
def tyV (K : PySem.W.Frag) (T : String) (x : V) (H : Hp) : Prop := match x with
  | .str _ => T = "str"
  | .int _ => T = "int"
  | .ref p => (T = "list" ∧ ∃ xs, SqL K H p xs) ∨ (T = "tuple" ∧ ∃ o, K.lookup p = some o ∧ o.cls = .type "tuple" ∧ o.dict = none) ∨
      (T = "dict" ∧ ((∃ kvs, H p = some (.dK kvs)) ∨ ∃ kvs, H p = some (.dT kvs))) ∨ (T = "set" ∧ ∃ S n, H p = some (.set S n))
  | _ => False
theorem tyV_is {pins : List (Addr × Obj)} {σ : St} {H : Hp} {s : Shared} {T : String} {x : V} {v : Value} (I : Inv X pins σ H s) (r : RelV x v) (ty : tyV X.K T x H) :
    s.TypeIs v T ∧ ∀ a, v = .ref a → ∃ ob, s.heap.get? a = some ob ∧ ob.dict = none := by
  cases x with
  | str z =>
    obtain ⟨t, rfl⟩ := r
    cases (show T = "str" from ty)
    exact ⟨typeIs_str s z t, fun _ e => nomatch e⟩
  | int i =>
    obtain ⟨t, rfl⟩ := r
    cases (show T = "int" from ty)
    exact ⟨typeIs_int s i t, fun _ e => nomatch e⟩
  | ref p =>
    cases r
    rcases ty with ⟨rfl, xs, hq⟩ | ⟨rfl, o, hk, hc, hd⟩ | ⟨rfl, hk⟩ | ⟨rfl, S, n, hk⟩
    · obtain ⟨its, _, pl, _⟩ := I.list hq
      refine ⟨pl.isList.typeIs, fun a e => ?_⟩
      cases e
      obtain ⟨o, n, e, c, hd, _⟩ := pl
      exact ⟨o, e, hd⟩
    · refine ⟨⟨o, I.kIn p o hk, hc⟩, fun a e => ?_⟩
      cases e
      exact ⟨o, I.kIn _ o hk, hd⟩
    · have z : ∃ o, s.heap.get? p = some o ∧ o.ExactDict := by
        rcases hk with ⟨kvs, hk⟩ | ⟨kvs, hk⟩
        · obtain ⟨_, _, _, _, o, _, _, e, ex, _⟩ := I.hok p _ hk
          exact ⟨o, e, ex⟩
        · obtain ⟨_, _, _, _, o, _, _, e, ex, _⟩ := I.hok p _ hk
          exact ⟨o, e, ex⟩
      obtain ⟨o, e, ex⟩ := z
      refine ⟨⟨o, e, ex.1⟩, fun a e2 => ?_⟩
      cases e2
      exact ⟨o, e, ex.2.1⟩
    · obtain ⟨o, _, _, _, e, ex, _⟩ := I.hok p _ hk
      refine ⟨⟨o, e, ex.1⟩, fun a e2 => ?_⟩
      cases e2
      exact ⟨o, e, ex.2.1⟩
  | _ => exact False.elim ty
def tBM0 (K : PySem.W.Frag) (T : String) (r : V → List V → Hp → VK → Prop) (to : TE) : TE := fun σ H Q => to σ H fun x H1 => tyV K T x H1 ∧ r x [] H1 Q
def tBM (K : PySem.W.Frag) (T : String) (r : V → List V → Hp → VK → Prop) (to : TE) (t : TA) : TE := fun σ H Q => to σ H fun x H1 => tyV K T x H1 ∧ t σ H1 fun xs H2 => r x xs H2 Q
variable {o e : Expr} {es : List Expr} {to : TE} {t : TA} {name : Str} {apos cpos : Pos} {T id : String} {r : V → List V → Hp → VK → Prop}
theorem pe_bm0 (pa : PlainAttrs T) (slot : Slot T name id) (hty : typeOf (.builtin id) = pure (.type "method_descriptor")) (hm : MtR X id r) (ho : PE X o to)
    (hbase : attributeBase o name X.env (eval o X.env) = eval o X.env := by rfl) (hline : (apos.endLine == cpos.line) = true := by rfl) : PE X (.Call (.Attribute o name apos) [] [] cpos) (tBM0 X.K T r to) := by
  intro pins s σ H Q I h
  refine wpAny_Call_method0_late hbase hline (thn (ho pins s σ H _ I h) fun v s1 ⟨x, H1, I1, r1, ty, q1⟩ => ?_)
  obtain ⟨h1, h2⟩ := tyV_is I1 r1 ty
  exact ⟨T, id, pa, slot, hty, h1, h2, Calls.callWith_builtin rfl (PySem.evalArgs_none (hm pins s1 σ H1 x [] v [] Q I1 r1 .nil q1))⟩
theorem pe_bm (pa : PlainAttrs T) (slot : Slot T name id) (hty : typeOf (.builtin id) = pure (.type "method_descriptor")) (hm : MtR X id r) (ho : PE X o to) (ha : PA X (e :: es) t)
    (hbase : attributeBase o name X.env (eval o X.env) = eval o X.env := by rfl)
    (hfew : ((backTo cpos (starEach (e :: es) X.env)).all (fun x => !x.1) && (backToKw cpos (keywordEach [] X.env)).all (fun x => x.1.isSome)
      && decide ((e :: es).length + ([] : List Keyword).length + (if ([] : List Keyword).isEmpty then 0 else 1) < 30)) = true := by rfl)
    (hline : (apos.endLine == cpos.line) = true := by rfl) (hs : starEach (e :: es) X.env = (false, eval e X.env) :: starEach es X.env := by rfl) (hplain : (backTo cpos (starEach es X.env)).any (·.1) = false := by rfl) :
    PE X (.Call (.Attribute o name apos) (e :: es) [] cpos) (tBM X.K T r to t) := by
  intro pins s σ H Q I h
  refine wpAny_Call_method_late hbase hfew hline rfl (thn (ho pins s σ H _ I h) fun v s1 ⟨x, H1, I1, r1, ty, q1⟩ => ?_)
  obtain ⟨h1, h2⟩ := tyV_is I1 r1 ty
  refine ⟨T, id, pa, slot, hty, h1, h2, ?_⟩
  have hA := ha cpos pins s1 σ H1 _ I1 q1
  rw [hs] at hA ⊢
  refine Calls.callWith_builtin (by show (false || (backTo cpos (starEach es X.env)).any (·.1)) = false; rw [hplain] <;> rfl) (Calls.evalArgs_plain ?_)
  exact thn hA fun us s2 ⟨vs, H2, I2, r2, q2⟩ => hm pins s2 σ H2 x vs v us Q I2 r1 r2 q2
/- xs.append(e), list.index on a module's tuple .. are MtR facts of 06m -/
end
end L2

namespace L2
open PySem PySem.Spec PyProof.Rows

def MtM (X : Cx) (id : String) (r : V → List V → Hp → VK → Prop) : Prop :=
  ∀ (pins : List (Addr × Obj)) (s : Shared) (σ : St) (H : Hp) (x : V) (xs : List V) (v : Value) (us : List Value) (Q : VK), Inv X pins σ H s → RelV x v → Vals xs us → r x xs H Q →
    wpAny (model X.prog X.w) X.A (call (.builtin id) (v :: us)) (EP X pins σ Q) X.xe s

/-! ### lists of values -/
theorem Vals.one : ∀ {x : V} {us : List Value}, Vals [x] us → ∃ u, us = [u] ∧ RelV x u
  | _, _, .cons r .nil => ⟨_, rfl, r⟩
theorem Vals.zero : ∀ {us : List Value}, Vals [] us → us = []
  | _, .nil => rfl
theorem Vals.dropLast {xs : List V} {us : List Value} (h : Vals xs us) : Vals xs.dropLast us.dropLast := by
  induction h with
  | nil => exact .nil
  | cons r t ih =>
    cases t with
    | nil => exact .nil
    | cons q t' => exact .cons r ih
theorem Vals.rep {xs : List V} {us : List Value} (h : Vals xs us) : ∀ k : Nat, Vals (List.replicate k xs).flatten (List.replicate k us).flatten
  | 0 => .nil
  | k + 1 => by
    rw [List.replicate_succ, List.replicate_succ, List.flatten_cons, List.flatten_cons]
    exact Vals.append h (Vals.rep h k)
theorem erase_last {α : Type} (l : List α) : l.eraseIdx (l.length - 1) = l.dropLast := by
  induction l with
  | nil => rfl
  | cons a r ih =>
    cases r with
    | nil => rfl
    | cons b r =>
      have e : (a :: b :: r).length - 1 = ((b :: r).length - 1) + 1 := by
        have h1 : (a :: b :: r).length = r.length + 2 := rfl
        have h2 : (b :: r).length = r.length + 1 := rfl
        omega
      rw [e, List.eraseIdx_cons_succ, ih]
      all_goals rfl
theorem foldl_rep (its : List Value) : ∀ (k : Nat) (acc : List Value),
    List.foldl (fun x1 x2 => x1 ++ x2) acc.toArray (List.replicate k its.toArray) = (acc ++ (List.replicate k its).flatten).toArray
  | 0, acc => by simp
  | k + 1, acc => by
    have e : acc.toArray ++ its.toArray = (acc ++ its).toArray := by simp
    have e2 : (acc ++ its) ++ (List.replicate k its).flatten = acc ++ (List.replicate (k + 1) its).flatten := by
      rw [List.replicate_succ, List.flatten_cons, List.append_assoc]
    rw [← e2, ← foldl_rep its k (acc ++ its), ← e, List.replicate_succ, List.foldl_cons]

section
variable {X : Cx} {pins : List (Addr × Obj)} {σ : St} {H : Hp} {s : Shared} {l b : Addr} {xs ys zs : List V}

/-! ### the two steps: a tracked list is rewritten, a new list is laid -/
theorem Inv.lset {its its' : List Value} {n : Nat} {f : Array Value → Array Value} {t' : Nat} (I : Inv X pins σ H s) (hH : H l = some (.lst xs))
    (e : s.heap.get? l = some { cls := .type "list", data := .seq its.toArray n }) (hf : f its.toArray = its'.toArray) (hv : Vals ys its') (hz : ys.length ≤ sizeLine) :
    Inv X pins σ (upd H l (.lst ys)) { s with heap := s.heap.update l (Obj.mapSeq f), toks := t' } := by
  have q := PySem.IsL.update e f
  rw [hf] at q
  refine I.write (x := l) (e := l) (by rw [hH]; exact trivial) (.inl rfl) (fun b' u hb hu => (Heap.get?_update_other s.heap (Obj.mapSeq f) (Ne.symm hb)).trans hu) ⟨_, q⟩ ?_
  exact ⟨hz, its', _, hv, q⟩
theorem Inv.lnew {its : List Value} {t' : Nat} (I : Inv X pins σ H s) (hv : Vals ys its) (hz : ys.length ≤ sizeLine) :
    Inv X pins σ (upd H s.heap.objs.size (.lst ys)) { s with heap := s.heap.push { cls := .type "list", data := .seq its.toArray }, toks := t' } :=
  I.laid (fun _ _ q => Heap.get?_push_of_some _ q) (Nat.le_refl _) ⟨hz, its, 0, hv, Heap.get?_push_size _ rfl⟩
theorem Inv.fresh (I : Inv X pins σ H s) : H s.heap.objs.size = none := I.hok.fresh (Nat.le_refl _)
theorem Inv.lstM (I : Inv X pins σ H s) (hH : H l = some (.lst xs)) : xs.length ≤ sizeLine ∧ ∃ (its : List Value) (n : Nat), Vals xs its ∧ xs.length = its.length ∧ s.heap.get? l = some { cls := .type "list", data := .seq its.toArray n } := by
  obtain ⟨z, its, n, r, e⟩ := I.hok l _ hH
  exact ⟨z, its, n, r, r.length, e⟩

theorem notLongL {n : Nat} (h : n ≤ sizeLine) : Builtin.List.listTooLong n = false := by
  unfold Builtin.List.listTooLong
  exact decide_eq_false (by omega)
end

section
variable {X : Cx}

/-! ### methods -/
inductive rAppend  (x : V) (vs : List V) (H : Hp) (Q : VK) : Prop
  | mk l xs y : (x = .ref l) → (vs = [y]) → (H l = some (.lst xs)) → (xs.length < sizeLine) → (Q .non (upd H l (.lst (xs ++ [y])))) → rAppend  x vs H Q
theorem mt_append : MtM X "list.append" rAppend := by
  intro pins s σ H x vs v us Q I rx rv h
  obtain ⟨l, xs, y, rfl, rfl, hH, hz, q⟩ := h
  cases rx
  obtain ⟨u, rfl, ru⟩ := rv.one
  obtain ⟨z, its, n, r, hl, e⟩ := I.lstM hH
  refine call_meets F.slot_list_append ⟨_, e, rfl⟩ F.entry_list_append (F.args_list_append_2 _ _) (PySem.list_append l its.toArray n u (by rw [List.size_toArray]; omega)) ⟨e, ?_⟩
  refine ⟨.non, _, I.lset (its' := its ++ [u]) hH e (by simp) (r.append (.cons ru .nil)) ?_, rfl, q⟩
  rw [List.length_append, List.length_singleton]
  omega

inductive rExtend  (x : V) (vs : List V) (H : Hp) (Q : VK) : Prop
  | mk l b xs zs : (x = .ref l) → (vs = [.ref b]) → (H l = some (.lst xs)) → (H b = some (.lst zs)) → (xs.length + zs.length ≤ sizeLine) → (Q .non (upd H l (.lst (xs ++ zs)))) → rExtend  x vs H Q
theorem mt_extend : MtM X "list.extend" rExtend := by
  intro pins s σ H x vs v us Q I rx rv h
  obtain ⟨l, b, xs, zs, rfl, rfl, hH, hB, hz, q⟩ := h
  cases rx
  obtain ⟨u, rfl, ru⟩ := rv.one
  cases ru
  obtain ⟨z, its, n, r, hl, e⟩ := I.lstM hH
  obtain ⟨z2, its2, n2, r2, hl2, e2⟩ := I.lstM hB
  have hsz : its.toArray.size + its2.toArray.size ≤ sizeLine := by rw [List.size_toArray, List.size_toArray]; omega
  have hlong : ¬ (!its.toArray.isEmpty && Builtin.List.listTooLong (its.toArray.size + its2.toArray.size)) = true := by
    rw [notLongL hsz, Bool.and_false]
    exact Bool.false_ne_true
  refine call_meets F.slot_list_extend ⟨_, e, rfl⟩ F.entry_list_extend (F.args_list_extend_2 _ _)
    (AutoSeq1.list_extend_list_list_0 l its.toArray n b its2.toArray n2 hlong (by rw [List.size_toArray]; omega) (by omega)) ⟨e, e2, ?_⟩
  refine ⟨.non, _, I.lset (its' := its ++ its2) hH e (by simp) (r.append r2) ?_, rfl, q⟩
  rw [List.length_append]
  omega

inductive rPop  (x : V) (vs : List V) (H : Hp) (Q : VK) : Prop
  | mk l xs y : (x = .ref l) → (vs = []) → (H l = some (.lst xs)) → (xs[xs.length - 1]? = some y) → (Q y (upd H l (.lst xs.dropLast))) → rPop  x vs H Q
theorem mt_pop : MtM X "list.pop" rPop := by
  intro pins s σ H x vs v us Q I rx rv h
  obtain ⟨l, xs, y, rfl, rfl, hH, hy, q⟩ := h
  cases rx
  have hus := rv.zero
  subst hus
  obtain ⟨z, its, n, r, hl, e⟩ := I.lstM hH
  obtain ⟨u, hu, ru⟩ := r.get hy
  have hy' : its.toArray[its.toArray.size - 1]? = some u := by
    show its.toArray[its.length - 1]? = some u
    rw [← Array.getElem?_toList, ← hl]
    exact hu
  refine call_meets F.slot_list_pop ⟨_, e, rfl⟩ F.entry_list_pop (F.args_list_pop_1 _) (MeetsSeq.list_pop_last l its.toArray n u hy' (by rw [List.size_toArray]; omega)) ⟨e, ?_⟩
  refine ⟨y, _, I.lset (its' := its.dropLast) hH e ?_ r.dropLast ?_, ru, q⟩
  · show its.toArray.eraseIdxIfInBounds (its.toArray.size - 1) = its.dropLast.toArray
    rw [List.size_toArray, List.eraseIdxIfInBounds_toArray, erase_last]
  · rw [List.length_dropLast]
    omega

/-! ### list + list, list += list, list * int -/
inductive rCat  (x : V) (y : V) (H : Hp) (Q : VK) : Prop
  | mk l b xs zs : (x = .ref l) → (y = .ref b) → (H l = some (.lst xs)) → (H b = some (.lst zs)) → (xs.length + zs.length ≤ sizeLine) → (∀ p, H p = none → Q (.ref p) (upd H p (.lst (xs ++ zs)))) → rCat  x y H Q
theorem op_cat : OpR X (binaryOp .Add) rCat := by
  intro pins s σ H x y v u Q I rx ry h
  obtain ⟨l, b, xs, zs, rfl, rfl, hH, hB, hz, q⟩ := h
  cases rx
  cases ry
  obtain ⟨z, its, n, r, hl, e⟩ := I.lstM hH
  obtain ⟨z2, its2, n2, r2, hl2, e2⟩ := I.lstM hB
  refine PySem.P.add_list e e2 ?_ (by rw [List.size_toArray, List.size_toArray]; omega)
  have ea : its.toArray ++ its2.toArray = (its ++ its2).toArray := by simp
  rw [ea]
  exact ⟨.ref _, _, I.lnew (t' := s.toks) (r.append r2) (by rw [List.length_append]; omega), rfl, q _ I.fresh⟩
/-- a list times an int (a negative one is nothing) -/
inductive rRep  (x : V) (y : V) (H : Hp) (Q : VK) : Prop
  | mk l k xs : (x = .ref l) → (y = .int k) → (H l = some (.lst xs)) → (-(2 ^ 63) ≤ k) → (k < 2 ^ 63) → (xs.length * k.toNat ≤ sizeLine) → (∀ p, H p = none → Q (.ref p) (upd H p (.lst (List.replicate k.toNat xs).flatten))) → rRep  x y H Q
theorem len_rep {α : Type} (xs : List α) (k : Nat) : (List.replicate k xs).flatten.length = k * xs.length := by
  induction k with
  | zero => simp
  | succ k ih => rw [List.replicate_succ, List.flatten_cons, List.length_append, ih, Nat.succ_mul, Nat.add_comm]
theorem op_rep : OpR X (binaryOp .Mult) rRep := by
  intro pins s σ H x y v u Q I rx ry h
  obtain ⟨l, k, xs, rfl, rfl, hH, h1, h2, hz, q⟩ := h
  cases rx
  obtain ⟨t, rfl⟩ := ry
  obtain ⟨z, its, n, r, hl, e⟩ := I.lstM hH
  have hlen : its.toArray.size * k.toNat ≤ sizeLine := by rw [List.size_toArray, ← hl]; exact hz
  have hcap : ¬ its.toArray.size * k.toNat > (2 ^ 63 - 1) / 8 := by
    have : (sizeLine : Nat) ≤ (2 ^ 63 - 1) / 8 := by decide
    omega
  have hfit : ¬ (!Builtin.List.listFitsIndex k) = true := by
    rw [fitsIndex_both h1 h2]
    exact Bool.false_ne_true
  have hlong : ¬ Builtin.List.listTooLong (its.toArray.size * k.toNat) = true := by
    rw [notLongL hlen]
    exact Bool.false_ne_true
  have hnew : List.foldl (fun x1 x2 => x1 ++ x2) #[] (List.replicate (if its.toArray.isEmpty = true then 0 else k.toNat) its.toArray) = (List.replicate k.toNat its).flatten.toArray := by
    have f0 : ∀ m : Nat, List.foldl (fun x1 x2 => x1 ++ x2) #[] (List.replicate m its.toArray) = (List.replicate m its).flatten.toArray := fun m => by
      have := foldl_rep its m []
      rw [List.nil_append] at this
      exact this
    rw [f0]
    cases its with
    | nil => simp
    | cons a r' => rw [if_neg (by simp)]
  refine wpAny_binaryOp_repeat_ref (T := "list") (U := "int") (by decide) ⟨_, e, rfl⟩ (fun s' => typeIs_int s' k t) noFill_list_mul F.fills_int_mul F.slot_int_rmul repeat_list F.slot_int_index.lookup
    (call_meets F.slot_int_rmul (typeIs_int s k t) F.entry_int_rmul (F.args_int_rmul_2 _ _) (int___rmul___int_list k t l its.toArray n)
      ⟨e, rfl, ⟨_, e, rfl⟩, call_meets F.slot_list_mul ⟨_, e, rfl⟩ F.entry_list_mul (F.args_list_mul_2 _ _) (AutoListH.list___mul___list_int_3 l its.toArray n k t hfit hcap hlong) ⟨e, ?_⟩⟩)
  rw [hnew]
  exact ⟨.ref _, _, I.lnew (t' := s.toks) (r.rep k.toNat) (by rw [len_rep, Nat.mul_comm]; exact hz), rfl, q _ I.fresh⟩

/-! ### del xs[i] -/
end

/-! ### xs[a:b] = ys -/

end L2

namespace L2
open PySem PySem.Spec PyProof.Rows

theorem Vals.ints : ∀ {ns : List Int} {us : List Value}, Vals (ns.map V.int) us → IntsAre us ns
  | [], us, h => by
    rw [List.map_nil] at h
    cases h
    exact IntsAre.nil
  | n :: ns, us, h => by
    rw [List.map_cons] at h
    cases h with
    | cons r t =>
      obtain ⟨k, rfl⟩ := r
      exact IntsAre.cons n k (Vals.ints t)
theorem vals_of_ints : ∀ {us : List Value} {ns : List Int}, IntsAre us ns → Vals (ns.map V.int) us
  | _, _, .nil => by rw [List.map_nil]; exact Paired.nil
  | _, _, .cons n t h => by rw [List.map_cons]; exact Paired.cons (show RelV (V.int n) (Value.int n t) from ⟨t, rfl⟩) (vals_of_ints h)
theorem Vals.ref1 {a : Addr} {us : List Value} (r : Vals [V.ref a] us) : us = [Value.ref a] := by
  cases r with
  | cons r t =>
    cases t
    cases r
    rfl

/-! ### the library's walks over a list of ints, kept objects alone -/
section
variable {prog : Program} {w : World} {A : Around} {E : Value → Shared → Prop} {s : Shared} {l : Addr} {its : List Value} {ns : List Int} {Q : Value → Shared → Prop}
theorem sum_raw (hh : A.handled = none) (hl : s.heap.IsList l its.toArray) (hi : IntsAre its ns)
    (h : ∀ h' tk t', (∀ b o, s.heap.get? b = some o → h'.get? b = some o) → Q (.int ns.sum t') { s with heap := h', toks := tk }) : wpAny (model prog w) A (call (.builtin "sum") [.ref l]) Q E s := by
  obtain ⟨xs, e⟩ := hi.allInts.items
  have hn : numsOf (intItems xs).toList = ns := by rw [← e]; exact hi.numsOf
  rw [nums_intItems] at hn
  rw [e] at hl
  refine PySem.sum_intListG hh hl fun h' tk t' hk => ?_
  have := h h' tk t' hk
  rw [preSum_eq, List.take_of_length_le (by simp), hn]; exact this
theorem max_raw (hh : A.handled = none) (hl : s.heap.IsList l its.toArray) (hi : IntsAre its ns) (hne : 0 < ns.length)
    (h : ∀ h' tk M t', (∀ b o, s.heap.get? b = some o → h'.get? b = some o) → M ∈ ns → (∀ a, a ∈ ns → a ≤ M) → Q (.int M t') { s with heap := h', toks := tk }) : wpAny (model prog w) A (call (.builtin "max") [.ref l]) Q E s := by
  obtain ⟨xs, e⟩ := hi.allInts.items
  have hn : numsOf (intItems xs).toList = ns := by rw [← e]; exact hi.numsOf
  rw [nums_intItems] at hn
  subst hn
  rw [e] at hl
  have hsz : 0 < xs.size := by simpa using hne
  refine PySem.max_intList hh hl hsz fun v h' tk hv hk => ?_
  obtain ⟨t, rfl⟩ := intItems_at hv
  obtain ⟨h1, h2⟩ := argBest_gt (numAt xs) (xs.size - 1)
  refine h h' tk _ t hk ?_ fun a ha => ?_
  · rw [numAt_eq]; exact PySem.getD_mem (by rw [List.length_map, Array.length_toList]; omega)
  · obtain ⟨j, hj, rfl⟩ := mem_getD ha
    rw [List.length_map, Array.length_toList] at hj
    rw [← numAt_eq]; exact h2 j (by omega)
end

/-! ### the calls, by values (CallR of 03t; MtR of 06l) -/
section
variable {X : Cx}
/-- sum(xs) of a list of ints -/
inductive rSum (K : PySem.W.Frag) (vs : List V) (H : Hp) (Q : VK) : Prop
  | mk (a : Addr) (ns : List Int) : (vs = [V.ref a]) → (SqL K H a (ns.map V.int)) → (Q (.int ns.sum) H) → rSum K vs H Q
/-- max(xs), min(xs) of a list of ints -/
inductive rMax (K : PySem.W.Frag) (vs : List V) (H : Hp) (Q : VK) : Prop
  | mk (a : Addr) (ns : List Int) : (vs = [V.ref a]) → (SqL K H a (ns.map V.int)) → (0 < ns.length) → (∀ m, m ∈ ns → (∀ y, y ∈ ns → y ≤ m) → Q (.int m) H) → rMax K vs H Q
theorem cr_sum (hc : X.calm = true) : CallR X (.builtin "sum") (rSum X.K) := by
  intro pins s σ H vs us Q I r h
  obtain ⟨a, ns, rfl, hs, q⟩ := h
  obtain ⟨its, rv, hl, _⟩ := I.list hs
  rw [Vals.ref1 r]
  exact sum_raw (I.ok.hd hc) hl.isList rv.ints fun h' tk t' hk => ⟨.int _, H, I.kept hk, ⟨_, rfl⟩, q⟩
theorem cr_max (hc : X.calm = true) : CallR X (.builtin "max") (rMax X.K) := by
  intro pins s σ H vs us Q I r h
  obtain ⟨a, ns, rfl, hs, hne, q⟩ := h
  obtain ⟨its, rv, hl, _⟩ := I.list hs
  rw [Vals.ref1 r]
  exact max_raw (I.ok.hd hc) hl.isList rv.ints hne fun h' tk m t' hk h1 h2 => ⟨.int _, H, I.kept hk, ⟨_, rfl⟩, q m h1 h2⟩

/-! sorted, sort (fewer than 64 items: the library's own bound) -/
end

/-! ### list.index, flat items -/

/-! ### type(x) of an own instance; is, is not of a module's class -/

/-! ### any(xs), all(xs) of a list of bools -/

/-! ### == and != of data at any depth: none, bools, ints, texts, lists, tuples -/
end L2

namespace L2
open PySem PySem.Spec PyProof.Rows
abbrev CellAt (h : Heap) (c : Addr) (v : Option Value) : Prop := h.IsCell c v
def relS (scope sc : Scope) : Scope :=
  { scope with names := scope.names.map fun (n, k) => if (k == .free && sc.kind == .function && sc.names.lookup n == some .cell) then (n, .cell) else (n, k) }

def cloFrom (cells : List (Str × Addr)) : List (Str × NameKind) → List (Str × Addr) → List (Str × Addr)
  | [], acc => acc
  | (n, k) :: r, acc => if k == .free then cloFrom cells r ((n, (cells.lookup n).getD 0) :: acc) else cloFrom cells r acc

theorem closure_loop (env : Env) (f : Str × NameKind → List (Str × Addr) → Sem (ForInStep (List (Str × Addr))))
    (hf : ∀ n k c, f (n, k) c = if k == .free then (do let a ← cellOf env n; pure (.yield ((n, a) :: c))) else pure (.yield c)) :
    ∀ (names : List (Str × NameKind)) (acc : List (Str × Addr)), (∀ y ∈ names, y.2 = .free → ∃ c, env.cells.lookup y.1 = some c) → forIn names acc f = pure (cloFrom env.cells names acc)
  | [], acc, _ => by rw [List.forIn_nil]; rfl
  | (n, k) :: r, acc, h => by
    rw [List.forIn_cons, hf]
    have ih := fun acc => closure_loop env f hf r acc fun y hy => h y (List.mem_cons_of_mem _ hy)
    unfold cloFrom
    by_cases hk : (k == NameKind.free) = true
    · rw [if_pos hk, if_pos hk]
      obtain ⟨c, hc⟩ := h (n, k) List.mem_cons_self (by simpa using hk)
      have e : cellOf env n = pure c := by unfold cellOf; rw [hc]
      rw [e]
      have e2 : (env.cells.lookup n).getD 0 = c := by rw [hc]; rfl
      rw [e2]
      exact ih _
    · rw [if_neg hk, if_neg hk]
      exact ih _
theorem closure_ok {scope : Scope} {env : Env} (h : ∀ y ∈ scope.names, y.2 = .free → ∃ c, env.cells.lookup y.1 = some c) : closureFor scope env = pure (cloFrom env.cells scope.names []) := by
  simp only [closureFor]
  rw [closure_loop env _ (fun n k c => rfl) scope.names [] h]
  rfl

theorem mem_lookup {α : Type} : ∀ {l : List (Str × α)} {n : Str} {c : α}, (n, c) ∈ l → ∃ c', l.lookup n = some c'
  | (k, v) :: r, n, c, h => by
    rw [List.lookup_cons]
    cases hb : n == k with
    | true => exact ⟨_, rfl⟩
    | false =>
      rcases List.mem_cons.mp h with e | h
      · cases e; simp at hb
      · exact mem_lookup h

theorem cloFrom_mem {cells : List (Str × Addr)} : ∀ {names : List (Str × NameKind)} {acc : List (Str × Addr)} {n : Str} {c : Addr}, (n, c) ∈ cloFrom cells names acc → (n, c) ∈ acc ∨ ((n, .free) ∈ names ∧ c = (cells.lookup n).getD 0)
  | [], _, _, _, h => .inl h
  | (m, k) :: r, acc, n, c, h => by
    unfold cloFrom at h
    split at h
    · rename_i hk
      have hk : k = .free := by simpa using hk
      rcases cloFrom_mem h with h | ⟨h1, h2⟩
      · rcases List.mem_cons.mp h with e | h
        · cases e; exact .inr ⟨hk ▸ List.mem_cons_self, rfl⟩
        · exact .inl h
      · exact .inr ⟨List.mem_cons_of_mem _ h1, h2⟩
    · rcases cloFrom_mem h with h | ⟨h1, h2⟩
      · exact .inl h
      · exact .inr ⟨List.mem_cons_of_mem _ h1, h2⟩
theorem cloFrom_acc {cells : List (Str × Addr)} : ∀ {names : List (Str × NameKind)} {acc : List (Str × Addr)} {p : Str × Addr}, p ∈ acc → p ∈ cloFrom cells names acc
  | [], _, _, h => h
  | (m, k) :: r, acc, p, h => by
    unfold cloFrom
    split
    · exact cloFrom_acc (List.mem_cons_of_mem _ h)
    · exact cloFrom_acc h
theorem cloFrom_has {cells : List (Str × Addr)} : ∀ {names : List (Str × NameKind)} {acc : List (Str × Addr)} {n : Str}, (n, .free) ∈ names → (n, (cells.lookup n).getD 0) ∈ cloFrom cells names acc
  | (m, k) :: r, acc, n, h => by
    unfold cloFrom
    rcases List.mem_cons.mp h with e | h
    · cases e
      exact cloFrom_acc List.mem_cons_self
    · split
      · exact cloFrom_has h
      · exact cloFrom_has h

theorem cells_mem : ∀ {names : List (Str × NameKind)} {h : Heap} {acc : List (Str × Addr)} {x : Str} {c : Addr}, (x, c) ∈ cellsFrom h.objs.size names acc →
    (x, c) ∈ acc ∨ ((x, .cell) ∈ names ∧ h.objs.size ≤ c ∧ CellAt (pushCells h names) c none)
  | [], _, _, _, _, h => .inl h
  | (n, k) :: r, h, acc, x, c, hm => by
    unfold cellsFrom at hm
    unfold pushCells
    split at hm
    · rename_i hk
      rw [if_pos hk]
      have hk : k = .cell := by simpa using hk
      rw [← Heap.size_push h { cls := .type "cell", data := .cell none }] at hm
      rcases cells_mem hm with hm | ⟨h1, h2, h3⟩
      · rcases List.mem_cons.mp hm with e | hm
        · cases e
          exact .inr ⟨hk ▸ List.mem_cons_self, Nat.le_refl _, _, pushCells_keeps r _ _ _ (Heap.get?_push_size _ rfl), rfl⟩
        · exact .inl hm
      · rw [Heap.size_push] at h2
        exact .inr ⟨List.mem_cons_of_mem _ h1, Nat.le_of_succ_le h2, h3⟩
    · rename_i hk
      rw [if_neg hk]
      rcases cells_mem hm with hm | ⟨h1, h2, h3⟩
      · exact .inl hm
      · exact .inr ⟨List.mem_cons_of_mem _ h1, h2, h3⟩
theorem cells_acc : ∀ {names : List (Str × NameKind)} {n : Nat} {acc : List (Str × Addr)} {p : Str × Addr}, p ∈ acc → p ∈ cellsFrom n names acc
  | [], _, _, _, h => h
  | (m, k) :: r, n, acc, p, h => by
    unfold cellsFrom
    split
    · exact cells_acc (List.mem_cons_of_mem _ h)
    · exact cells_acc h
theorem cells_has : ∀ {names : List (Str × NameKind)} {n : Nat} {acc : List (Str × Addr)} {x : Str}, (x, .cell) ∈ names → ∃ c, (x, c) ∈ cellsFrom n names acc
  | (m, k) :: r, n, acc, x, h => by
    unfold cellsFrom
    rcases List.mem_cons.mp h with e | h
    · cases e
      exact ⟨n, cells_acc List.mem_cons_self⟩
    · split
      · exact cells_has h
      · exact cells_has h
theorem cells_inj : ∀ {names : List (Str × NameKind)} {h : Heap} {acc : List (Str × Addr)} {x y : Str} {c : Addr}, (∀ p ∈ acc, p.2 < h.objs.size) → (∀ x y c, (x, c) ∈ acc → (y, c) ∈ acc → x = y) →
    (x, c) ∈ cellsFrom h.objs.size names acc → (y, c) ∈ cellsFrom h.objs.size names acc → x = y
  | [], _, _, _, _, _, _, hi, h1, h2 => hi _ _ _ h1 h2
  | (n, k) :: r, h, acc, x, y, c, hl, hi, h1, h2 => by
    unfold cellsFrom at h1 h2
    split at h1
    · rename_i hk
      rw [if_pos hk] at h2
      rw [← Heap.size_push h { cls := .type "cell", data := .cell none }] at h1 h2
      refine cells_inj (h := h.push _) (fun p hp => ?_) (fun x y c a b => ?_) h1 h2
      · rw [Heap.size_push]
        rcases List.mem_cons.mp hp with rfl | hp
        · exact Nat.lt_succ_self _
        · exact Nat.lt_succ_of_lt (hl p hp)
      · rcases List.mem_cons.mp a with e | a <;> rcases List.mem_cons.mp b with e' | b
        · cases e; cases e'; rfl
        · cases e; exact absurd (hl _ b) (Nat.lt_irrefl _)
        · cases e'; exact absurd (hl _ a) (Nat.lt_irrefl _)
        · exact hi _ _ _ a b
    · rename_i hk
      rw [if_neg hk] at h2
      exact cells_inj hl hi h1 h2

theorem newEnv_comp {M : Model} {A : Around} {E : Value → Shared → Prop} {s : Shared} {scope : Scope} {globals : Addr} {closure : List (Str × Addr)} {qual : Str} {func : Option Addr} {code : Value} {around : Env} {builtins : Addr} {Q : Env → Shared → Prop}
    (h : Q (newEnv scope s.heap.objs.size globals (cellsFrom (s.heap.objs.size + 1) scope.names closure) qual func code (some around) builtins)
      { s with heap := pushCells (s.heap.push { cls := .type "dict", data := .dict #[] }) scope.names }) :
    wpAny M A (newFunctionEnv scope globals closure [] qual func code (some around) builtins) Q E s := by
  simp only [newFunctionEnv, Option.isSome_some, if_true]
  refine wpAny_bind (wpAny_alloc ?_)
  refine wpAny_bind (wpAny_layCells _ (fun n k c => rfl) scope.names closure _ _ ?_)
  rw [show ({ s with heap := s.heap.push { cls := .type "dict", data := .dict #[] } } : Shared).heap.objs.size = s.heap.objs.size + 1 from Heap.size_push ..]
  rw [List.forIn_nil]
  exact wpAny_bind (wpAny_pure (wpAny_pure h))

/-- every name of the written scope, in the scope that runs -/
theorem lookup_relS {sc : Scope} : ∀ {names : List (Str × NameKind)} {x : Str} {k : NameKind},
    (names.map fun (n, k) => if (k == NameKind.free && sc.kind == .function && sc.names.lookup n == some .cell) then (n, NameKind.cell) else (n, k)).lookup x = some k →
    ∃ k', names.lookup x = some k' ∧ (k = k' ∨ (k' = .free ∧ k = .cell))
  | [], _, _, h => by simp at h
  | (n, k₀) :: r, x, k, h => by
    have ih := @lookup_relS sc r x k
    have h' : List.lookup x ((if (k₀ == NameKind.free && sc.kind == .function && sc.names.lookup n == some .cell) = true then (n, NameKind.cell) else (n, k₀)) :: (r.map _)) = some k := h
    cases hx : x == n with
    | true =>
      simp only [List.lookup_cons, hx]
      by_cases hc : (k₀ == NameKind.free && sc.kind == .function && sc.names.lookup n == some .cell) = true
      · rw [if_pos hc] at h'
        simp only [List.lookup_cons, hx] at h'
        cases h'
        simp only [Bool.and_eq_true, beq_iff_eq] at hc
        exact ⟨k₀, rfl, .inr ⟨hc.1.1, rfl⟩⟩
      · rw [if_neg hc] at h'
        simp only [List.lookup_cons, hx] at h'
        cases h'
        exact ⟨_, rfl, .inl rfl⟩
    | false =>
      simp only [List.lookup_cons, hx]
      by_cases hc : (k₀ == NameKind.free && sc.kind == .function && sc.names.lookup n == some .cell) = true
      · rw [if_pos hc] at h'
        simp only [List.lookup_cons, hx] at h'
        exact ih h'
      · rw [if_neg hc] at h'
        simp only [List.lookup_cons, hx] at h'
        exact ih h'

/-- the names of a comprehension's block: its own (with their places in N), or captured -/
structure BlkOk (N : List Str) (sc scope : Scope) (own : List (Str × Nat)) : Prop where
  kind : scope.kind = .function
  uniq : ∀ y ∈ scope.names, scope.names.lookup y.1 = some y.2
  ix : ∀ p ∈ own, N[p.2]? = some p.1
  free : ∀ y ∈ scope.names, y.2 = .free → sc.names.lookup y.1 = some .cell ∨ sc.names.lookup y.1 = some .free
  own : ∀ y ∈ scope.names, y.2 = .local ∨ y.2 = .cell → y.1 ∈ own.map (·.1) ∨ y.1 ∉ N
/-- the slots of the block's own names forgotten -/
def wipe (σ : St) : List Nat → St
  | [] => σ
  | v :: vs => (wipe σ vs).set v none
theorem wipe_length (σ : St) : ∀ vs : List Nat, (wipe σ vs).length = σ.length
  | [] => rfl
  | v :: vs => by unfold wipe; rw [List.length_set, wipe_length σ vs]
theorem wipe_some {σ : St} {i : Nat} {x : V} : ∀ {vs : List Nat}, (wipe σ vs)[i]? = some (some x) → σ[i]? = some (some x) ∧ i ∉ vs
  | [], h => ⟨h, by simp⟩
  | v :: vs, h => by
    unfold wipe at h
    by_cases hi : v = i
    · subst hi
      by_cases hv : v < (wipe σ vs).length
      · rw [List.getElem?_set_self hv] at h; cases h
      · rw [List.getElem?_eq_none (by simpa using hv)] at h; cases h
    · rw [List.getElem?_set_ne hi] at h
      obtain ⟨h1, h2⟩ := wipe_some h
      exact ⟨h1, by simp only [List.mem_cons, not_or]; exact ⟨fun e => hi e.symm, h2⟩⟩

/-- the context of a block that starts at s, its iterator's objects at fp -/
abbrev Cx.blk (X : Cx) (s : Shared) (H : Hp) (scope : Scope) (cenv : Env) (fp : List Addr) : Cx := { X with s_0 := s, H_0 := H, env := cenv, outer := X.stack, ex := fp, fn := fun x => scope.names.lookup x == some .cell, pn := [], xe := fun _ _ => False }
section
variable {X : Cx} {pins : List (Addr × Obj)} {σ : St} {H : Hp} {s : Shared}
theorem block_start {scope : Scope} {own : List (Str × Nat)} {fp : List Addr} (I : Inv X pins σ H s) (ok : BlkOk X.N X.env.scope scope own) (hN : X.N.Nodup) (hfp : ∀ b ∈ fp, FpOk X pins H b ∧ b < s.heap.objs.size) :
    Inv (X.blk s H scope (compEnvC scope (cellsFrom (s.heap.objs.size + 1) scope.names (cloFrom X.env.cells scope.names [])) s.heap.objs.size X.env) fp) [] (wipe σ (own.map (·.2))) H { s with heap := pushCells (s.heap.push { cls := .type "dict", data := .dict #[] }) scope.names } := by
  have hfree : ∀ y ∈ scope.names, y.2 = .free → ∃ c, X.env.cells.lookup y.1 = some c := fun y hy e => by
    rcases ok.free y hy e with k | k
    · exact I.ok.has _ (.inl k)
    · exact I.ok.has _ (.inr k)
  generalize hcenv : compEnvC scope (cellsFrom (s.heap.objs.size + 1) scope.names (cloFrom X.env.cells scope.names [])) s.heap.objs.size X.env = cenv
  have kp : ∀ b o, s.heap.get? b = some o → (pushCells (s.heap.push { cls := .type "dict", data := .dict #[] }) scope.names).get? b = some o := fun b o e => pushCells_keeps _ _ _ _ (Heap.get?_push_of_some _ e)
  have hL : cenv.locals = s.heap.objs.size := by rw [← hcenv]; rfl
  have hcl : cenv.cells = cellsFrom (s.heap.objs.size + 1) scope.names (cloFrom X.env.cells scope.names []) := by rw [← hcenv]; rfl
  have hsc : cenv.scope = relS scope X.env.scope := by rw [← hcenv]; rfl
  rw [← Heap.size_push s.heap { cls := .type "dict", data := .dict #[] }] at hcl
  have cm : ∀ {y c}, (y, c) ∈ cloFrom X.env.cells scope.names [] → X.env.cells.lookup y = some c ∧ c < s.heap.objs.size := fun {y c} hm => by
    rcases cloFrom_mem hm with hm | ⟨h1, rfl⟩
    · cases hm
    · obtain ⟨c, hc⟩ := hfree _ h1 rfl
      rw [hc]
      obtain ⟨w, z⟩ := I.cell _ _ hc
      exact ⟨rfl, z.lt⟩
  have mem : ∀ {y c}, cenv.cells.lookup y = some c → (X.env.cells.lookup y = some c ∧ c < s.heap.objs.size) ∨ (s.heap.objs.size + 1 ≤ c ∧ CellAt (pushCells (s.heap.push { cls := .type "dict", data := .dict #[] }) scope.names) c none) := fun {y c} e => by
    rw [hcl] at e
    rcases cells_mem (PySem.mem_of_lookup e) with hm | ⟨_, h2, h3⟩
    · exact .inl (cm hm)
    · rw [Heap.size_push] at h2; exact .inr ⟨h2, h3⟩
  have look : ∀ {y}, scope.names.lookup y = some .free → ∃ c, cenv.cells.lookup y = some c ∧ X.env.cells.lookup y = some c := fun {y} hl => by
    have hy : (y, NameKind.free) ∈ scope.names := PySem.mem_of_lookup hl
    obtain ⟨c', e'⟩ := mem_lookup (cells_acc (names := scope.names) (n := (s.heap.push { cls := .type "dict", data := .dict #[] }).objs.size) (cloFrom_has (cells := X.env.cells) (acc := []) hy))
    rw [← hcl] at e'
    refine ⟨c', e', ?_⟩
    rw [hcl] at e'
    rcases cells_mem (PySem.mem_of_lookup e') with hm | ⟨h1, _, _⟩
    · exact (cm hm).1
    · have := ok.uniq _ h1
      rw [hl] at this; cases this
  have okB : (X.blk s H scope cenv fp).Ok := by
    refine ⟨I.ok.mod, by show cenv.scope.kind = _; rw [hsc]; exact ok.kind, by show cenv.globals = _; rw [← hcenv]; exact I.ok.glob, by show cenv.builtins = _; rw [← hcenv]; exact I.ok.blt, by show s.heap.objs.size ≤ cenv.locals; rw [hL]; exact Nat.le_refl _,
      fun y z c e1 e2 => ?_, fun y hy => ?_, fun y c z e => ?_, I.ok.hd, I.ok.frames, .inl rfl, fun b hb => ⟨?_, fun y c e z => ?_⟩, I.bs, Nat.le_trans I.ok.bsz I.sz, fun b o e hb => ?_, fun b hb z => ?_, I.stack, I.stkFree⟩
    · have e1 : cenv.cells.lookup y = some c := e1
      have e2 : cenv.cells.lookup z = some c := e2
      rw [hcl] at e1 e2
      refine cells_inj (fun p hp => ?_) (fun y z c a b => I.ok.inj y z c (cm a).1 (cm b).1) (PySem.mem_of_lookup e1) (PySem.mem_of_lookup e2)
      rw [Heap.size_push]
      exact Nat.lt_succ_of_lt (cm (y := p.1) (c := p.2) hp).2
    · show ∃ c, cenv.cells.lookup y = some c
      have key : ∀ k, cenv.kindOf y = some k → (k = .cell ∨ k = .free) → ∃ c, cenv.cells.lookup y = some c := fun k hk hk' => by
        unfold Env.kindOf at hk
        rw [hsc] at hk
        obtain ⟨k', e, r⟩ := lookup_relS hk
        have : k' = .cell ∨ k' = .free := by
          rcases r with rfl | ⟨rfl, _⟩
          · exact hk'
          · exact .inr rfl
        rcases this with rfl | rfl
        · obtain ⟨c, hm⟩ := cells_has (n := (s.heap.push { cls := .type "dict", data := .dict #[] }).objs.size) (acc := cloFrom X.env.cells scope.names []) (PySem.mem_of_lookup e)
          obtain ⟨c', e'⟩ := mem_lookup hm
          exact ⟨c', by rw [hcl]; exact e'⟩
        · obtain ⟨c, h1, _⟩ := look e
          exact ⟨c, h1⟩
      rcases hy with hy | hy
      · exact key _ hy (.inl rfl)
      · exact key _ hy (.inr rfl)
    · have z : (scope.names.lookup y == some NameKind.cell) = true := z
      have z : scope.names.lookup y = some .cell := by simpa using z
      have e : cenv.cells.lookup y = some c := e
      rw [hcl] at e
      rcases cells_mem (PySem.mem_of_lookup e) with hm | ⟨_, h2, _⟩
      · rcases cloFrom_mem hm with hm | ⟨h1, _⟩
        · cases hm
        · have q := ok.uniq _ h1
          rw [z] at q; cases q
      · rw [Heap.size_push] at h2
        exact Nat.le_of_succ_le h2
    · show b ≠ cenv.locals
      rw [hL]; exact Nat.ne_of_lt (hfp b hb).2
    · have e : cenv.cells.lookup y = some c := e
      rcases mem e with ⟨h1, _⟩ | ⟨h1, _⟩
      · exact (hfp b hb).1.2.2.2.2.1 y c h1 z
      · have h2 : s.heap.objs.size + 1 ≤ b := by rw [← z]; exact h1
        exact absurd (Nat.lt_of_lt_of_le (hfp b hb).2 (Nat.le_of_succ_le h2)) (Nat.lt_irrefl _)
    · rcases (hfp b hb).1.2.2.2.1 with z | z
      · exact I.ok.noex b o e z
      · exact absurd (Nat.lt_of_lt_of_le (Heap.lt_size e) (Nat.le_trans I.ok.bsz z)) (Nat.lt_irrefl _)
    · rcases List.mem_cons.mp (I.stkSub b z) with z | z
      · exact (hfp b hb).1.2.1 z
      · exact (hfp b hb).1.2.2.1 z
  refine ⟨okB, rfl, I.bare, Un.kept kp, ⟨fun _ => none, ?_, fun i y av e1 e2 e3 => ?_⟩, fun y c e => ?_, ?_, fun y c e => ?_, fun p hp => ?_, I.hok.kept kp, by rw [wipe_length]; exact I.len⟩
  · show Heap.Ns _ cenv.locals _
    rw [hL]
    exact Heap.Ns.keeps (Heap.Ns.new ..) fun b o e => pushCells_keeps _ _ _ _ e
  · obtain ⟨e2, hne⟩ := wipe_some e2
    have hfr : scope.names.lookup y = some .free ∧ (cenv.kindOf y = some .cell ∨ cenv.kindOf y = some .free) := by
      have key : ∀ k, cenv.scope.names.lookup y = some k → k = .local ∨ k = .cell ∨ k = .free → scope.names.lookup y = some .free ∧ (cenv.kindOf y = some .cell ∨ cenv.kindOf y = some .free) := fun k hk hk' => by
        have hk0 := hk
        rw [hsc] at hk
        obtain ⟨k', e, r⟩ := lookup_relS hk
        have no : ¬ (k' = .local ∨ k' = .cell) := fun hh => by
          rcases ok.own _ (PySem.mem_of_lookup e) hh with e' | e'
          · obtain ⟨p, hp, hpy⟩ := List.mem_map.mp e'
            have e3 := ok.ix p hp
            have : p.1 = y := hpy
            rw [this] at e3
            exact hne (List.mem_map.mpr ⟨p, hp, nodup_ix hN e3 e1⟩)
          · exact e' (List.mem_of_getElem? e1)
        rcases r with rfl | ⟨rfl, rfl⟩
        · rcases hk' with rfl | rfl | rfl
          · exact absurd (.inl rfl) no
          · exact absurd (.inr rfl) no
          · exact ⟨e, .inr hk0⟩
        · exact ⟨e, .inl hk0⟩
      have e3 : Vis cenv.scope y := e3
      rcases e3 with e3 | e3 | e3
      · exact key _ e3 (.inl rfl)
      · exact key _ e3 (.inr (.inl rfl))
      · exact key _ e3 (.inr (.inr rfl))
    obtain ⟨m, hn, hl⟩ := I.loc
    have hvis : Vis X.env.scope y := (ok.free _ (PySem.mem_of_lookup hfr.1) rfl).elim (fun k => .inr (.inl k)) (fun k => .inr (.inr k))
    obtain ⟨w, r, q⟩ := hl i y av e1 e2 hvis
    refine ⟨w, r, .inr ⟨hfr.2, ?_⟩⟩
    obtain ⟨c, h1, h2⟩ := look hfr.1
    rcases q with ⟨k, _⟩ | ⟨_, c', e', z⟩
    · have k : X.env.scope.names.lookup y = some .local := k
      rcases ok.free _ (PySem.mem_of_lookup hfr.1) rfl with k' | k' <;> rw [show X.env.scope.names.lookup y = _ from k'] at k <;> cases k
    · rw [h2] at e'; cases e'
      exact ⟨c, h1, z.keeps kp⟩
  · have e : cenv.cells.lookup y = some c := e
    rcases mem e with ⟨h1, _⟩ | ⟨_, z⟩
    · obtain ⟨w, z⟩ := I.cell y c h1
      exact ⟨w, z.keeps kp⟩
    · exact ⟨_, z⟩
  · show H cenv.locals = none
    rw [hL]; exact I.hok.fresh (Nat.le_refl _)
  · have e : cenv.cells.lookup y = some c := e
    rcases mem e with ⟨h1, _⟩ | ⟨h1, _⟩
    · exact I.freeC y c h1
    · exact I.hok.fresh (Nat.le_of_succ_le h1)
  · exact absurd (show p ∈ ([] : List (Addr × Obj)) ++ [] from hp) (by simp)

/-- an item appended to a tracked list -/
theorem app_ok {E : Value → Shared → Prop} {D : Addr} {xs : List V} {y : V} {v : Value} {Q : Value → Shared → Prop} (I : Inv X pins σ H s) (hD : H D = some (.lst xs)) (hz : xs.length < sizeLine) (r : RelV y v)
    (h : ∀ s', Inv X pins σ (upd H D (.lst (xs ++ [y]))) s' → Q .none s') : wpAny (model X.prog X.w) X.A (call (.builtin "list.append") [.ref D, v]) Q E s := by
  obtain ⟨hz', its, n, ri, e⟩ := I.hok D _ hD
  have hl := ri.length
  refine append_at (hsz := by rw [List.size_toArray]; omega) e fun h' sb ho' => ?_
  refine h { s with heap := h' } (I.write (t' := s.toks) (by rw [hD]; trivial) (.inl rfl) (fun b u hb q => (sb.2 b hb).trans q) ⟨_, ho'⟩ ⟨by rw [List.length_append]; exact hz, its ++ [v], n + 1, ri.append (.cons r .nil), ?_⟩)
  rw [ho']
  simp

/-- a clause's tests -/
def PTs (X : Cx) (ifs : List Expr) (t : TT) : Prop :=
  ∀ (pins : List (Addr × Obj)) (s : Shared) (σ : St) (H : Hp) (Q : Bool → Hp → Prop), Inv X pins σ H s → t σ H Q →
    wpAny (model X.prog X.w) X.A (forIn ifs true fun c r => if r = true then do let ok ← isTrue c X.env (eval c X.env); pure (ForInStep.yield ok) else pure (ForInStep.yield r)) (TP X pins σ Q) X.xe s
def tYes : TT := fun _ H Q => Q true H
theorem pts_nil : PTs X [] tYes := fun _ _ _ H _ I h => wpAny_tests_nil ⟨H, I, h⟩
end

theorem thnF {α : Type} {t : Sem α} {Q Q' : α → Shared → Prop} {M : Model} {A : Around} {E : Value → Shared → Prop} {s : Shared} (h : wpAny M A t Q (fun _ _ => False) s) (hQ : ∀ a s, Q a s → Q' a s) : wpAny M A t Q' E s := wpAny_mono h hQ fun _ _ z => False.elim z

/-- the loop of a list comprehension's block, the target of any form (codeAny_compLoop_tests asks a target that no tuple goes to; statement and proof follow it, PyProof/CompMap.lean:41-61, with the step letOwnedTupleGo kept) -/
theorem compLoop_any {prog : Program} {w : World} {A : Around} {R : Result → Shared → Prop} {s : Shared} {elt target iter : Expr} {ifs : List Expr} {scope : Scope} {pos : Pos} {it acc : Value} {env : Env} (I : Nat → Shared → Prop)
    (turn : ∀ n s, I n s → wpAny (model prog w) A (pyNext it) (fun r s₁ => match r with
      | none => R (.ok .next) s₁
      | some v => wpAny (model prog w) A (letOwnedTupleGo target it v) (fun _ s₁' => wpAny (model prog w) A (assign target env v) (fun _ s₂ =>
          wpAny (model prog w) A (forIn ifs true fun c r => if r = true then do let ok ← isTrue c env (eval c env); pure (ForInStep.yield ok) else pure (ForInStep.yield r)) (fun ok s₃ =>
            if ok = true then wpAny (model prog w) A (eval elt env) (fun x s₄ =>
              wpAny (model prog w) A (call (.builtin "list.append") [acc, x]) (fun _ s₅ => ∃ m, m < n ∧ I m s₅) (notedBy (model prog w) A env fun e s' => R (.error e) s') s₄) (notedBy (model prog w) A env fun e s' => R (.error e) s') s₃
            else ∃ m, m < n ∧ I m s₃) (notedBy (model prog w) A env fun e s' => R (.error e) s') s₂) (notedBy (model prog w) A env fun e s' => R (.error e) s') s₁') (notedBy (model prog w) A env fun e s' => R (.error e) s') s₁) (notedBy (model prog w) A env fun e s' => R (.error e) s') s)
    (n : Nat) (h : I n s) :
    codeAny (model prog w) A (.compLoop (.ListComp elt [⟨target, iter, ifs, 0⟩] scope pos) 0 it acc env) R s := by
  refine codeAny_loop rfl I (fun n s hI => ?_) n h
  show wpAny _ A ((compTurn (.ListComp elt [⟨target, iter, ifs, 0⟩] scope pos) 0 it acc env).onRaise (fun x => do noteFrame x env; theTreesLotGoes x)) _ _ s
  refine wpAny_noted ?_
  rw [compTurn_list]
  refine wpAny_bind (wpAny_standAt (wpAny_bind (wpAny_mono (turn n s hI) (fun r s₁ h₁ => ?_) fun _ _ h' => h')))
  cases r with
  | none => exact wpAny_pure h₁
  | some v =>
    refine wpAny_bind (wpAny_mono h₁ (fun _ s₁' h₁' => ?_) fun _ _ h' => h')
    refine wpAny_bind (wpAny_mono h₁' (fun _ s₂ h₂ => wpAny_bind (wpAny_mono h₂ (fun ok s₃ h₃ => ?_) fun _ _ h' => h')) fun _ _ h' => h')
    cases ok with
    | false => exact wpAny_pure ⟨rfl, h₃⟩
    | true =>
      exact wpAny_bind (wpAny_bind (wpAny_mono h₃ (fun x s₄ h₄ => wpAny_bind (wpAny_mono h₄ (fun _ s₅ h₅ => wpAny_pure (wpAny_pure ⟨rfl, h₅⟩)) fun _ _ h' => h')) fun _ _ h' => h'))

section
variable {X : Cx}
/-- [elt for target in iter if ..]: D the new list; W by the turn and a measure, Nx what a turn is to reach -/
def tLc (wi : TI) (g : TG) (tt : TT) (te : TE) (vs : List Nat) : TE := fun σ H Q => wi σ H fun J H1 => ∀ D, H1 D = none → ∃ W : Nat → Nat → Hp → Prop, (∃ m, W 0 m (upd H1 D (.lst []))) ∧ ∀ i m H, W i m H →
  (J.stop i H ∧ Q (.ref D) H) ∨ (J.go i H ∧ ∃ Nx : Hp → Prop, (∀ H', Nx H' → ∃ m', m' < m ∧ W (i + 1) m' H') ∧ ∀ x H', J.yld i H x H' → g x (wipe σ vs) H' fun σ2 H2 => wipe σ2 vs = wipe σ vs ∧ tt σ2 H2 fun b H3 =>
    if b = true then te σ2 H3 fun y H4 => ∃ acc, H4 D = some (.lst acc) ∧ acc.length < sizeLine ∧ Nx (upd H4 D (.lst (acc ++ [y]))) else Nx H3)
theorem lc_core {pins : List (Addr × Obj)} {s : Shared} {σ : St} {H : Hp} {Q : VK} {elt tg iter : Expr} {ifs : List Expr} {scope : Scope} {own : List (Str × Nat)} {pos pos' : Pos} {wi : TI} {g : TG} {tt : TT} {te : TE} {use : Option (Value → Sem Unit)} {Qf : Value → Shared → Prop}
    (hc : X.calm = true) (hN : X.N.Nodup) (I : Inv X pins σ H s) (hi : PI X tg iter wi) (ok : BlkOk X.N X.env.scope scope own)
    (hg : ∀ (s : Shared) (H : Hp) (C : Addr) (cl : List (Str × Addr)) (fp : List Addr), PG (X.blk s H scope (compEnvC scope cl C X.env) fp) tg g) (ht : ∀ (s : Shared) (H : Hp) (C : Addr) (cl : List (Str × Addr)) (fp : List Addr), PTs (X.blk s H scope (compEnvC scope cl C X.env) fp) ifs tt)
    (he : ∀ (s : Shared) (H : Hp) (C : Addr) (cl : List (Str × Addr)) (fp : List Addr), PE (X.blk s H scope (compEnvC scope cl C X.env) fp) elt te) (hs : ∀ x, foldedSetIterable iter X.env x = pure x)
    (h : tLc wi g tt te (own.map (·.2)) σ H Q)
    (hRR : ∀ D C s' m H', Inv X pins σ H' s' → Q (.ref D) H' → s'.heap.Ns C m → FpOk X pins H' C → compPost (model X.prog X.w) X.A X.xe use Qf (.ref D) C (.ok .next) s') :
    wpAny (model X.prog X.w) X.A (comprehension (.ListComp elt [⟨tg, iter, ifs, 0⟩] scope pos) scope X.env pos' (newList []) false (eval iter X.env) use) Qf X.xe s := by
  have hfree : ∀ y ∈ scope.names, y.2 = .free → ∃ c, X.env.cells.lookup y.1 = some c := fun y hy e => by
    rcases ok.free y hy e with k | k
    · exact I.ok.has _ (.inl k)
    · exact I.ok.has _ (.inr k)
  refine wpAny_comprehension_free (use := use) rfl hs (closure_ok hfree) ok.kind (fun y hy e => by rw [ok.uniq y hy, e])
    (thn (hi pins s σ H _ I h) fun xv s1 hx => thn hx fun itv s2 h2 => ?_)
  obtain ⟨it, fp, tn, J, H2, e, I2, T, st2, f2, q⟩ := h2
  subst e
  refine wpAny_newObj_type (newEnv_comp ?_) (by show 0 ≤ sizeLine; decide)
  generalize hD : s2.heap.objs.size = D
  have hDn : H2 D = none := I2.hok.fresh (Nat.le_of_eq hD)
  obtain ⟨W, ⟨m0, w0⟩, turn⟩ := q D hDn
  -- the new list
  generalize hs3 : ({ s2 with heap := s2.heap.push { cls := .type "list", data := .seq ([] : List Value).toArray } } : Shared) = s3
  have I3 : Inv X pins σ (upd H2 D (.lst [])) s3 := by
    rw [← hs3]
    refine I2.laid (t' := s2.toks) (fun b o e => Heap.get?_push_of_some _ e) (Nat.le_of_eq hD) ⟨Nat.zero_le _, [], 0, .nil, ?_⟩
    rw [← hD]
    exact Heap.get?_push_size _ rfl
  have h3 : s3.heap = s2.heap.push { cls := .type "list", data := .seq ([] : List Value).toArray } := by rw [← hs3]
  have sz : ∀ b ∈ fp, b < s2.heap.objs.size := fun b hb => by
    obtain ⟨o, e, _⟩ := T.obj _ _ st2 b hb
    exact Heap.lt_size e
  have f3 : ∀ b ∈ fp, FpOk X pins (upd H2 D (.lst [])) b ∧ b < s3.heap.objs.size := fun b hb => by
    have hlt := sz b hb
    refine ⟨⟨?_, (f2 b hb).2⟩, by rw [h3, Heap.size_push]; exact Nat.lt_succ_of_lt hlt⟩
    rw [upd_ne (by rw [← hD]; exact Nat.ne_of_lt hlt)]
    exact (f2 b hb).1
  have st3 : tn 0 s3.heap := T.keep _ _ _ st2 fun b _ o e => by rw [h3]; exact Heap.get?_push_of_some _ e
  have I4 := block_start I3 ok hN f3
  have pg := hg s3 (upd H2 D (.lst [])) s3.heap.objs.size (cellsFrom (s3.heap.objs.size + 1) scope.names (cloFrom X.env.cells scope.names [])) fp
  have pt := ht s3 (upd H2 D (.lst [])) s3.heap.objs.size (cellsFrom (s3.heap.objs.size + 1) scope.names (cloFrom X.env.cells scope.names [])) fp
  have pe := he s3 (upd H2 D (.lst [])) s3.heap.objs.size (cellsFrom (s3.heap.objs.size + 1) scope.names (cloFrom X.env.cells scope.names [])) fp
  show codeAny _ _ (.compStart (.ListComp elt [⟨tg, iter, ifs, 0⟩] scope pos) 0 (.ref it) (.ref D) (compEnvC scope (cellsFrom (s3.heap.objs.size + 1) scope.names (cloFrom X.env.cells scope.names [])) s3.heap.objs.size X.env)) (compPost (model X.prog X.w) X.A X.xe use Qf (.ref D) s3.heap.objs.size) { s3 with heap := pushCells (s3.heap.push { cls := .type "dict", data := .dict #[] }) scope.names }
  have nfp : ∀ b ∈ fp, (upd H2 D (.lst [])) b = none := fun b hb => (f3 b hb).1.1
  generalize hce : compEnvC scope (cellsFrom (s3.heap.objs.size + 1) scope.names (cloFrom X.env.cells scope.names [])) s3.heap.objs.size X.env = ce at I4 pg pt pe ⊢
  have cL : ce.locals = s3.heap.objs.size := by subst hce; rfl
  generalize hH3 : upd H2 D (.lst []) = H3 at I3 I4 pg pt pe w0 nfp f3
  generalize hs4 : ({ s3 with heap := pushCells (s3.heap.push { cls := .type "dict", data := .dict #[] }) scope.names } : Shared) = s4 at I4 ⊢
  have st4 : tn 0 s4.heap := T.keep _ _ _ st3 fun b _ o e => by rw [← hs4]; exact pushCells_keeps _ _ _ _ (Heap.get?_push_of_some _ e)
  have stat : ∀ {σ' : St} {H' : Hp} {s' : Shared}, Inv (X.blk s3 H3 scope ce fp) [] σ' H' s' → (∀ b ∈ fp, H' b = none) → ∀ b ∈ fp, FpOk (X.blk s3 H3 scope ce fp) [] H' b := fun {σ' H' s'} I' hn b hb =>
    ⟨hn b hb, (I'.ok.exf b hb).1, I'.ok.exfs b hb, .inl hb, fun x c e => (I'.ok.exf b hb).2 x c e, fun p hp => absurd (show p ∈ ([] : List (Addr × Obj)) ++ [] from hp) (by simp)⟩
  have loop : codeAny (model X.prog X.w) X.A (.compLoop (.ListComp elt [⟨tg, iter, ifs, 0⟩] scope pos) 0 (.ref it) (.ref D) ce) (compPost (model X.prog X.w) X.A X.xe use Qf (.ref D) s3.heap.objs.size) s4 := by
    refine compLoop_any (fun n s' => ∃ i H', Inv (X.blk s3 H3 scope ce fp) [] (wipe σ (own.map (·.2))) H' s' ∧ tn i s'.heap ∧ (∀ b ∈ fp, H' b = none) ∧ W i n H') ?_ m0 ⟨0, H3, I4, st4, nfp, w0⟩
    rintro n s5 ⟨i, H5, I5, st5, n5, w5⟩
    rcases turn i n H5 w5 with ⟨stop, qq⟩ | ⟨go, Nx, hNx, step⟩
    · have td := T.done (X.blk s3 H3 scope ce fp) rfl rfl rfl hc i [] s5 _ H5 (fun _ _ => False) I5 (stat I5 n5) st5 stop
      refine thnF td fun r s6 ⟨hr, I6⟩ => ?_
      subst hr
      -- back in the def's context
      have I7 : Inv X pins σ H5 s6 := I3.call' (ch := fp) I6.os I6.base I6.hok I6.bare fun b hb => ⟨(f3 b hb).1.2.2.2.1, (f3 b hb).1.2.1, (f3 b hb).1.2.2.2.2.1, (f3 b hb).1.2.2.2.2.2⟩
      have nC : H5 s3.heap.objs.size = none := by
        have z : H5 ce.locals = none := I6.free
        rw [cL] at z
        exact z
      obtain ⟨m, hn, _⟩ := I6.loc
      have hn : s6.heap.Ns ce.locals m := hn
      rw [cL] at hn
      exact hRR D s3.heap.objs.size s6 m H5 I7 qq hn (I3.fpOk (Nat.le_refl _) nC)
    · have ti := T.item (X.blk s3 H3 scope ce fp) rfl rfl rfl hc i [] s5 _ H5 (fun _ _ => False) I5 (stat I5 n5) st5 go
      refine thnF ti fun r s6 ⟨u, hr, h6⟩ => ?_
      subst hr
      refine thnF h6 fun _ s7 ⟨x, H7, I7, r7, y7, st7, n7⟩ => ?_
      have I7' := I7.pinned (stat I7 n7) (T.obj _ _ st7)
      refine thnF (pg _ s7 _ H7 x u _ I7' r7 (step x H7 y7)) fun _ s8 ⟨σ8, H8, I8, hw8, q8⟩ => ?_
      refine thnF (pt _ s8 σ8 H8 _ I8 q8) fun b s9 ⟨H9, I9, q9⟩ => ?_
      -- the turn's end
      have fin : ∀ {s' : Shared} {H' : Hp}, Inv (X.blk s3 H3 scope ce fp) ([] ++ pinsAt fp s7.heap) σ8 H' s' → Nx H' → ∃ m, m < n ∧ ∃ i H', Inv (X.blk s3 H3 scope ce fp) [] (wipe σ (own.map (·.2))) H' s' ∧ tn i s'.heap ∧ (∀ b ∈ fp, H' b = none) ∧ W i m H' := fun {s' H'} I' nx => by
        obtain ⟨m', hm, w'⟩ := hNx H' nx
        have pin' : ∀ b ∈ fp, ∀ o, s7.heap.get? b = some o → s'.heap.get? b = some o ∧ H' b = none := fun b hb o e =>
          let z := I'.pin (b, o) (List.mem_append_right _ (List.mem_append_right _ (mem_pinsAt hb e)))
          ⟨z.1, z.2.1⟩
        have hl : (wipe σ (own.map (·.2))).length = σ8.length := by rw [← hw8, wipe_length]
        refine ⟨m', hm, i + 1, H', (I'.unpinned (pins := [])).weak hl (fun j v e => ?_), T.keep _ _ _ st7 fun b hb o e => (pin' b hb o e).1, fun b hb => ?_, w'⟩
        · rw [← hw8] at e
          exact (wipe_some e).1
        · obtain ⟨o, e, _⟩ := T.obj _ _ st7 b hb
          exact (pin' b hb o e).2
      cases b with
      | false =>
        simp only [Bool.false_eq_true, if_false] at q9 ⊢
        exact fin I9 q9
      | true =>
        simp only [if_true] at q9 ⊢
        refine thnF (pe _ s9 σ8 H9 _ I9 q9) fun z s10 ⟨yv, H10, I10, r10, acc, hD10, hz10, nx⟩ => ?_
        exact app_ok (X := X.blk s3 H3 scope ce fp) I10 hD10 hz10 r10 fun s11 I11 => fin I11 nx
  exact codeAny_compStart_list loop (T.self X.A 0 _ _ _ st4 loop)
/-- as a value -/
theorem pe_lc {elt tg iter : Expr} {ifs : List Expr} {scope : Scope} {own : List (Str × Nat)} {pos : Pos} {wi : TI} {g : TG} {tt : TT} {te : TE} (hc : X.calm = true) (hN : X.N.Nodup) (hi : PI X tg iter wi) (ok : BlkOk X.N X.env.scope scope own)
    (hg : ∀ (s : Shared) (H : Hp) (C : Addr) (cl : List (Str × Addr)) (fp : List Addr), PG (X.blk s H scope (compEnvC scope cl C X.env) fp) tg g) (ht : ∀ (s : Shared) (H : Hp) (C : Addr) (cl : List (Str × Addr)) (fp : List Addr), PTs (X.blk s H scope (compEnvC scope cl C X.env) fp) ifs tt)
    (he : ∀ (s : Shared) (H : Hp) (C : Addr) (cl : List (Str × Addr)) (fp : List Addr), PE (X.blk s H scope (compEnvC scope cl C X.env) fp) elt te) (hs : ∀ x, foldedSetIterable iter X.env x = pure x := by intro _; rfl) :
    PE X (.ListComp elt [⟨tg, iter, ifs, 0⟩] scope pos) (tLc wi g tt te (own.map (·.2))) := by
  intro pins s σ H Q I h
  rw [eval_ListComp]
  refine lc_core hc hN I hi ok hg ht he hs h fun D C s' m H' I' q hn f => ⟨m, hn, fun h'' sb => ?_⟩
  obtain ⟨f0, f1, f2, f3, f4, f5⟩ := f
  exact ⟨.ref D, H', I'.turned (t' := s'.toks) (fun b o hb e => (sb.2 b hb).trans e) f0 f1 f3 f4 f5, rfl, q⟩
/-- name = [..] on one line, the name a local -/
theorem ps_setLc {i : Nat} {y : Str} {py : Pos} {elt tg iter : Expr} {ifs : List Expr} {scope : Scope} {own : List (Str × Nat)} {pos spos : Pos} {wi : TI} {g : TG} {tt : TT} {te : TE} (hc : X.calm = true) (hN : X.N.Nodup) (hy : X.N[i]? = some y) (hyl : X.env.scope.names.lookup y = some .local)
    (hsw : swapsWith (.ListComp elt [⟨tg, iter, ifs, 0⟩] scope pos) (some (.Name y py)) spos.line X.env = pure true) (hi : PI X tg iter wi) (ok : BlkOk X.N X.env.scope scope own)
    (hg : ∀ (s : Shared) (H : Hp) (C : Addr) (cl : List (Str × Addr)) (fp : List Addr), PG (X.blk s H scope (compEnvC scope cl C X.env) fp) tg g) (ht : ∀ (s : Shared) (H : Hp) (C : Addr) (cl : List (Str × Addr)) (fp : List Addr), PTs (X.blk s H scope (compEnvC scope cl C X.env) fp) ifs tt)
    (he : ∀ (s : Shared) (H : Hp) (C : Addr) (cl : List (Str × Addr)) (fp : List Addr), PE (X.blk s H scope (compEnvC scope cl C X.env) fp) elt te) (hs : ∀ x, foldedSetIterable iter X.env x = pure x := by intro _; rfl) :
    PS X (.Assign [.Name y py] (.ListComp elt [⟨tg, iter, ifs, 0⟩] scope pos) spos) (tAsg (tLc wi g tt te (own.map (·.2))) (gName i)) := by
  intro pins s σ H D I h
  rw [exec_Assign_Name_used _ _ _ _ hsw]
  refine wpAny_bind (wpAny_standAt (wpAny_bind ?_))
  show wpAny _ X.A (do let _ ← comprehension (.ListComp elt [⟨tg, iter, ifs, 0⟩] scope pos) scope X.env (firstIterPos [⟨tg, iter, ifs, 0⟩] pos) (newList []) false (eval iter X.env) (some (assign (.Name y py) X.env))) _ _ s
  have h : tLc wi g tt te (own.map (·.2)) σ H (fun x H1 => gName i x σ H1 D.nx) := h
  refine wpAny_bind (thn (lc_core (Qf := fun _ s' => SP X pins D .next s') hc hN I hi ok hg ht he hs h fun L C s' m H' I' q hn f => ?_) fun _ s' hq => wpAny_pure (wpAny_pure hq))
  show wpAny _ _ (assign (.Name y py) X.env (.ref L)) _ _ _
  refine wpAny_assign_Name (store_ok2 (v := V.ref L) I' hN hy (.inl hyl) rfl (fun s2 I2 ⟨a, sb, ha⟩ => ?_) (.inr hyl))
  obtain ⟨f0, f1, f2, f3, f4, f5⟩ := f
  have haC : C ≠ a := by
    rcases ha with z | z
    · rw [z]; exact f1
    · exact fun e => f4 y a z e.symm
  refine ⟨m, hn.sameBut sb haC, fun h3 sb3 => ?_⟩
  exact ⟨_, H', I2.turned (t' := s2.toks) (fun b o hb e => (sb3.2 b hb).trans e) f0 f1 f3 f4 f5, q⟩
theorem sw_true {elt : Expr} {gs : List Comprehension} {scope : Scope} {pos py : Pos} {y : Str} {l : Nat} {env : Env} (hk : env.scope.kind = .function) (hy : env.scope.names.lookup y = some .local) (hl : (py.line == pos.line) = true)
    (ha : (scope.names.any fun (n, k) => n == y && (k == .local || k == .cell)) = false) : swapsWith (.ListComp elt gs scope pos) (some (.Name y py)) l env = pure true := by
  have ky : env.kindOf y = some .local := hy
  have hb : env.blockKind = .function := by unfold Env.blockKind; rw [hk]; rfl
  unfold swapsWith
  simp only [hb, ky, ha, Expr.pos, hl]
  rfl
end

/-! ### the forms one uses -/
/-- over a range: Pv by the turn and the heap (the new list at D within) -/
theorem lc_range {lo : Int} {n : Nat} {g : TG} {tt : TT} {te : TE} {vs : List Nat} {σ : St} {H1 : Hp} {D : Addr} {Qd : Hp → Prop} (Pv : Nat → Hp → Prop) (h0 : Pv 0 (upd H1 D (.lst [])))
    (hs : ∀ i H, i < n → Pv i H → g (.int (lo + i)) (wipe σ vs) H fun σ2 H2 => wipe σ2 vs = wipe σ vs ∧ tt σ2 H2 fun b H3 =>
      if b = true then te σ2 H3 fun y H4 => ∃ acc, H4 D = some (.lst acc) ∧ acc.length < sizeLine ∧ Pv (i + 1) (upd H4 D (.lst (acc ++ [y]))) else Pv (i + 1) H3) (hd : ∀ H, Pv n H → Qd H) :
    ∃ W : Nat → Nat → Hp → Prop, (∃ m, W 0 m (upd H1 D (.lst []))) ∧ ∀ i m H, W i m H →
      ((Itr lo n).stop i H ∧ Qd H) ∨ ((Itr lo n).go i H ∧ ∃ Nx : Hp → Prop, (∀ H', Nx H' → ∃ m', m' < m ∧ W (i + 1) m' H') ∧ ∀ x H', (Itr lo n).yld i H x H' → g x (wipe σ vs) H' fun σ2 H2 => wipe σ2 vs = wipe σ vs ∧ tt σ2 H2 fun b H3 =>
        if b = true then te σ2 H3 fun y H4 => ∃ acc, H4 D = some (.lst acc) ∧ acc.length < sizeLine ∧ Nx (upd H4 D (.lst (acc ++ [y]))) else Nx H3) := by
  refine ⟨fun i m H => m = n - i ∧ i ≤ n ∧ Pv i H, ⟨n, by simp, Nat.zero_le _, h0⟩, ?_⟩
  rintro i m H ⟨rfl, hi, p⟩
  by_cases hlt : i < n
  · refine .inr ⟨hlt, Pv (i + 1), fun H' p' => ⟨n - (i + 1), by omega, rfl, hlt, p'⟩, fun x H' y => ?_⟩
    obtain ⟨e, y⟩ := y
    subst e y
    exact hs i _ hlt p
  · have e : i = n := by omega
    subst e
    exact .inl ⟨Nat.le_refl _, hd H p⟩
/-- over a list that the block leaves as it is -/
theorem lc_list {K : PySem.W.Frag} {a : Addr} {xs : List V} {g : TG} {tt : TT} {te : TE} {vs : List Nat} {σ : St} {H1 : Hp} {D : Addr} {Qd : Hp → Prop} (Pv : Nat → Hp → Prop) (h0 : Pv 0 (upd H1 D (.lst []))) (hl : ∀ i H, i ≤ xs.length → Pv i H → SqL K H a xs)
    (hs : ∀ i x H, xs[i]? = some x → Pv i H → g x (wipe σ vs) H fun σ2 H2 => wipe σ2 vs = wipe σ vs ∧ tt σ2 H2 fun b H3 =>
      if b = true then te σ2 H3 fun y H4 => ∃ acc, H4 D = some (.lst acc) ∧ acc.length < sizeLine ∧ Pv (i + 1) (upd H4 D (.lst (acc ++ [y]))) else Pv (i + 1) H3) (hd : ∀ H, Pv xs.length H → Qd H) :
    ∃ W : Nat → Nat → Hp → Prop, (∃ m, W 0 m (upd H1 D (.lst []))) ∧ ∀ i m H, W i m H →
      ((Itl K a).stop i H ∧ Qd H) ∨ ((Itl K a).go i H ∧ ∃ Nx : Hp → Prop, (∀ H', Nx H' → ∃ m', m' < m ∧ W (i + 1) m' H') ∧ ∀ x H', (Itl K a).yld i H x H' → g x (wipe σ vs) H' fun σ2 H2 => wipe σ2 vs = wipe σ vs ∧ tt σ2 H2 fun b H3 =>
        if b = true then te σ2 H3 fun y H4 => ∃ acc, H4 D = some (.lst acc) ∧ acc.length < sizeLine ∧ Nx (upd H4 D (.lst (acc ++ [y]))) else Nx H3) := by
  refine ⟨fun i m H => m = xs.length - i ∧ i ≤ xs.length ∧ Pv i H, ⟨xs.length, by simp, Nat.zero_le _, h0⟩, ?_⟩
  rintro i m H ⟨rfl, hi, p⟩
  have q := hl i H hi p
  by_cases hlt : i < xs.length
  · refine .inr ⟨⟨xs, xs[i], q, by simp [hlt]⟩, Pv (i + 1), fun H' p' => ⟨xs.length - (i + 1), by omega, rfl, hlt, p'⟩, fun x H' y => ?_⟩
    obtain ⟨e, y⟩ := y
    subst e
    exact hs i x _ (y xs q) p
  · have e : i = xs.length := by omega
    subst e
    exact .inl ⟨⟨xs, q, Nat.le_refl _⟩, hd H p⟩
def blkC (N : List Str) (sc scope : Scope) (own : List (Str × Nat)) : Bool :=
  (match scope.kind with | .function => true | _ => false) && (scope.names.all fun y => decide (scope.names.lookup y.1 = some y.2)) && (own.all fun p => decide (N[p.2]? = some p.1)) &&
    (scope.names.all fun y => match y.2 with
      | .free => (match sc.names.lookup y.1 with | some .cell => true | some .free => true | _ => false)
      | .local => decide (y.1 ∈ own.map (·.1)) || decide (y.1 ∉ N)
      | .cell => decide (y.1 ∈ own.map (·.1)) || decide (y.1 ∉ N)
      | _ => true)
theorem blkOk_by {N : List Str} {sc scope : Scope} {own : List (Str × Nat)} (h : blkC N sc scope own = true) : BlkOk N sc scope own := by
  unfold blkC at h
  simp only [Bool.and_eq_true, List.all_eq_true, decide_eq_true_eq] at h
  obtain ⟨⟨⟨h1, h2⟩, h3⟩, h4⟩ := h
  refine ⟨?_, h2, h3, fun y hy e => ?_, fun y hy e => ?_⟩
  · split at h1
    · assumption
    · cases h1
  · have q := h4 y hy
    simp only [e] at q
    split at q <;> first | exact .inl (by assumption) | exact .inr (by assumption) | cases q
  · have q := h4 y hy
    rcases e with e | e <;> (simp only [e, Bool.or_eq_true, decide_eq_true_eq] at q; exact q)
end L2

namespace L2
open PySem PySem.Spec PyProof.Rows

section
variable {X : Cx} {pins : List (Addr × Obj)} {σ : St} {H : Hp} {s : Shared} {h' : Heap}
/-- .. and one new object is laid -/
theorem Inv.turnedNew {t' : Nat} {ch : List Addr} {T : Addr} {ob : HO} (I : Inv X pins σ H s) (k : ∀ b o, b ∉ ch → s.heap.get? b = some o → h'.get? b = some o) (hf : ∀ b ∈ ch, FpOk X pins H b) (hT : s.heap.objs.size ≤ T)
    (new : ObjOk X.prog X.w (upd H T ob) h' T ob) : Inv X pins σ (upd H T ob) { s with heap := h', toks := t' } := by
  have hn : H T = none := I.hok.fresh hT
  have nit : ∀ b u, H b = some u → b ∉ ch := fun b u e z => by
    have q := (hf b z).1
    rw [q] at e; cases e
  refine I.step (g' := s.gens) (d' := s.drawn) (ch := ch) (fun b hb => ⟨(hf b hb).2.2.2.1, (hf b hb).2.1, (hf b hb).2.2.2.2.1, (hf b hb).2.2.2.2.2⟩) (fun b o _ _ hc e _ => k b o hc e) (fun b o _ _ hc e _ => ⟨o.slots, k b o hc e⟩)
    (fun b o _ e n => ?_) (fun b o hc e => ⟨o, k b o hc e⟩) (fun b xs e => ?_) (fun b o u e => ?_) (fun b ps e => ⟨#[], ?_⟩) (fun m hm => ?_) (fun b u e => ?_) I.bare
  · rw [upd_ne (Nat.ne_of_lt (Nat.lt_of_lt_of_le (Heap.lt_size e) hT))]; exact n
  · rw [upd_ne (ne_of_none e hn)]; exact e
  · rw [upd_ne (ne_of_none e hn)]; exact e
  · rw [upd_ne (ne_of_none e hn), e]; simp
  · obtain ⟨o, es, ep, ho, r⟩ := hm
    exact ⟨o, es, ep, k _ o (fun z => (hf _ z).2.1 rfl) ho, r⟩
  · by_cases hb : b = T
    · subst hb
      rw [upd_same] at e
      cases e
      exact new
    · rw [upd_ne hb] at e
      refine (I.hok b u e).stay (fun c v hc q => k c v ?_ q) (fun c q => by rw [upd_ne (ne_of_none q hn)]; exact q) fun c xs q => by rw [upd_ne (ne_of_none q hn)]; exact q
      rcases hc with z | z
      · rw [z]; exact nit b u e
      · exact nit c _ z

/-! ### locking a thing while a statement runs -/
end
section
variable {X : Cx}

/-! ### one iterator just laid -/
end

/-! ### range with a step -/

/-! ### reversed(list) -/

/-! ### a str -/

/-! ### a dict's keys: any dict's entries -/

/-! ### a locked dict -/

/-! ### for k in d, d.keys(), d.values(), d.items() -/

/-! ### enumerate(list) -/
/-- the list at a as it stands at each turn, each item in a new pair -/
def Ite (K : PySem.W.Frag) (a : Addr) : It :=
  ⟨fun i H => ∃ (xs : List V) (x : V), SqL K H a xs ∧ xs[i]? = some x, fun i H v H' => ∃ T x, v = .ref T ∧ H T = none ∧ H' = upd H T (.tup [.int (i : Nat), x]) ∧ ∀ xs, SqL K H a xs → xs[i]? = some x, fun i H => ∃ xs : List V, SqL K H a xs ∧ xs.length ≤ i⟩
theorem turn_enum {P : Program} {w : World} {K : PySem.W.Frag} {elts : List Expr} {kk : Nat} {tpos : Pos} (a e it : Addr) :
    Turn P w K (.Tuple elts kk tpos) (Ite K a) [e, it] e (fun i h => (∃ old, IsEnum h e it ((i : Nat) : Int) old) ∧ h.IsListIter it a i ∧ e ≠ it) where
  mem := by simp
  obj := fun i h st b hb => by
    obtain ⟨⟨old, he⟩, ⟨o, ho, hc, hd⟩, _⟩ := st
    have e' : b = e ∨ b = it := by simpa using hb
    rcases e' with z | z
    · rw [z]; exact ⟨_, he, fun v q => nomatch q⟩
    · rw [z]; exact ⟨o, ho, fun v q => by rw [hd] at q; cases q⟩
  keep := fun i h h' st k => let ⟨⟨old, he⟩, hi, hne⟩ := st; ⟨⟨old, k e (by simp) _ he⟩, hi.at fun o q => k it (by simp) o q, hne⟩
  item := by
    intro X hP hw hK hc i pins s σ H E I hf st hg
    subst hP hw hK
    obtain ⟨⟨old, he⟩, hit, hne⟩ := st
    obtain ⟨xs, x, hq, hx⟩ := hg
    obtain ⟨its, rv, p, hz⟩ := I.list hq
    obtain ⟨u, hu, ru⟩ := rv.get hx
    have hel : e < s.heap.objs.size := Heap.lt_size he
    have hil : it < s.heap.objs.size := by obtain ⟨_, q, _⟩ := hit; exact Heap.lt_size q
    refine wpAny_pyNext_enum_item he hit p.isList (x := u) (by simpa using hu) hne fun h' ho hit' hT hsz hk => ?_
    refine ⟨_, rfl, wpAny_letOwnedTupleGo_enum (s := { s with heap := h', toks := s.toks + 1 }) ho fun h'' he' sb => ?_⟩
    have hT2 : h''.get? s.heap.objs.size = some { cls := .type "tuple", data := .seq #[.int i s.toks, u] } := (sb.2 _ (Nat.ne_of_gt hel)).trans hT
    have new : ObjOk X.prog X.w (upd H s.heap.objs.size (.tup [.int (i : Nat), x])) h'' s.heap.objs.size (.tup [.int (i : Nat), x]) :=
      ⟨by show 2 ≤ sizeLine; decide, [.int i s.toks, u], .cons ⟨_, rfl⟩ (.cons ru .nil), ⟨_, hT2, rfl, _, rfl⟩⟩
    have I1 : Inv X pins σ (upd H s.heap.objs.size (.tup [.int (i : Nat), x])) { s with heap := h'', toks := s.toks + 1 } :=
      I.turnedNew (ch := [e, it]) (fun b ob hb q => (sb.2 b (fun z => hb (by simp [z]))).trans (hk b ob (fun z => hb (by simp [z])) (fun z => hb (by simp [z])) q)) hf (Nat.le_refl _) new
    refine ⟨.ref s.heap.objs.size, _, I1, rfl, ⟨_, x, rfl, I.hok.fresh (Nat.le_refl _), rfl, fun ys hy => by rw [I.list_inj hy hq]; exact hx⟩, ⟨⟨u, ?_⟩, hit'.at fun o q => (sb.2 it (Ne.symm hne)).trans q, hne⟩, fun b hb => ?_⟩
    · have e1 : ((i + 1 : Nat) : Int) = (i : Int) + 1 := by omega
      rw [e1]; exact he'
    · have hb' : b < s.heap.objs.size := by
        have e' : b = e ∨ b = it := by simpa using hb
        rcases e' with z | z
        · rw [z]; exact hel
        · rw [z]; exact hil
      rw [upd_ne (Nat.ne_of_lt hb')]
      exact (hf b hb).1
  done := by
    intro X hP hw hK hc i pins s σ H E I hf st hg
    subst hP hw hK
    obtain ⟨⟨old, he⟩, hit, hne⟩ := st
    obtain ⟨xs, hq, hx⟩ := hg
    obtain ⟨its, rv, p, hz⟩ := I.list hq
    obtain ⟨f0, f1, f2, f3, f4, f5⟩ := hf it (by simp)
    have hl := rv.length
    exact wpAny_pyNext_enum_end (I.ok.hd hc) he hit p.isList (by simp; omega) fun h' eb => ⟨rfl, I.turned (t' := s.toks) (fun b o hb q => eb b o hb q) f0 f1 f3 f4 f5⟩
  self := fun A i s Q E st h => let ⟨⟨_, he⟩, _⟩ := st; wpAny_pyIter_enum he h
def iEnum (K : PySem.W.Frag) (ta : TA) : TI := fun σ H R => ta σ H fun vs H1 => ∃ a xs, vs = [.ref a] ∧ SqL K H1 a xs ∧ R (Ite K a) H1
theorem pi_enum {X : Cx} {e : Expr} {ta : TA} {p pos tpos : Pos} {elts : List Expr} {kk : Nat} (hg : Gl X "enumerate") (hm : X.mg "enumerate" = none) (ha : PA X [e] ta) (hs : starEach [e] X.env = [(false, eval e X.env)] := by rfl) :
    PI X (.Tuple elts kk tpos) (.Call (.Name "enumerate" p) [e] [] pos) (iEnum X.K ta) := by
  intro pins s σ H R I h
  refine Call_ (ld_blt I hg hm boot_enumerate (PyProof.Rows.callWith_type1 (thn (ha pos pins s σ H _ I h) fun us s1 ⟨vs, H1, I1, r1, q1⟩ => ?_) hs rfl))
  obtain ⟨a, xs, ex, hq, q⟩ := q1
  subst ex
  cases r1 with
  | cons r rr =>
    cases rr
    cases r
    obtain ⟨its, rv, p', hz⟩ := I1.list hq
    refine call_enumerate_list p'.isList fun h' he hit hsz hk => wpAny_pyIter_enum he ?_
    have I2 : Inv X pins σ H1 { s1 with heap := h' } := I1.kept (t' := s1.toks) hk
    refine ⟨s1.heap.objs.size + 1, [s1.heap.objs.size + 1, s1.heap.objs.size], _, _, H1, rfl, I2, turn_enum a (s1.heap.objs.size + 1) s1.heap.objs.size, ⟨⟨.none, he⟩, hit, Nat.succ_ne_self _⟩, fun b hb => ?_, q⟩
    have e' : b = s1.heap.objs.size + 1 ∨ b = s1.heap.objs.size := by simpa using hb
    have hle : s1.heap.objs.size ≤ b := by
      rcases e' with z | z
      · rw [z]; exact Nat.le_add_right _ _
      · rw [z]; exact Nat.le_refl _
    exact I1.fpOk hle (I1.hok.fresh hle)
/-! ### zip(list, list) -/
end L2

namespace L2
open PySem PySem.Spec PyProof.Rows

section
variable {X : Cx}

/-! ### of a text alone -/

/-! ### of a text and a text -/

end

end L2

namespace Att
open PySem PySem.W PySem.Calls PyProof.Rows

/-! ### the script -/
theorem ints_of_wellAll {P : Params} {h : Heap} : ∀ (ns : List Int) (vs : List Value), WellAll P h vs (ns.map WData.int) → IntsAre vs ns := by
  intro ns
  induction ns with
  | nil =>
    intro vs w
    rw [List.map_nil] at w
    cases w
    exact .nil
  | cons n ns ih =>
    intro vs w
    rw [List.map_cons] at w
    cases w with
    | cons a b =>
      cases a
      exact .cons _ _ (ih _ b)

/-! ### the attachment: holds_open's last premise (the goal 'hc' behind k_head) from a wpAny of the law's body -/

/-! ### rules over ANY heap (no ledger) from facts about the written part K: the library's own take a ledger (News) for what they write -/
section
variable {prog : Program} {w : World} {A : Around} {E : Value → Shared → Prop} {s : Shared} {K : Frag}

/-! the whole heap as the ledger: makes every rule that writes through a ledger a rule over any heap -/

end
end Att

namespace L2
open PySem PySem.Spec PyProof.Rows

theorem vals_ints : ∀ {vs : List Value} {ns : List Int}, IntsAre vs ns → Vals (ns.map V.int) vs
  | _, _, .nil => .nil
  | _, _, .cons n t h => .cons ⟨t, rfl⟩ (vals_ints h)

/-- nothing is tracked but the script, known to the object (or it is an object of the module) -/
def Only (H : Hp) : Prop := ∀ b, H b = none ∨ ∃ o xs, H b = some (.frz o (.lst xs))

end L2

/- THE LAST THEOREM (shape; LID, My.* are yours):
   My.Adr: a structure of the addresses that your layer names (classes, functions); My.Txt K t: a structure (Prop) of the equations over K;
   My.txt_mk : {K} {implicit addresses ..} (e1 : nsIn K mainGlobals "law" = some (some (.ref f))) (e2 : K.lookup f = some ⟨oc, od, .func (fnOf "law" "law" params body scope dV kV doc pm an cdv ct), sl⟩) (e3 : codeIn K cdv "law" = true) .. : ∃ t, My.Txt K t

set_option maxRecDepth 100000 in
set_option maxHeartbeats 0 in
theorem PySem.Challenge.cw_LID_holds : PySem.Challenge.rw_LID.Holds := by
  w_on; o_law; k_head; (case hw => w_witness2)
  k_fill
  refine L2.walk_of (l := PySem.Challenge.rw_LID) (n := 63) (k := 40) (x := "script") (CX := fun w => ..) (sp := fun _ => My.sp_law) rfl (by decide) rfl ⟨rfl, by decide, by decide⟩ (fun w h Y => PySem.W.kIn_of Y) ?F ?S ?C
  case F =>
    intro w mg fa h KX G hmg
    have T : ∃ t, My.Txt (L2.KOf KX) t := by
      dsimp only [L2.KOf]                          -- K must stand as «<heap const> w.params» for k_is
      refine' My.txt_mk ?e1 ?e2 ?e3 ..
      (case e1 => PySem.W.k_is)                    -- in the order: a name -> its address -> its object -> its parts
      (case e2 => PySem.W.k_is)
      ..
    obtain ⟨t, T⟩ := T
    have e0 := hmg.symm.trans (PySem.W.mg_of KX G T.law)
    cases e0                                       -- fa is the law's own address
    exact ⟨_, fun s u => .of_eq rfl, fun base kb nb => My.law_fn T kb nb⟩     -- if «.of_eq rfl» comes too early: refine' ⟨_, ?b, fun base kb nb => My.law_fn T kb nb⟩; exact fun s u => .of_eq rfl
  case S => exact fun w H a ns hl hO hS => ..
  case C => exact ..
(the tactic k_is has no namespace: write k_is) -/

/-! SHORT WORDS over the layer: a def of the text, its body, what a loop and a test want. -/
namespace L2
open PySem PySem.Spec PyProof.Rows

/-! ### the text by places -/
/-- the j-th statement of a class's body -/
def inClass (s : Stmt) (j : Nat) : Stmt := match s with
  | .ClassDef _ _ _ body _ _ _ _ _ _ _ => body.getD j (.Pass ⟨0, 0, 0, 0⟩)
  | _ => .Pass ⟨0, 0, 0, 0⟩
def defArgs (s : Stmt) : Arguments := match s with
  | .FunctionDef _ a _ _ _ _ _ _ _ _ => a
  | _ => { posonlyargs := [], args := [], vararg := none, kwonlyargs := [], kw_defaults := [], kwarg := none, defaults := [] }
def defBody (s : Stmt) : List Stmt := match s with
  | .FunctionDef _ _ b _ _ _ _ _ _ _ => b
  | _ => []
def defScope (s : Stmt) : Scope := match s with
  | .FunctionDef _ _ _ _ _ _ sc _ _ _ => sc
  | _ => { kind := .function, names := [], isGenerator := false, isCoroutine := false }

/-! ### no exception leaves a def -/
abbrev CX0 : CXT := fun _ _ _ _ _ _ => False
abbrev E0 : XK := fun _ _ _ => False
theorem pass0 {X : Cx} : Passes CX0 X E0 := fun _ _ _ _ _ _ _ h => h.elim

/-! ### a def (or method) of the text as it stands behind the top -/
structure Fun (K : PySem.W.Frag) (x qual : Str) (st : Stmt) (f : Addr) (fd : FuncData) : Prop where
  ex : ∃ (oc : Value) (od : Option Addr) (kV doc pm : Value) (an : Option Addr) (cdv ct : Value) (osl : Array (Option Value)),
    fd = PySem.W.fnOf x qual (defArgs st) (defBody st) (defScope st) .none kV doc pm an cdv ct ∧ K.lookup f = some ⟨oc, od, .func fd, osl⟩ ∧ PySem.W.codeIn K cdv qual = true
  kp : PySem.W.keepIn K (.ref f) = true
section
variable {P : Program} {w : World} {K : PySem.W.Frag} {mg : Str → Option Value} {base : Heap}
/-- THE RULE for a def: its body as a term of rules, and the reading of that term -/
theorem Fun.ok {x qual : Str} {st : Stmt} {f : Addr} {fd : FuncData} {N ps : List Str} {k : Nat} {sp : Sp} (F : Fun K x qual st f fd) (S : FnScope N ps (defScope st)) (len : ∀ vs H Q E, sp vs H Q E → vs.length = ps.length)
    (hbody : ∀ (cdv : Value) (A : Around) (outer : List Env) (s : Shared) (H : Hp) (vs : List V) (Q : VK) (E : XK), Room k (A.deeper (envOfC qual (defScope st) s.heap.objs.size f cdv)) → sp vs H Q E →
      ∃ t, PSs (cxOf CX0 P w K mg base N qual (defScope st) f cdv A outer s H E).nox (defBody st) t ∧ t { nx := fun _ H' => Q .non H', rt := Q } (start N vs) H) : FnOk P w K mg base CX0 (k + 1) f fd ps sp := by
  obtain ⟨oc, od, kV, doc, pm, an, cdv, ct, osl, rfl, lk, hcd⟩ := F.ex
  refine fn_of lk hcd S len fun A outer s H vs Q E hr hsp => ?_
  obtain ⟨t, h, q⟩ := hbody cdv A outer s H vs Q E hr hsp
  exact ⟨t, h.nox, q⟩
/-- how its arguments bind (no defaults): h is «fun _ _ _ _ _ _ us hl => match us, hl with | [_, _], _ => rfl», one _ a parameter -/
theorem Fun.binds {x qual : Str} {st : Stmt} {f : Addr} {fd : FuncData} {ps : List Str} (F : Fun K x qual st f fd)
    (h : ∀ (kV doc pm : Value) (an : Option Addr) (cdv ct : Value) (us : List Value), us.length = ps.length → bindArgs (PySem.W.fnOf x qual (defArgs st) (defBody st) (defScope st) .none kV doc pm an cdv ct) ⟨us, []⟩ = pure (ps.zip us)) : Binds K fd ps [] := by
  obtain ⟨oc, od, kV, doc, pm, an, cdv, ct, osl, rfl, lk, hcd⟩ := F.ex
  exact .all (h kV doc pm an cdv ct)
theorem fun_mk {x qual : Str} {st : Stmt} {f : Addr} {oc : Value} {od an : Option Addr} {osl : Array (Option Value)} {kV doc pm cdv ct : Value} (l : K.lookup f = some ⟨oc, od, .func (PySem.W.fnOf x qual (defArgs st) (defBody st) (defScope st) .none kV doc pm an cdv ct), osl⟩)
    (c : PySem.W.codeIn K cdv qual = true) (k : PySem.W.keepIn K (.ref f) = true) : Fun K x qual st f (PySem.W.fnOf x qual (defArgs st) (defBody st) (defScope st) .none kV doc pm an cdv ct) := ⟨⟨oc, od, kV, doc, pm, an, cdv, ct, osl, rfl, l, c⟩, k⟩
end

/-! ### expressions in short: the name that stands in the i-th slot -/
section
variable {X : Cx}
theorem pv (i : Nat) {x : Str} {pos : Pos} (hN : X.N[i]? = some x := by rfl) (hv : Vis X.env.scope x := by first | exact Or.inl rfl | exact Or.inr (Or.inl rfl) | exact Or.inr (Or.inr rfl)) (hd : (x == ("__debug__" : Str)) = false := by decide)
    (hcd : (x == ("__classdict__" : Str)) = false := by decide) : PE X (.Name x pos) (tVar i) := pe_var hN hv hd hcd
end

/-! ### tests -/
theorem iteF {A B : Prop} (h : B) : if false = true then A else B := by
  rw [if_neg Bool.false_ne_true]
  exact h
theorem iteT {A B : Prop} (h : A) : if true = true then A else B := by
  rw [if_pos rfl]
  exact h
theorem ite2 {c A B : Prop} [Decidable c] (h1 : c → A) (h2 : ¬ c → B) : if c then A else B := by
  by_cases h : c
  · rw [if_pos h]
    exact h1 h
  · rw [if_neg h]
    exact h2 h
theorem iteNS {c A B : Prop} [Decidable c] (hc : c) (h : B) : if (!decide c) = true then A else B := by
  rw [decide_eq_true hc]
  exact iteF h

/-! ### heaps -/
/-- all that was tracked is as it was -/
def Same (H H' : Hp) : Prop := ∀ b o, H b = some o → H' b = some o
theorem Same.refl (H : Hp) : Same H H := fun _ _ h => h
theorem Same.trans {H H1 H2 : Hp} (a : Same H H1) (b : Same H1 H2) : Same H H2 := fun c o h => b c o (a c o h)
theorem Same.free {H H' : Hp} (e : Same H H') {l : Addr} (h : H' l = Option.none) : H l = Option.none := by
  cases q : H l with
  | none => rfl
  | some o =>
    rw [e l o q] at h
    cases h
theorem Same.seq {K : PySem.W.Frag} {H H' : Hp} {a : Addr} {xs : List V} (e : Same H H') (h : SqL K H a xs) : SqL K H' a xs := by
  rcases h with (h | ⟨o, h⟩) | h
  · exact .inl (.inl (e _ _ h))
  · exact .inl (.inr ⟨o, e _ _ h⟩)
  · exact .inr h

/-! ### a dict's pairs: keys that differ -/
/-! ### lists -/
end L2
end
section
set_option Elab.async false
set_option linter.all false
set_option maxRecDepth 100000
namespace L2
open PySem PySem.Spec PyProof.Rows
section
variable {X : Cx}
/-! ### numbers up to 2^64 -/
def CDivB (i j : Int) : Prop := 0 < j ∧ j ≤ 18446744073709551616
theorem op_fdivB : OpR X (binaryOp .FloorDiv) (rI CDivB fun i j => .int (i / j)) := opI fun i j _ _ _ _ _ hc q => by
  have h1 : (0 : Int) < j := hc.1
  have h2 : j ≤ 18446744073709551616 := hc.2
  refine floordiv_int (by omega) (by rw [Int.fdiv_eq_ediv_of_nonneg i (by omega)]; exact q) (.inl (PyProof.noPylong_of_log2 ?_))
  have h0 : j.natAbs ≠ 0 := by omega
  have : j.natAbs.log2 < 65 := (Nat.log2_lt h0).mpr (by omega)
  omega
def CMulB (i j : Int) : Prop := (0 ≤ i ∧ i ≤ 18446744073709551616) ∧ (0 ≤ j ∧ j ≤ 18446744073709551616)
theorem bits65 {i : Int} (h0 : 0 ≤ i) (h : i ≤ 18446744073709551616) : Builtin.Int.intBits i ≤ 65 := by
  unfold Builtin.Int.intBits
  split
  · omega
  · rename_i hz
    have hz' : i ≠ 0 := by simpa using hz
    have : i.natAbs.log2 < 65 := (Nat.log2_lt (by omega)).mpr (by omega)
    omega
theorem CMulB.ok {i j : Int} (h : CMulB i j) : IntMulOk i j := by
  have h1 := bits65 h.1.1 h.1.2
  have h2 := bits65 h.2.1 h.2.2
  have h3 : Builtin.Int.intTooBig (Builtin.Int.intBits i + Builtin.Int.intBits j) = false := by
    unfold Builtin.Int.intTooBig
    refine decide_eq_false ?_
    have e : ((bitsLine : Nat) : Int) = 134217728 := by decide
    omega
  unfold IntMulOk
  rw [h3]
  simp
theorem op_mulB : OpR X (binaryOp .Mult) (rI CMulB fun i j => .int (i * j)) := opI fun _ _ _ _ _ _ _ hc q => mul_int q hc.ok
/-! ### t + u of any two tuples -/
theorem cat_tup0 {prog : Program} {w : World} {A : Around} {E : Value → Shared → Prop} {s : Shared} {t b : Addr} {ws : List Value} {Q : Value → Shared → Prop} (ht : IsTup s.heap t ([] : List Value).toArray) (hb : IsTup s.heap b ws.toArray)
    (h1 : Q (.ref b) s) : wpAny (model prog w) A (binaryOp .Add (.ref t) (.ref b)) Q E s := by
  obtain ⟨⟨cls, dd, data, sl⟩, ho, hc, n, hd⟩ := id ht
  obtain ⟨⟨cls2, dd2, data2, sl2⟩, ho2, hc2, n2, hd2⟩ := id hb
  simp only at hc hd hc2 hd2
  subst hc hd hc2 hd2
  exact concat_meets ⟨_, ho, rfl⟩ ⟨_, ho2, rfl⟩ noFill_tuple_add seq_tuple_add PySem.F.slot_tuple_add PySem.F.entry_tuple_add (PySem.F.args_tuple_add_2 _ _)
      (tuple_addW0 t b ([] : List Value).toArray ws.toArray n n2 dd dd2 sl sl2 (by simp)) ⟨ho, ho2, h1⟩
theorem same_upd {H : Hp} {p : Addr} (h : H p = none) (o : HO) : Same H (upd H p o) := fun b u q => by rw [upd_ne (ne_of_none q h)]; exact q
end
/-! ### range over whole numbers of any size -/
theorem turn_lrange {P : Program} {w : World} {K : PySem.W.Frag} {tg : Expr} (it : Addr) (lo : Int) (n : Nat) : Turn P w K tg (Itr lo n) [it] it (fun i h => IsLongIter h it (lo + (i : Nat) * 1) ((n : Int) - (i : Nat)) 1) where
  mem := by simp
  obj := fun i h st b hb => by
    have e : b = it := by simpa using hb
    subst e
    exact ⟨_, st, fun v z => by
      have z' : Data.fields _ = Data.cell v := z
      cases z'⟩
  keep := fun i h h' st k => k it (by simp) _ st
  item := by
    intro X hP hw hK hc i pins s σ H E I hf st hg
    subst hP hw hK
    obtain ⟨f0, f1, f2, f3, f4, f5⟩ := hf it (by simp)
    have W := Walks.longrange (prog := X.prog) (w := X.w) (I.ok.hd hc) it lo 1 n
    refine W.item i s _ _ hg st fun v h' tk hv st' kk => ?_
    obtain ⟨t, rfl⟩ := hv
    have I1 : Inv X pins σ H { s with heap := h', toks := tk } := I.turned (fun b o hb e => kk b o (by simpa using hb) e) f0 f1 f3 f4 f5
    refine ⟨_, rfl, go_of (s := { s with heap := h', toks := tk }) (n := "longrange_iterator") st' rfl rfl (by decide) ⟨.int (lo + i), H, I1, ⟨t, ?_⟩, ⟨rfl, rfl⟩, st', fun b hb => (hf b hb).1⟩⟩
    rw [Int.mul_one]
  done := by
    intro X hP hw hK hc i pins s σ H E I hf st hg
    subst hP hw hK
    obtain ⟨f0, f1, f2, f3, f4, f5⟩ := hf it (by simp)
    exact wpAny_pyNext_long_end (I.ok.hd hc) st (by have : n ≤ i := hg; omega) fun h' eb => ⟨rfl, I.turned (t' := s.toks) (fun b o hb e => eb b o hb e) f0 f1 f3 f4 f5⟩
  self := fun _ _ _ _ _ st h => wpAny_pyIter_longiter st h
section
variable {X : Cx} {tg : Expr}
theorem range_itB {pins : List (Addr × Obj)} {σ : St} {H : Hp} {s : Shared} {R : It → Hp → Prop} {E : Value → Shared → Prop} {lo hi : Int} {t u v : Tok} {tk : Nat} (I : Inv X pins σ H s)
    (q : R (Itr lo (hi - lo).toNat) H) : wpAny (model X.prog X.w) X.A (pyIter (.ref s.heap.objs.size)) (PIE X pins σ tg R) E { s with heap := s.heap.push { cls := .type "range", data := .fields #[.int lo t, .int hi u, .int 1 v] }, toks := tk } := by
  have I1 : Inv X pins σ H { s with heap := s.heap.push { cls := .type "range", data := .fields #[.int lo t, .int hi u, .int 1 v] }, toks := tk } := I.kept fun b o e => Heap.get?_push_of_some _ e
  have e1 : lo + ((0 : Nat) : Int) * 1 = lo := by simp
  have e2 : (((hi - lo).toNat : Nat) : Int) - ((0 : Nat) : Int) = Builtin.Range.rangeSize lo hi 1 := by rw [rangeSize_one]; split <;> omega
  have fin : ∀ b ∈ [(s.heap.push { cls := .type "range", data := .fields #[.int lo t, .int hi u, .int 1 v] }).objs.size], FpOk X pins H b := fun b hb => by
    have e : b = (s.heap.push { cls := .type "range", data := .fields #[.int lo t, .int hi u, .int 1 v] }).objs.size := by simpa using hb
    subst e
    exact I1.fpOk (Nat.le_refl _) (I1.hok.fresh (Nat.le_refl _))
  cases hb : Builtin.Range.small lo hi 1 with
  | true =>
    refine wpAny_pyIter_range (IsRange.new ..) hb ?_
    refine ⟨(s.heap.push { cls := .type "range", data := .fields #[.int lo t, .int hi u, .int 1 v] }).objs.size, [(s.heap.push { cls := .type "range", data := .fields #[.int lo t, .int hi u, .int 1 v] }).objs.size], _, _, H, rfl,
      I1.kept (t' := tk) fun b o e => Heap.get?_push_of_some _ e, turn_range _ lo (hi - lo).toNat, ?_, fin, q⟩
    show IsRangeIter _ _ (lo + ((0 : Nat) : Int) * 1) ((((hi - lo).toNat : Nat) : Int) - ((0 : Nat) : Int)) 1
    rw [e1, e2]
    exact Heap.get?_push_size _ rfl
  | false =>
    refine wpAny_pyIter_longrange (IsRange.new ..) hb ?_
    refine ⟨(s.heap.push { cls := .type "range", data := .fields #[.int lo t, .int hi u, .int 1 v] }).objs.size, [(s.heap.push { cls := .type "range", data := .fields #[.int lo t, .int hi u, .int 1 v] }).objs.size], _, _, H, rfl,
      I1.kept (t' := tk) fun b o e => Heap.get?_push_of_some _ e, turn_lrange _ lo (hi - lo).toNat, ?_, fin, q⟩
    show IsLongIter _ _ (lo + ((0 : Nat) : Int) * 1) ((((hi - lo).toNat : Nat) : Int) - ((0 : Nat) : Int)) 1
    rw [e1, e2]
    exact Heap.get?_push_size _ rfl
def iRngB (ta : TA) : TI := fun σ H R => ta σ H fun vs H1 => ∃ i j : Int, vs = [.int i, .int j] ∧ R (Itr i (j - i).toNat) H1
theorem pi_rangeB {a b : Expr} {ta : TA} {p pos : Pos} (hg : Gl X "range") (hm : X.mg "range" = none) (ha : PA X [a, b] ta) (hs : starEach [a, b] X.env = [(false, eval a X.env), (false, eval b X.env)] := by rfl) (hs2 : starEach [b] X.env = [(false, eval b X.env)] := by rfl) :
    PI X tg (.Call (.Name "range" p) [a, b] [] pos) (iRngB ta) := by
  intro pins s σ H R I h
  refine Call_ (ld_blt I hg hm boot_range (PyProof.Rows.callWith_type1 (thn (ha pos pins s σ H _ I h) fun us s1 ⟨vs, H1, I1, r1, q1⟩ => ?_) (by rw [hs, hs2]) (by rw [hs2]; rfl)))
  obtain ⟨i, j, e, q⟩ := q1
  subst e
  cases r1 with
  | cons r rr =>
    cases rr with
    | cons r' rr =>
      cases rr
      obtain ⟨t, rfl⟩ := r
      obtain ⟨t', rfl⟩ := r'
      exact call_range_2 (range_itB I1 q)
end
end L2
end
section
set_option autoImplicit false
namespace Mth
open Sg05
abbrev WL := List Bytes
def prodW : List WL → WL
  | [] => [[]]
  | A :: R => both A (prodW R)
def mx : WL → Nat
  | [] => 0
  | w :: r => max w.length (mx r)
def CAP : Nat := ALL + 1
theorem CAP_eq : CAP = 18446744073709551616 := rfl
def cap (n : Nat) : Nat := min n CAP
def cap2 (n : Nat) : Nat := min n 256

/-! ### both -/
theorem both_nil (B : WL) : both [] B = [] := rfl
theorem both_cons (a : Bytes) (A B : WL) : both (a :: A) B = B.map (fun y => a ++ y) ++ both A B := by
  unfold both; rw [List.flatMap_cons]
theorem both_length (A B : WL) : (both A B).length = A.length * B.length := by
  induction A with
  | nil => simp [both_nil]
  | cons a A ih => rw [both_cons, List.length_append, List.length_map, ih, List.length_cons, Nat.add_mul]; lia
theorem both_append (A A' B : WL) : both (A ++ A') B = both A B ++ both A' B := by
  unfold both; rw [List.flatMap_append]
theorem both_one_left (B : WL) : both [[]] B = B := by
  rw [both_cons, both_nil, List.append_nil]; simp
theorem both_one_right (A : WL) : both A [[]] = A := by
  induction A with
  | nil => rfl
  | cons a A ih => rw [both_cons, ih]; simp
theorem both_map_left (a : Bytes) (A B : WL) : both (A.map (fun y => a ++ y)) B = (both A B).map (fun y => a ++ y) := by
  induction A with
  | nil => rfl
  | cons x A ih => rw [List.map_cons, both_cons, ih, both_cons, List.map_append, List.map_map]; simp [Function.comp_def, List.append_assoc]
theorem both_assoc (A B C : WL) : both (both A B) C = both A (both B C) := by
  induction A with
  | nil => rfl
  | cons a A ih => rw [both_cons, both_append, ih, both_cons, both_map_left]
theorem both_single (u v : Bytes) : both [u] [v] = [u ++ v] := by
  rw [both_cons, both_nil]; rfl
theorem prodW_append (A B : List WL) : prodW (A ++ B) = both (prodW A) (prodW B) := by
  induction A with
  | nil => rw [List.nil_append, prodW, both_one_left]
  | cons a A ih => rw [List.cons_append, prodW, ih, prodW, both_assoc]
theorem prodW_one (A : WL) : prodW [A] = A := by rw [prodW, prodW, both_one_right]
theorem both_get (A B : WL) (hB : 0 < B.length) : ∀ (k : Nat), k < A.length * B.length → ∃ x y, A[k / B.length]? = some x ∧ B[k % B.length]? = some y ∧ (both A B)[k]? = some (x ++ y) := by
  induction A with
  | nil => intro k h; simp at h
  | cons a A ih =>
    intro k h
    rw [both_cons]
    by_cases hk : k < B.length
    · refine ⟨a, B[k], ?_, ?_, ?_⟩
      · rw [Nat.div_eq_of_lt hk]; rfl
      · rw [Nat.mod_eq_of_lt hk]; exact List.getElem?_eq_getElem hk
      · rw [List.getElem?_append_left (by rw [List.length_map]; exact hk), List.getElem?_map, List.getElem?_eq_getElem hk]; rfl
    · have h2 : k - B.length < A.length * B.length := by
        rw [List.length_cons, Nat.add_mul] at h; lia
      obtain ⟨x, y, h3, h4, h5⟩ := ih (k - B.length) h2
      have e : k = (k - B.length) + B.length := by lia
      refine ⟨x, y, ?_, ?_, ?_⟩
      · rw [e, Nat.add_div_right _ hB]; simpa using h3
      · rw [e, Nat.add_mod_right]; exact h4
      · rw [List.getElem?_append_right (by rw [List.length_map]; lia), List.length_map]; exact h5
theorem mx_append (A B : WL) : mx (A ++ B) = max (mx A) (mx B) := by
  induction A with
  | nil => rw [List.nil_append, mx]; lia
  | cons a A ih => rw [List.cons_append, mx, ih, mx]; lia
theorem mx_mem {A : WL} {w : Bytes} (h : w ∈ A) : w.length ≤ mx A := by
  induction A with
  | nil => simp at h
  | cons a A ih =>
    rw [mx]
    rcases List.mem_cons.mp h with rfl | h
    · lia
    · have := ih h; lia
theorem mx_map (a : Bytes) (B : WL) (hB : B ≠ []) : mx (B.map (fun y => a ++ y)) = a.length + mx B := by
  induction B with
  | nil => exact absurd rfl hB
  | cons b B ih =>
    rw [List.map_cons, mx, mx, List.length_append]
    by_cases e : B = []
    · subst e; simp [mx]
    · rw [ih e]; lia
theorem mx_both (A B : WL) (hA : A ≠ []) (hB : B ≠ []) : mx (both A B) = mx A + mx B := by
  induction A with
  | nil => exact absurd rfl hA
  | cons a A ih =>
    rw [both_cons, mx_append, mx_map a B hB, mx]
    by_cases e : A = []
    · subst e; rw [both_nil, mx]; lia
    · rw [ih e]; lia
theorem both_ne {A B : WL} (hA : A ≠ []) (hB : B ≠ []) : both A B ≠ [] := by
  intro e
  have h := both_length A B
  rw [e] at h
  have h1 := List.length_pos_iff.mpr hA
  have h2 := List.length_pos_iff.mpr hB
  have := Nat.mul_pos h1 h2
  simp at h; lia
theorem prodW_ne {l : List WL} (h : ∀ A ∈ l, A ≠ []) : prodW l ≠ [] := by
  induction l with
  | nil => simp [prodW]
  | cons a l ih => rw [prodW]; exact both_ne (h a (by simp)) (ih fun A hA => h A (by simp [hA]))

/-! ### caps -/
theorem cap_le (n : Nat) : cap n ≤ CAP := Nat.min_le_right _ _
theorem cap_of {n : Nat} (h : n ≤ ALL) : cap n = n := Nat.min_eq_left (by unfold CAP; omega)
theorem cap_le_iff {n : Nat} : cap n ≤ ALL ↔ n ≤ ALL := by unfold cap CAP; omega
theorem cap_one_iff {n : Nat} : cap n = 1 ↔ n = 1 := by unfold cap; rw [CAP_eq]; omega
theorem cap_zero_iff {n : Nat} : cap n = 0 ↔ n = 0 := by unfold cap; rw [CAP_eq]; omega
theorem cap_mul (a b : Nat) : cap (cap a * cap b) = cap (a * b) := by
  unfold cap
  have hc : 0 < CAP := by decide
  by_cases ha : a ≤ CAP
  · rw [Nat.min_eq_left ha]
    by_cases hb : b ≤ CAP
    · rw [Nat.min_eq_left hb]
    · rw [Nat.min_eq_right (Nat.le_of_not_le hb)]
      rcases Nat.eq_zero_or_pos a with rfl | h
      · simp
      · have h1 : CAP ≤ a * CAP := Nat.le_mul_of_pos_left _ h
        have h2 : a * CAP ≤ a * b := Nat.mul_le_mul_left _ (Nat.le_of_not_le hb)
        omega
  · rw [Nat.min_eq_right (Nat.le_of_not_le ha)]
    by_cases hb : b ≤ CAP
    · rw [Nat.min_eq_left hb]
      rcases Nat.eq_zero_or_pos b with rfl | h
      · simp
      · have h1 : CAP ≤ CAP * b := Nat.le_mul_of_pos_right _ h
        have h2 : CAP * b ≤ a * b := Nat.mul_le_mul_right _ (Nat.le_of_not_le ha)
        omega
    · rw [Nat.min_eq_right (Nat.le_of_not_le hb)]
      have h1 : CAP ≤ CAP * CAP := Nat.le_mul_of_pos_right _ hc
      have h2 : CAP * CAP ≤ a * b := Nat.mul_le_mul (Nat.le_of_not_le ha) (Nat.le_of_not_le hb)
      omega
theorem cap_mul_left (a b : Nat) : cap (cap a * b) = cap (a * b) := by
  have : cap (cap a) = cap a := by unfold cap; omega
  rw [← cap_mul (cap a) b, this, cap_mul]
theorem cap_mul_right (a b : Nat) : cap (a * cap b) = cap (a * b) := by
  have : cap (cap b) = cap b := by unfold cap; omega
  rw [← cap_mul a (cap b), this, cap_mul]
theorem cap_add (a b : Nat) : cap (cap a + cap b) = cap (a + b) := by unfold cap; omega
theorem cap_add_left (a b : Nat) : cap (cap a + b) = cap (a + b) := by unfold cap; omega
theorem cap_add_right (a b : Nat) : cap (a + cap b) = cap (a + b) := by unfold cap; omega

/-! ### the specification's words -/
theorem inRow_eq (l : List Pat) : inRow l = prodW (l.map words) := by
  induction l with
  | nil => simp [inRow, prodW]
  | cons p l ih => rw [inRow, ih, List.map_cons, prodW]
theorem inTurn_eq (l : List Pat) : inTurn l = (l.map words).flatten := by
  induction l with
  | nil => simp [inTurn]
  | cons p l ih => rw [inTurn, ih, List.map_cons, List.flatten_cons]
theorem times_eq (A : WL) (k : Nat) : times A k = prodW (List.replicate k A) := by
  induction k with
  | zero => rfl
  | succ k ih => rw [times, ih, List.replicate_succ, prodW]
theorem words_seq (l : List Pat) : words (.seq l) = prodW (l.map words) := by rw [words, inRow_eq]
theorem words_alt (l : List Pat) : words (.alt l) = (l.map words).flatten := by rw [words, inTurn_eq]
theorem words_rep (p : Pat) (m n : Nat) : words (.rep p m n) = ((List.range (n + 1 - m)).map fun i => prodW (List.replicate (m + i) (words p))).flatten := by
  rw [words, List.flatMap_def]
  congr 1
  apply List.map_congr_left
  intro i _
  exact times_eq _ _
theorem prodW_rep_length (A : WL) (k : Nat) : (prodW (List.replicate k A)).length = A.length ^ k := by
  induction k with
  | zero => rfl
  | succ k ih => rw [List.replicate_succ, prodW, both_length, ih, Nat.pow_succ, Nat.mul_comm]
theorem power_eq (c k : Nat) : power (cap c) k = cap (c ^ k) := by
  induction k with
  | zero => rfl
  | succ k ih =>
    have e : power (cap c) (k + 1) = cap (cap c * power (cap c) k) := rfl
    rw [e, ih, cap_mul, Nat.pow_succ, Nat.mul_comm]
theorem fold_cap (f : Nat → Nat) (l : List Nat) : ∀ x, l.foldl (fun x i => upTo (x + cap (f i))) (cap x) = cap (x + (l.map f).sum) := by
  induction l with
  | nil => intro x; simp
  | cons a l ih =>
    intro x
    rw [List.foldl_cons]
    have e : upTo (cap x + cap (f a)) = cap (x + f a) := cap_add x (f a)
    rw [e, ih, List.map_cons, List.sum_cons, Nat.add_assoc]
theorem flatten_length (l : List WL) : l.flatten.length = (l.map List.length).sum := by
  induction l with
  | nil => rfl
  | cons a l ih => rw [List.flatten_cons, List.length_append, ih, List.map_cons, List.sum_cons]
mutual
theorem counted_eq : ∀ p : Pat, counted p = cap (words p).length
  | .byte c => by rw [counted, words]; rfl
  | .seq l => by rw [counted, words]; exact countedRow_eq l
  | .alt l => by rw [counted, words]; exact countedTurn_eq l
  | .rep p m n => by
    rw [counted, counted_eq p, words_rep, flatten_length, List.map_map]
    have e : (fun (x i : Nat) => upTo (x + power (cap (words p).length) (m + i))) = fun (x i : Nat) => upTo (x + cap ((words p).length ^ (m + i))) := by
      funext x i; rw [power_eq]
    show (List.range (n + 1 - m)).foldl (fun (x i : Nat) => upTo (x + power (cap (words p).length) (m + i))) 0 = _
    rw [e]
    have h := fold_cap (fun i => (words p).length ^ (m + i)) (List.range (n + 1 - m)) 0
    rw [show cap 0 = 0 from rfl, Nat.zero_add] at h
    rw [h]
    congr 2
    apply List.map_congr_left
    intro i _
    exact (prodW_rep_length _ _).symm
theorem countedRow_eq : ∀ l : List Pat, countedRow l = cap (inRow l).length
  | [] => by rw [countedRow, inRow]; rfl
  | p :: l => by
    rw [countedRow, inRow, both_length, counted_eq p, countedRow_eq l]
    exact cap_mul _ _
theorem countedTurn_eq : ∀ l : List Pat, countedTurn l = cap (inTurn l).length
  | [] => by rw [countedTurn, inTurn]; rfl
  | p :: l => by
    rw [countedTurn, inTurn, List.length_append, counted_eq p, countedTurn_eq l]
    exact cap_add _ _
end
end Mth
end
section
set_option autoImplicit false
namespace Mth
open Sg05
theorem runOf_eq : ∀ (Ls : List WL) (k : Nat), k < Ls.flatten.length → ∃ L, Ls[(runOf (Ls.map List.length) k).1]? = some L ∧ (runOf (Ls.map List.length) k).2 < L.length ∧ Ls.flatten[k]? = L[(runOf (Ls.map List.length) k).2]?
  | [], k, h => by simp at h
  | A :: Ls, k, h => by
    rw [List.map_cons, runOf]
    by_cases hk : k < A.length
    · rw [if_pos hk]
      exact ⟨A, rfl, hk, by rw [List.flatten_cons, List.getElem?_append_left hk]⟩
    · rw [if_neg hk]
      rw [List.flatten_cons, List.length_append] at h
      obtain ⟨L, h1, h2, h3⟩ := runOf_eq Ls (k - A.length) (by lia)
      refine ⟨L, ?_, h2, ?_⟩
      · simpa using h1
      · rw [List.flatten_cons, List.getElem?_append_right (by lia)]; exact h3
theorem nthTimes_eq (A : WL) (w : Nat → Bytes) (hw : A.length ≤ ALL → ∀ j, j < A.length → A[j]? = some (w j)) : ∀ (i k : Nat), A.length ^ i ≤ ALL → k < A.length ^ i → (prodW (List.replicate i A))[k]? = some (nthTimes w (cap A.length) i k)
  | 0, k, _, h => by
    have : k = 0 := by simp at h; omega
    subst this; rfl
  | i + 1, k, hc, h => by
    have hp : 0 < A.length := by
      rcases Nat.eq_zero_or_pos A.length with e | e
      · rw [e, Nat.pow_succ] at h; omega
      · exact e
    have hpi : 0 < A.length ^ i := Nat.pow_pos hp
    have h1 : A.length ^ i ≤ A.length ^ (i + 1) := by rw [Nat.pow_succ]; exact Nat.le_mul_of_pos_right _ hp
    have h2 : A.length ≤ A.length ^ (i + 1) := by rw [Nat.pow_succ]; exact Nat.le_mul_of_pos_left _ hpi
    rw [List.replicate_succ, prodW, nthTimes, power_eq, cap_of (Nat.le_trans h1 hc)]
    have hl := prodW_rep_length A i
    obtain ⟨x, y, e1, e2, e3⟩ := both_get A (prodW (List.replicate i A)) (by rw [hl]; exact hpi) k (by rw [hl, Nat.mul_comm, ← Nat.pow_succ]; exact h)
    rw [hl] at e1 e2
    rw [e3]
    have q1 := hw (Nat.le_trans h2 hc) (k / A.length ^ i) (by rw [Nat.div_lt_iff_lt_mul hpi, Nat.mul_comm, ← Nat.pow_succ]; exact h)
    have q2 := nthTimes_eq A w hw i (k % A.length ^ i) (Nat.le_trans h1 hc) (Nat.mod_lt _ hpi)
    rw [e1] at q1; rw [e2] at q2
    rw [Option.some.inj q1, Option.some.inj q2]
theorem mem_sum_le {l : List Nat} {x : Nat} (h : x ∈ l) : x ≤ l.sum := by
  induction l with
  | nil => simp at h
  | cons a l ih =>
    rw [List.sum_cons]
    rcases List.mem_cons.mp h with rfl | h
    · lia
    · have := ih h; lia
mutual
theorem nth_eq : ∀ (p : Pat) (k : Nat), (words p).length ≤ ALL → k < (words p).length → (words p)[k]? = some (nth p k)
  | .byte c, k, _, h => by
    rw [words] at h ⊢
    have : k = 0 := by simp at h; omega
    subst this; rw [nth]; rfl
  | .seq l, k, hc, h => by rw [words] at hc h ⊢; rw [nth]; exact nthRow_eq l k hc h
  | .alt l, k, hc, h => by rw [words] at hc h ⊢; rw [nth]; exact nthTurn_eq l k hc h
  | .rep p m n, k, hc, h => by
    rw [words_rep] at hc h ⊢
    have hb : ∀ i, i ∈ List.range (n + 1 - m) → (words p).length ^ (m + i) ≤ ALL := fun i hi => by
      refine Nat.le_trans ?_ hc
      rw [flatten_length, List.map_map]
      refine Nat.le_trans ?_ (mem_sum_le (List.mem_map_of_mem hi))
      exact Nat.le_of_eq (prodW_rep_length _ _).symm
    have el : ((List.range (n + 1 - m)).map fun i => power (counted p) (m + i)) = (((List.range (n + 1 - m)).map fun i => prodW (List.replicate (m + i) (words p))).map List.length) := by
      rw [List.map_map]
      apply List.map_congr_left
      intro i hi
      rw [counted_eq, power_eq, cap_of (hb i hi)]
      exact (prodW_rep_length _ _).symm
    obtain ⟨L, h1, h2, h3⟩ := runOf_eq _ k h
    rw [h3]
    have en : nth (.rep p m n) k = nthTimes (fun j => nth p j) (counted p) (m + (runOf ((List.range (n + 1 - m)).map fun i => power (counted p) (m + i)) k).1) (runOf ((List.range (n + 1 - m)).map fun i => power (counted p) (m + i)) k).2 := by rw [nth]
    rw [en, el, counted_eq]
    generalize runOf _ k = r at *
    rw [List.getElem?_map] at h1
    cases e : (List.range (n + 1 - m))[r.1]? with
    | none => rw [e] at h1; simp at h1
    | some i =>
      rw [e] at h1
      have ei : i = r.1 := by
        obtain ⟨hh, e'⟩ := List.getElem?_eq_some_iff.mp e
        rw [List.getElem_range] at e'; exact e'.symm
      have hm : i ∈ List.range (n + 1 - m) := List.mem_of_getElem? e
      have eL : prodW (List.replicate (m + i) (words p)) = L := Option.some.inj h1
      rw [← eL] at h2 ⊢
      rw [prodW_rep_length] at h2
      rw [← ei]
      exact nthTimes_eq (words p) (fun j => nth p j) (fun hh j hj => nth_eq p j hh hj) (m + i) r.2 (hb i hm) h2
theorem nthRow_eq : ∀ (l : List Pat) (k : Nat), (inRow l).length ≤ ALL → k < (inRow l).length → (inRow l)[k]? = some (nthRow l k)
  | [], k, _, h => by
    rw [inRow] at h ⊢
    have : k = 0 := by simp at h; omega
    subst this; rw [nthRow]; rfl
  | p :: l, k, hc, h => by
    rw [inRow] at hc h ⊢
    rw [both_length] at hc h
    have hp : 0 < (words p).length := by
      rcases Nat.eq_zero_or_pos (words p).length with e | e
      · rw [e] at h; simp at h
      · exact e
    have hq : 0 < (inRow l).length := by
      rcases Nat.eq_zero_or_pos (inRow l).length with e | e
      · rw [e] at h; simp at h
      · exact e
    have c1 : (words p).length ≤ ALL := Nat.le_trans (Nat.le_mul_of_pos_right _ hq) hc
    have c2 : (inRow l).length ≤ ALL := Nat.le_trans (Nat.le_mul_of_pos_left _ hp) hc
    obtain ⟨x, y, e1, e2, e3⟩ := both_get (words p) (inRow l) hq k h
    rw [e3, nthRow, countedRow_eq, cap_of c2]
    have q1 := nth_eq p (k / (inRow l).length) c1 (by rw [Nat.div_lt_iff_lt_mul hq]; exact h)
    have q2 := nthRow_eq l (k % (inRow l).length) c2 (Nat.mod_lt _ hq)
    rw [e1] at q1; rw [e2] at q2
    rw [Option.some.inj q1, Option.some.inj q2]
theorem nthTurn_eq : ∀ (l : List Pat) (k : Nat), (inTurn l).length ≤ ALL → k < (inTurn l).length → (inTurn l)[k]? = some (nthTurn l k)
  | [], k, _, h => by rw [inTurn] at h; simp at h
  | p :: l, k, hc, h => by
    rw [inTurn] at hc h ⊢
    rw [List.length_append] at hc h
    have c1 : (words p).length ≤ ALL := by omega
    rw [nthTurn, counted_eq, cap_of c1]
    by_cases hk : k < (words p).length
    · rw [List.getElem?_append_left hk]
      simp only [hk, if_true]
      exact nth_eq p k c1 hk
    · rw [List.getElem?_append_right (by omega)]
      simp only [hk, if_false]
      exact nthTurn_eq l (k - (words p).length) (by omega) (by omega)
end
/-! ### well formed, how long, how deep -/
mutual
def WF : Pat → Prop
  | .byte _ => True
  | .seq l => WFs l
  | .alt l => l ≠ [] ∧ WFs l
  | .rep p m n => WF p ∧ m ≤ n
def WFs : List Pat → Prop
  | [] => True
  | p :: l => WF p ∧ WFs l
end
theorem WFs_mem : ∀ {l : List Pat} {p : Pat}, WFs l → p ∈ l → WF p
  | [], _, _, h => by simp at h
  | q :: l, p, w, h => by
    rw [WFs] at w
    rcases List.mem_cons.mp h with rfl | h
    · exact w.1
    · exact WFs_mem w.2 h
theorem WFs_append : ∀ {l l' : List Pat}, WFs l → WFs l' → WFs (l ++ l')
  | [], _, _, w' => w'
  | p :: l, l', w, w' => by rw [WFs] at w; rw [List.cons_append, WFs]; exact ⟨w.1, WFs_append w.2 w'⟩
theorem WFs_one {p : Pat} (h : WF p) : WFs [p] := by rw [WFs, WFs]; exact ⟨h, trivial⟩
theorem flatten_ne {l : List WL} {A : WL} (h : A ∈ l) (hA : A ≠ []) : l.flatten ≠ [] := by
  intro e
  have : ∀ B ∈ l, B = [] := List.flatten_eq_nil_iff.mp e
  exact hA (this A h)
mutual
theorem words_ne : ∀ {p : Pat}, WF p → words p ≠ []
  | .byte c, _ => by rw [words]; simp
  | .seq l, h => by rw [WF] at h; rw [words]; exact inRow_ne h
  | .alt [], h => by rw [WF] at h; exact absurd rfl h.1
  | .alt (p :: l), h => by
    rw [WF, WFs] at h
    rw [words, inTurn]
    intro e
    exact words_ne h.2.1 (List.append_eq_nil_iff.mp e).1
  | .rep p m n, h => by
    rw [WF] at h
    rw [words_rep]
    refine flatten_ne (A := prodW (List.replicate (m + 0) (words p))) (List.mem_map.mpr ⟨0, List.mem_range.mpr (by lia), rfl⟩) ?_
    exact prodW_ne fun A hA => by rw [List.eq_of_mem_replicate hA]; exact words_ne h.1
theorem inRow_ne : ∀ {l : List Pat}, WFs l → inRow l ≠ []
  | [], _ => by rw [inRow]; simp
  | p :: l, h => by rw [WFs] at h; rw [inRow]; exact both_ne (words_ne h.1) (inRow_ne h.2)
end
theorem mx_prod_rep (A : WL) (hA : A ≠ []) (k : Nat) : mx (prodW (List.replicate k A)) = k * mx A := by
  induction k with
  | zero => simp [prodW, mx]
  | succ k ih =>
    rw [List.replicate_succ, prodW, mx_both A _ hA (prodW_ne fun B hB => by rw [List.eq_of_mem_replicate hB]; exact hA), ih, Nat.add_mul]; lia
theorem mx_flatten_le {l : List WL} {b : Nat} (h : ∀ A ∈ l, mx A ≤ b) : mx l.flatten ≤ b := by
  induction l with
  | nil => simp [mx]
  | cons a l ih =>
    rw [List.flatten_cons, mx_append]
    have h1 := h a (by simp)
    have h2 := ih fun A hA => h A (by simp [hA])
    lia
theorem mx_flatten_ge {l : List WL} {A : WL} (h : A ∈ l) : mx A ≤ mx l.flatten := by
  induction l with
  | nil => simp at h
  | cons a l ih =>
    rw [List.flatten_cons, mx_append]
    rcases List.mem_cons.mp h with rfl | h
    · lia
    · have := ih h; lia
mutual
theorem longest_eq : ∀ {p : Pat}, WF p → longest p = mx (words p)
  | .byte c, _ => by rw [longest, words]; simp [mx]
  | .seq l, h => by rw [WF] at h; rw [longest, words]; exact together_eq h
  | .alt l, h => by rw [WF] at h; rw [longest, words]; exact widest_eq h.2
  | .rep p m n, h => by
    rw [WF] at h
    rw [longest, longest_eq h.1, words_rep]
    have hn := words_ne h.1
    apply Nat.le_antisymm
    · have q := mx_flatten_ge (l := (List.range (n + 1 - m)).map fun i => prodW (List.replicate (m + i) (words p))) (A := prodW (List.replicate (m + (n - m)) (words p))) (List.mem_map.mpr ⟨n - m, List.mem_range.mpr (by lia), rfl⟩)
      rw [mx_prod_rep _ hn, show m + (n - m) = n by lia] at q
      exact q
    · apply mx_flatten_le
      intro A hA
      obtain ⟨i, hi, rfl⟩ := List.mem_map.mp hA
      rw [mx_prod_rep _ hn]
      exact Nat.mul_le_mul_right _ (by have := List.mem_range.mp hi; lia)
theorem together_eq : ∀ {l : List Pat}, WFs l → together l = mx (inRow l)
  | [], _ => by rw [together, inRow]; rfl
  | p :: l, h => by
    rw [WFs] at h
    rw [together, inRow, mx_both _ _ (words_ne h.1) (inRow_ne h.2), longest_eq h.1, together_eq h.2]
theorem widest_eq : ∀ {l : List Pat}, WFs l → widest l = mx (inTurn l)
  | [], _ => by rw [widest, inTurn]; rfl
  | p :: l, h => by
    rw [WFs] at h
    rw [widest, inTurn, mx_append, longest_eq h.1, widest_eq h.2]
end
end Mth
end
section
set_option autoImplicit false
namespace Mth
open Sg05
inductive Md where
  | sign (rep : Bool)
  | least
  | comma (m : Nat)
  | most (m : Nat)
  | brace (m n : Nat)
structure RS where
  b : List Pat
  i : List Pat
  up : List (List Pat × List Pat)
  md : Md
def stepSign (st : RS) (rep : Bool) (c : UInt8) : Option RS :=
  if letter c = true then some ⟨st.b, st.i ++ [.byte c], st.up, .sign true⟩
  else if c = 40 then (if st.up.length = 32 then none else some ⟨[], [], (st.b, st.i) :: st.up, .sign false⟩)
  else if c = 41 then (match st.up with
    | [] => none
    | (b2, i2) :: rest => some ⟨b2, i2 ++ [.alt (st.b ++ [.seq st.i])], rest, .sign true⟩)
  else if c = 124 then some ⟨st.b ++ [.seq st.i], [], st.up, .sign false⟩
  else if c = 123 then (if rep then some ⟨st.b, st.i, st.up, .least⟩ else none)
  else none
def step (st : RS) (c : UInt8) : Option RS := match st.md with
  | .sign rep => stepSign st rep c
  | .least => (match digit c with
    | some m => some ⟨st.b, st.i, st.up, .comma m⟩
    | none => none)
  | .comma m => if c = 44 then some ⟨st.b, st.i, st.up, .most m⟩ else none
  | .most m => (match digit c with
    | some n => if n < m then none else some ⟨st.b, st.i, st.up, .brace m n⟩
    | none => none)
  | .brace m n => if c = 125 then (match st.i.getLast? with
    | some p => some ⟨st.b, st.i.dropLast ++ [.rep p m n], st.up, .sign false⟩
    | none => none) else none
def canEnd (st : RS) : Bool := match st.md with
  | .sign _ => st.up.isEmpty
  | _ => false
def run : RS → Nat → Bytes → Except Nat Pat
  | st, at_, [] => if canEnd st = true then .ok (.alt (st.b ++ [.seq st.i])) else .error at_
  | st, at_, c :: r => match step st c with
    | none => .error at_
    | some st' => run st' (at_ + 1) r
theorem run_cons_none {st : RS} {at_ : Nat} {c : UInt8} {r : Bytes} (h : step st c = none) : run st at_ (c :: r) = .error at_ := by
  rw [run, h]
theorem run_cons_some {st st' : RS} {at_ : Nat} {c : UInt8} {r : Bytes} (h : step st c = some st') : run st at_ (c :: r) = run st' (at_ + 1) r := by
  rw [run, h]
theorem run_rep_irr {b i : List Pat} {up : List (List Pat × List Pat)} {at_ : Nat} : ∀ {r : Bytes}, (∀ t, r ≠ 123 :: t) → run ⟨b, i, up, .sign true⟩ at_ r = run ⟨b, i, up, .sign false⟩ at_ r
  | [], _ => rfl
  | c :: r, h => by
    have hc : c ≠ 123 := fun e => h r (by rw [e])
    have e : step ⟨b, i, up, .sign true⟩ c = step ⟨b, i, up, .sign false⟩ c := by
      show stepSign _ true c = stepSign _ false c
      unfold stepSign
      simp only [if_neg hc]
    rw [run, run, e]
theorem bounds_run (b i : List Pat) (p : Pat) (up : List (List Pat × List Pat)) (at_ : Nat) (r : Bytes) :
    match bounds at_ r with
    | .error e => run ⟨b, i ++ [p], up, .sign true⟩ at_ r = .error e
    | .ok (x, n) => run ⟨b, i ++ [p], up, .sign true⟩ at_ r = run ⟨b, i ++ [withBounds p x], up, .sign false⟩ (at_ + n) (r.drop n) := by
  match r with
  | [] => rw [bounds]; exact run_rep_irr (by simp); simp
  | c :: r =>
    by_cases hc : c = 123
    · subst hc
      have s1 : step ⟨b, i ++ [p], up, .sign true⟩ 123 = some ⟨b, i ++ [p], up, .least⟩ := rfl
      rw [run_cons_some s1]
      match r with
      | [] => rw [show bounds at_ [123] = .error (at_ + 1) from rfl]; rfl
      | a :: r =>
        cases ha : digit a with
        | none =>
          have s2 : step ⟨b, i ++ [p], up, .least⟩ a = none := by show (match digit a with | some m => _ | none => none) = _; rw [ha]
          rw [show bounds at_ (123 :: a :: r) = .error (at_ + 1) by simp [bounds, ha]]
          show run _ _ _ = _
          rw [run_cons_none s2]
        | some m =>
          have s2 : step ⟨b, i ++ [p], up, .least⟩ a = some ⟨b, i ++ [p], up, .comma m⟩ := by show (match digit a with | some m => _ | none => none) = _; rw [ha]
          rw [run_cons_some s2]
          match r with
          | [] => rw [show bounds at_ [123, a] = .error (at_ + 2) by simp [bounds, ha]]; rfl
          | d :: r =>
            by_cases hd : d = 44
            · have s3 : step ⟨b, i ++ [p], up, .comma m⟩ d = some ⟨b, i ++ [p], up, .most m⟩ := by show (if d = 44 then _ else _) = _; rw [if_pos hd]
              rw [run_cons_some s3]
              match r with
              | [] => rw [show bounds at_ [123, a, d] = .error (at_ + 3) by simp [bounds, ha, hd]]; rfl
              | f :: r =>
                cases hf : digit f with
                | none =>
                  have s4 : step ⟨b, i ++ [p], up, .most m⟩ f = none := by show (match digit f with | some m => _ | none => none) = _; rw [hf]
                  rw [show bounds at_ (123 :: a :: d :: f :: r) = .error (at_ + 3) by simp [bounds, ha, hd, hf]]
                  show run _ _ _ = _
                  rw [run_cons_none s4]
                | some n =>
                  by_cases hn : n < m
                  · have s4 : step ⟨b, i ++ [p], up, .most m⟩ f = none := by show (match digit f with | some m => _ | none => none) = _; rw [hf]; exact if_pos hn
                    rw [show bounds at_ (123 :: a :: d :: f :: r) = .error (at_ + 3) by simp [bounds, ha, hd, hf, hn]]
                    show run _ _ _ = _
                    rw [run_cons_none s4]
                  · have s4 : step ⟨b, i ++ [p], up, .most m⟩ f = some ⟨b, i ++ [p], up, .brace m n⟩ := by show (match digit f with | some m => _ | none => none) = _; rw [hf]; exact if_neg hn
                    rw [run_cons_some s4]
                    match r with
                    | [] => rw [show bounds at_ [123, a, d, f] = .error (at_ + 4) by simp [bounds, ha, hd, hf, hn]]; rfl
                    | g :: r =>
                      by_cases hg : g = 125
                      · subst hg
                        have s5 : step ⟨b, i ++ [p], up, .brace m n⟩ 125 = some ⟨b, i ++ [.rep p m n], up, .sign false⟩ := by
                          show (match (i ++ [p]).getLast? with | some p => some _ | none => none) = _
                          rw [List.getLast?_append, List.getLast?_singleton]
                          simp
                        rw [run_cons_some s5, show bounds at_ (123 :: a :: d :: f :: 125 :: r) = .ok (some (m, n), 5) by simp [bounds, ha, hd, hf, hn]]
                        rfl
                      · have s5 : step ⟨b, i ++ [p], up, .brace m n⟩ g = none := by
                          show (if g = 125 then _ else none) = _
                          rw [if_neg hg]
                        have eb : bounds at_ (123 :: a :: d :: f :: g :: r) = .error (at_ + 4) := by
                          simp only [bounds, ha, hd, hf, hn]
                          simp only [ne_eq, not_true, if_false]
                          split
                          · rename_i h; simp at h; exact absurd h.1 hg
                          · rfl
                        rw [run_cons_none s5, eb]
            · have s3 : step ⟨b, i ++ [p], up, .comma m⟩ d = none := by show (if d = 44 then _ else _) = _; rw [if_neg hd]
              rw [show bounds at_ (123 :: a :: d :: r) = .error (at_ + 2) by simp [bounds, ha, hd]]
              show run _ _ _ = _
              rw [run_cons_none s3]
    · have e : bounds at_ (c :: r) = .ok (none, 0) := by
        unfold bounds
        split
        · rename_i h; simp at h; exact absurd h.1 hc
        · rfl
      rw [e]
      show run _ _ _ = _
      rw [run_rep_irr (by intro t ht; simp at ht; exact hc ht.1)]
      simp [withBounds]
end Mth
end
section
set_option autoImplicit false
namespace Mth
open Sg05
theorem letter_not {c : UInt8} (h : letter c = true) : c ≠ 40 ∧ c ≠ 41 ∧ c ≠ 124 ∧ c ≠ 123 := by
  refine ⟨?_, ?_, ?_, ?_⟩ <;> (rintro rfl; revert h; decide)
theorem read_run : ∀ (k deep at_ : Nat) (s : Bytes) (b i : List Pat) (up : List (List Pat × List Pat)), up.length = deep → deep ≤ 32 → s.length < k →
    match read k deep at_ s b i with
    | .error e => run ⟨b, i, up, .sign false⟩ at_ s = .error e
    | .ok (p, q, t) => (t = [] ∧ q = at_ + s.length ∧ run ⟨b, i, up, .sign false⟩ at_ s = (if up.isEmpty = true then .ok p else .error q)) ∨
      ∃ r, t = 41 :: r ∧ r.length < s.length ∧ q + 1 + r.length = at_ + s.length ∧ run ⟨b, i, up, .sign false⟩ at_ s = (match up with
        | [] => .error q
        | (b2, i2) :: rest => run ⟨b2, i2 ++ [p], rest, .sign true⟩ (q + 1) r) := by
  intro k
  induction k with
  | zero => intro deep at_ s b i up _ _ h; lia
  | succ k ih =>
    intro deep at_ s b i up hu hd hk
    match s with
    | [] =>
      rw [show read (k + 1) deep at_ [] b i = .ok (.alt (b ++ [.seq i]), at_, []) by rw [Sg05.read]]
      exact .inl ⟨rfl, rfl, rfl⟩
    | c :: r =>
      have hr : r.length < k := by simp at hk; lia
      by_cases h1 : c = 124
      · subst h1
        have e : read (k + 1) deep at_ (124 :: r) b i = read k deep (at_ + 1) r (b ++ [.seq i]) [] := by rw [Sg05.read]; simp
        have s1 : step ⟨b, i, up, .sign false⟩ 124 = some ⟨b ++ [.seq i], [], up, .sign false⟩ := rfl
        rw [e, run_cons_some s1]
        have q := ih deep (at_ + 1) r (b ++ [.seq i]) [] up hu hd hr
        revert q
        cases read k deep (at_ + 1) r (b ++ [.seq i]) [] with
        | error e => exact id
        | ok x =>
          obtain ⟨p, q, t⟩ := x
          rintro (⟨h1, h2, h3⟩ | ⟨r', h1, h2, h3, h4⟩)
          · exact .inl ⟨h1, by simp; lia, h3⟩
          · exact .inr ⟨r', h1, by simp; lia, by simp; lia, h4⟩
      · by_cases h2 : c = 41
        · subst h2
          have e : read (k + 1) deep at_ (41 :: r) b i = .ok (.alt (b ++ [.seq i]), at_, 41 :: r) := by rw [Sg05.read]; simp
          rw [e]
          refine .inr ⟨r, rfl, by simp, by simp; lia, ?_⟩
          match up with
          | [] =>
            have s1 : step ⟨b, i, [], .sign false⟩ 41 = none := rfl
            rw [run_cons_none s1]
          | (b2, i2) :: rest =>
            have s1 : step ⟨b, i, (b2, i2) :: rest, .sign false⟩ 41 = some ⟨b2, i2 ++ [.alt (b ++ [.seq i])], rest, .sign true⟩ := rfl
            rw [run_cons_some s1]
        · by_cases h3 : letter c = true
          · have s1 : step ⟨b, i, up, .sign false⟩ c = some ⟨b, i ++ [.byte c], up, .sign true⟩ := by
              show stepSign _ false c = _
              unfold stepSign
              rw [if_pos h3]
            rw [run_cons_some s1]
            have hb := bounds_run b i (.byte c) up (at_ + 1) r
            cases hx : bounds (at_ + 1) r with
            | error e =>
              rw [hx] at hb
              have e' : read (k + 1) deep at_ (c :: r) b i = .error e := by rw [Sg05.read]; simp only [if_neg h1, if_neg h2, if_pos h3, hx]
              rw [e']
              exact hb
            | ok x =>
              obtain ⟨x, n⟩ := x
              rw [hx] at hb
              have e' : read (k + 1) deep at_ (c :: r) b i = read k deep (at_ + 1 + n) (r.drop n) b (i ++ [withBounds (.byte c) x]) := by rw [Sg05.read]; simp only [if_neg h1, if_neg h2, if_pos h3, hx]
              have hn : n ≤ r.length := by
                revert hx
                unfold bounds
                repeat' split
                all_goals (intro hx; try (cases hx))
                all_goals simp
              rw [e', show run _ (at_ + 1) r = _ from hb]
              have q := ih deep (at_ + 1 + n) (r.drop n) b (i ++ [withBounds (.byte c) x]) up hu hd (by rw [List.length_drop]; lia)
              revert q
              cases read k deep (at_ + 1 + n) (r.drop n) b (i ++ [withBounds (.byte c) x]) with
              | error e => exact id
              | ok y =>
                obtain ⟨p, q, t⟩ := y
                rintro (⟨h1, h2, h3⟩ | ⟨r', h1, h2, h3, h4⟩)
                · refine .inl ⟨h1, ?_, h3⟩
                  rw [h2]; simp; lia
                · rw [List.length_drop] at h2 h3
                  exact .inr ⟨r', h1, by simp; lia, by simp; lia, h4⟩
          · by_cases h4 : c = 40
            · subst h4
              by_cases h5 : deep = 32
              · have e : read (k + 1) deep at_ (40 :: r) b i = .error at_ := by
                  rw [Sg05.read]; simp [DEEP, h5, show letter 40 = false from rfl]
                have s1 : step ⟨b, i, up, .sign false⟩ 40 = none := by
                  show stepSign _ false 40 = _
                  unfold stepSign
                  rw [if_neg (by decide), if_pos rfl, if_pos (by show up.length = 32; lia)]
                rw [e, run_cons_none s1]
              · have s1 : step ⟨b, i, up, .sign false⟩ 40 = some ⟨[], [], (b, i) :: up, .sign false⟩ := by
                  show stepSign _ false 40 = _
                  unfold stepSign
                  rw [if_neg (by decide), if_pos rfl, if_neg (by show ¬ up.length = 32; lia)]
                rw [run_cons_some s1]
                have q := ih (deep + 1) (at_ + 1) r [] [] ((b, i) :: up) (by simp; lia) (by lia) hr
                have e0 : read (k + 1) deep at_ (40 :: r) b i = (match read k (deep + 1) (at_ + 1) r [] [] with
                  | .error e => .error e
                  | .ok (p, q, t) => match t with
                    | [] => .error q
                    | _ :: t => match bounds (q + 1) t with
                      | .error e => .error e
                      | .ok (b', n) => read k deep (q + 1 + n) (t.drop n) b (i ++ [withBounds p b'])) := by
                  rw [Sg05.read, if_neg (by decide), if_neg (by decide), if_neg (by decide), if_pos rfl, if_neg (show ¬ deep = DEEP from h5)]; rfl
                rw [e0]
                cases hx : read k (deep + 1) (at_ + 1) r [] [] with
                | error e => rw [hx] at q; exact q
                | ok x =>
                  obtain ⟨p, qq, t⟩ := x
                  rw [hx] at q
                  rcases q with ⟨rfl, hq, hr'⟩ | ⟨r', rfl, hl, hq, hr'⟩
                  · exact hr'
                  · simp only
                    rw [hr']
                    have hb := bounds_run b i p up (qq + 1) r'
                    cases hy : bounds (qq + 1) r' with
                    | error e => rw [hy] at hb; exact hb
                    | ok y =>
                      obtain ⟨y, n⟩ := y
                      rw [hy] at hb
                      have hn : n ≤ r'.length := by
                        revert hy
                        unfold bounds
                        repeat' split
                        all_goals (intro hy; try (cases hy))
                        all_goals simp
                      simp only
                      rw [show run ⟨b, i ++ [p], up, .sign true⟩ (qq + 1) r' = _ from hb]
                      have q2 := ih deep (qq + 1 + n) (r'.drop n) b (i ++ [withBounds p y]) up hu hd (by rw [List.length_drop]; lia)
                      revert q2
                      cases read k deep (qq + 1 + n) (r'.drop n) b (i ++ [withBounds p y]) with
                      | error e => exact id
                      | ok z =>
                        obtain ⟨p2, q2, t2⟩ := z
                        rintro (⟨h1, h2, h3⟩ | ⟨r2, h1, h2, h3, h4⟩)
                        · refine .inl ⟨h1, ?_, h3⟩
                          rw [h2]; simp; lia
                        · rw [List.length_drop] at h2 h3
                          exact .inr ⟨r2, h1, by simp; lia, by simp; lia, h4⟩
            · have e : read (k + 1) deep at_ (c :: r) b i = .error at_ := by
                rw [Sg05.read]; simp [h1, h2, h3, h4]
              have s1 : step ⟨b, i, up, .sign false⟩ c = none := by
                show stepSign _ false c = _
                unfold stepSign
                rw [if_neg h3, if_neg h4, if_neg h2, if_neg h1]
                by_cases h5 : c = 123
                · rw [if_pos h5]; rfl
                · rw [if_neg h5]
              rw [e, run_cons_none s1]
def rs0 : RS := ⟨[], [], [], .sign false⟩
/-- the machine reads what the specification reads -/
theorem pattern_run (s : Bytes) : pattern s = run rs0 0 s := by
  have h := read_run (s.length + 1) 0 0 s [] [] [] rfl (by decide) (Nat.lt_succ_self _)
  unfold pattern
  cases hx : read (s.length + 1) 0 0 s [] [] with
  | error e => rw [hx] at h; exact h.symm
  | ok x =>
    obtain ⟨p, q, t⟩ := x
    rw [hx] at h
    rcases h with ⟨rfl, _, h⟩ | ⟨r, rfl, _, _, h⟩
    · exact h.symm
    · simp only
      rw [if_neg (by simp)]
      exact h.symm
/-! ### what holds of the machine's states -/
theorem digit_le {c : UInt8} {d : Nat} (h : digit c = some d) : d ≤ 9 ∧ (c.toNat : Int) - 48 = d := by
  unfold digit at h
  split at h
  · rename_i hc
    have h1 : (48 : UInt8).toNat ≤ c.toNat := UInt8.le_iff_toNat_le.mp hc.1
    have h2 : c.toNat ≤ (57 : UInt8).toNat := UInt8.le_iff_toNat_le.mp hc.2
    have e1 : (48 : UInt8).toNat = 48 := rfl
    have e2 : (57 : UInt8).toNat = 57 := rfl
    have := Option.some.inj h
    lia
  · cases h
theorem digit_none {c : UInt8} (h : digit c = none) : (c.toNat : Int) - 48 < 0 ∨ (c.toNat : Int) - 48 > 9 := by
  unfold digit at h
  split at h
  · cases h
  · rename_i hc
    have h1 : (48 : UInt8) ≤ c ↔ (48 : UInt8).toNat ≤ c.toNat := UInt8.le_iff_toNat_le
    have h2 : c ≤ (57 : UInt8) ↔ c.toNat ≤ (57 : UInt8).toNat := UInt8.le_iff_toNat_le
    have e1 : (48 : UInt8).toNat = 48 := rfl
    have e2 : (57 : UInt8).toNat = 57 := rfl
    rw [h1, h2] at hc
    lia
theorem letter_iff (c : UInt8) : letter c = true ↔ 97 ≤ c.toNat ∧ c.toNat ≤ 122 := by
  unfold letter
  have h1 : (97 : UInt8) ≤ c ↔ (97 : UInt8).toNat ≤ c.toNat := UInt8.le_iff_toNat_le
  have h2 : c ≤ (122 : UInt8) ↔ c.toNat ≤ (122 : UInt8).toNat := UInt8.le_iff_toNat_le
  have e1 : (97 : UInt8).toNat = 97 := rfl
  have e2 : (122 : UInt8).toNat = 122 := rfl
  rw [Bool.and_eq_true, decide_eq_true_iff, decide_eq_true_iff, h1, h2, e1, e2]
def MdOk : Md → List Pat → Prop
  | .sign rep, i => rep = true → i ≠ []
  | .least, i => i ≠ []
  | .comma m, i => i ≠ [] ∧ m ≤ 9
  | .most m, i => i ≠ [] ∧ m ≤ 9
  | .brace m n, i => i ≠ [] ∧ m ≤ n ∧ n ≤ 9
structure SOk (st : RS) : Prop where
  b : WFs st.b
  i : WFs st.i
  up : ∀ x, x ∈ st.up → WFs x.1 ∧ WFs x.2
  len : st.up.length ≤ 32
  md : MdOk st.md st.i
theorem WF_alt {b i : List Pat} (hb : WFs b) (hi : WFs i) : WF (.alt (b ++ [.seq i])) := by
  rw [WF]
  exact ⟨by simp, WFs_append hb (WFs_one (by rw [WF]; exact hi))⟩
theorem sok0 : SOk rs0 := ⟨by rw [rs0, WFs]; trivial, by rw [rs0, WFs]; trivial, by simp [rs0], by simp [rs0], by simp [rs0, MdOk]⟩
theorem WFs_dropLast : ∀ {l : List Pat}, WFs l → WFs l.dropLast
  | [], h => h
  | [p], _ => by simp [WFs]
  | p :: q :: l, h => by
    rw [WFs] at h
    rw [List.dropLast_cons_cons, WFs]
    exact ⟨h.1, WFs_dropLast h.2⟩
theorem sok_step {st st' : RS} {c : UInt8} (h : SOk st) (e : step st c = some st') : SOk st' := by
  obtain ⟨b, i, up, md⟩ := st
  obtain ⟨hb, hi, hu, hl, hm⟩ := h
  simp only at hb hi hu hl hm
  cases md with
  | sign rep =>
    have e : stepSign ⟨b, i, up, .sign rep⟩ rep c = some st' := e
    unfold stepSign at e
    simp only at e
    split at e
    · cases e
      exact ⟨hb, WFs_append hi (WFs_one (by rw [WF]; trivial)), hu, hl, fun _ => by simp⟩
    · split at e
      · split at e
        · cases e
        · cases e
          refine ⟨by rw [WFs]; trivial, by rw [WFs]; trivial, fun x hx => ?_, by simp; lia, fun z => by cases z⟩
          rcases List.mem_cons.mp hx with rfl | hx
          · exact ⟨hb, hi⟩
          · exact hu x hx
      · split at e
        · split at e
          · cases e
          · rename_i b2 i2 rest _
            cases e
            have h2 := hu (b2, i2) (by simp)
            exact ⟨h2.1, WFs_append h2.2 (WFs_one (WF_alt hb hi)), fun x hx => hu x (by simp [hx]), by simp at hl; simp only; lia, fun _ => by simp⟩
        · split at e
          · cases e
            exact ⟨WFs_append hb (WFs_one (by rw [WF]; exact hi)), by rw [WFs]; trivial, hu, hl, fun z => by cases z⟩
          · split at e
            · split at e
              · rename_i hr
                cases e
                exact ⟨hb, hi, hu, hl, hm hr⟩
              · cases e
            · cases e
  | least =>
    have e : (match digit c with
      | some m => some (⟨b, i, up, .comma m⟩ : RS)
      | none => none) = some st' := e
    split at e
    · rename_i m hd
      cases e
      exact ⟨hb, hi, hu, hl, hm, (digit_le hd).1⟩
    · cases e
  | comma m =>
    have e : (if c = 44 then some (⟨b, i, up, .most m⟩ : RS) else none) = some st' := e
    split at e
    · cases e; exact ⟨hb, hi, hu, hl, hm⟩
    · cases e
  | most m =>
    have e : (match digit c with
      | some n => if n < m then none else some (⟨b, i, up, .brace m n⟩ : RS)
      | none => none) = some st' := e
    split at e
    · rename_i n hd
      split at e
      · cases e
      · rename_i hn
        cases e
        exact ⟨hb, hi, hu, hl, hm.1, by lia, (digit_le hd).1⟩
    · cases e
  | brace m n =>
    have e : (if c = 125 then (match i.getLast? with
      | some p => some (⟨b, i.dropLast ++ [.rep p m n], up, .sign false⟩ : RS)
      | none => none) else none) = some st' := e
    split at e
    · split at e
      · rename_i p hp
        cases e
        refine ⟨hb, WFs_append (WFs_dropLast hi) (WFs_one ?_), hu, hl, fun z => by cases z⟩
        rw [WF]
        exact ⟨WFs_mem hi (List.mem_of_getLast? hp), hm.2.1⟩
      · cases e
    · cases e
end Mth
end
section
set_option autoImplicit false
namespace Mth
open Sg05
/-! ### depth -/
mutual
def dep : Pat → Nat
  | .byte _ => 1
  | .seq l => deps l
  | .alt l => deps l + 1
  | .rep p _ _ => dep p + 1
def deps : List Pat → Nat
  | [] => 1
  | p :: l => max (dep p) (deps l)
end
theorem deps_append : ∀ (l l' : List Pat), deps (l ++ l') = max (deps l) (deps l')
  | [], l' => by
    have h : ∀ l : List Pat, 1 ≤ deps l := fun l => by
      induction l with
      | nil => rw [deps]; exact Nat.le_refl _
      | cons p l ih => rw [deps]; lia
    have := h l'
    rw [List.nil_append, deps]; lia
  | p :: l, l' => by rw [List.cons_append, deps, deps, deps_append l l']; lia
theorem dep_le_deps {l : List Pat} {p : Pat} (h : p ∈ l) : dep p ≤ deps l := by
  induction l with
  | nil => simp at h
  | cons q l ih =>
    rw [deps]
    rcases List.mem_cons.mp h with rfl | h
    · lia
    · have := ih h; lia
theorem one_le_deps : ∀ l : List Pat, 1 ≤ deps l
  | [] => by rw [deps]; exact Nat.le_refl _
  | p :: l => by rw [deps]; have := one_le_deps l; lia
theorem dep_with {p : Pat} {x : Option (Nat × Nat)} {d : Nat} (h : dep p ≤ d) : dep (withBounds p x) ≤ d + 1 := by
  match x with
  | none => rw [withBounds]; lia
  | some (m, n) => rw [withBounds, dep]; lia
theorem deps_snoc {l : List Pat} {p : Pat} {d : Nat} (hl : deps l ≤ d) (hp : dep p ≤ d) : deps (l ++ [p]) ≤ d := by
  rw [deps_append, deps, deps]
  have := one_le_deps l
  lia
theorem read_dep : ∀ (k deep at_ : Nat) (s : Bytes) (b i : List Pat) (p : Pat) (q : Nat) (t : Bytes), deep ≤ 32 → deps b ≤ 2 * (33 - deep) → deps i ≤ 2 * (33 - deep) → Sg05.read k deep at_ s b i = .ok (p, q, t) → dep p ≤ 2 * (33 - deep) + 1 := by
  intro k
  induction k with
  | zero => intro deep at_ s b i p q t _ _ _ h; rw [Sg05.read] at h; cases h
  | succ k ih =>
    intro deep at_ s b i p q t hd hb hi h
    have hs : dep (.seq i) ≤ 2 * (33 - deep) := by rw [dep]; exact hi
    have ha : dep (.alt (b ++ [.seq i])) ≤ 2 * (33 - deep) + 1 := by rw [dep]; have := deps_snoc hb hs; lia
    match s with
    | [] => rw [Sg05.read] at h; cases h; exact ha
    | c :: r =>
      rw [Sg05.read] at h
      split at h
      · exact ih deep (at_ + 1) r _ _ p q t hd (deps_snoc hb hs) (by rw [deps]; lia) h
      · split at h
        · cases h; exact ha
        · split at h
          · split at h
            · cases h
            · rename_i x n hx
              exact ih deep _ _ _ _ p q t hd hb (deps_snoc hi (Nat.le_trans (dep_with (d := 1) (by rw [dep]; lia)) (by lia))) h
          · split at h
            · split at h
              · cases h
              · rename_i hdd
                split at h
                · cases h
                · rename_i p' q' t' hx
                  split at h
                  · cases h
                  · split at h
                    · cases h
                    · rename_i x n hy
                      have hdeep : deep ≠ 32 := hdd
                      have h1 := ih (deep + 1) (at_ + 1) r [] [] p' q' _ (by lia) (by rw [deps]; lia) (by rw [deps]; lia) hx
                      exact ih deep _ _ _ _ p q t hd hb (deps_snoc hi (Nat.le_trans (dep_with h1) (by lia))) h
            · cases h
theorem pattern_dep {s : Bytes} {p : Pat} (h : pattern s = .ok p) : dep p ≤ 67 := by
  unfold pattern at h
  split at h
  · cases h
  · rename_i p' q t hx
    split at h
    · cases h
      exact read_dep _ 0 0 s [] [] p q t (by decide) (by rw [deps]; lia) (by rw [deps]; lia) hx
    · cases h
/-! ### the machine's run, and what it hands over -/
theorem run_ok : ∀ {s : Bytes} {st : RS} {at_ : Nat} {p : Pat}, SOk st → run st at_ s = .ok p → WF p
  | [], st, at_, p, h, e => by
    rw [run] at e
    split at e
    · cases e; exact WF_alt h.b h.i
    · cases e
  | c :: r, st, at_, p, h, e => by
    rw [run] at e
    split at e
    · cases e
    · rename_i st' hs
      exact run_ok (sok_step h hs) e
theorem pattern_WF {s : Bytes} {p : Pat} (h : pattern s = .ok p) : WF p := by
  rw [pattern_run] at h
  exact run_ok sok0 h

/-! ### the calls by the words -/
/-- a pattern that may be held -/
structure Held (p : Pat) : Prop where
  wf : WF p
  dp : dep p ≤ 67
  len : mx (words p) ≤ 255
  cnt : (words p).length ≤ ALL
theorem Held.counted {p : Pat} (h : Held p) : Sg05.counted p = (words p).length := by rw [counted_eq, cap_of h.cnt]
theorem Held.nth {p : Pat} (h : Held p) {k : Nat} (hk : k < (words p).length) : (words p)[k]? = some (Sg05.nth p k) := nth_eq p k h.cnt hk
theorem held0 : Held none_ := by
  refine ⟨?_, ?_, ?_, ?_⟩
  · unfold none_; simp [WF, WFs]
  · unfold none_; simp [dep, deps]
  · unfold none_; simp [words, inTurn, inRow, mx]
  · unfold none_; simp [words, inTurn, inRow, ALL]
theorem words_none : words none_ = [[]] := by unfold none_; simp [words, inTurn, inRow]
theorem held_load {s : Bytes} {p : Pat} (h : pattern s = .ok p) (h1 : ¬ MOST < longest p) (h2 : ¬ ALL < Sg05.counted p) : Held p := by
  have w := pattern_WF h
  refine ⟨w, pattern_dep h, ?_, ?_⟩
  · rw [longest_eq w] at h1; unfold MOST at h1; omega
  · rw [counted_eq] at h2; exact cap_le_iff.mp (by omega)
theorem does_load (p : Pat) (s : Bytes) : does p (.load s) = if TEXT < s.length then (p, only (-5000)) else match pattern s with
    | .error e => (p, only (-1 - (e : Int)))
    | .ok q => if MOST < longest q then (p, only (-4000)) else if ALL < Sg05.counted q then (p, only (-4000)) else (q, only 0) := by rw [does]; rfl
theorem does_held {p : Pat} (h : Held p) (c : Call) : Held (does p c).1 := by
  cases c with
  | load s =>
    rw [does_load]
    split
    · exact h
    · split
      · exact h
      · rename_i q hq
        split
        · exact h
        · split
          · exact h
          · rename_i h2 h3; exact held_load hq h2 h3
  | count => rw [does]; exact h
  | word k m => rw [does]; exact h
  | each a m => rw [does]; exact h
end Mth
end
section
set_option autoImplicit false
namespace Mth
open Sg05
/-! ### slices -/
def sl {α : Type} (W : List α) (a n : Nat) : List α := (W.drop a).take n
theorem sl_get {α : Type} (W : List α) (a n t : Nat) (h : t < n) : (sl W a n)[t]? = W[a + t]? := by
  unfold sl
  rw [List.getElem?_take, if_pos h, List.getElem?_drop]
theorem sl_length {α : Type} (W : List α) (a n : Nat) (h : a + n ≤ W.length) : (sl W a n).length = n := by
  unfold sl
  rw [List.length_take, List.length_drop]; lia
theorem sl_zero {α : Type} (W : List α) (a : Nat) : sl W a 0 = [] := by unfold sl; simp
theorem sl_all {α : Type} (W : List α) : sl W 0 W.length = W := by unfold sl; simp
theorem sl_append_ge {α : Type} (A B : List α) (a n : Nat) (h : A.length ≤ a) : sl (A ++ B) a n = sl B (a - A.length) n := by
  unfold sl
  rw [List.drop_append, List.drop_eq_nil_of_le h, List.nil_append]
theorem sl_append_lt {α : Type} (A B : List α) (a n : Nat) (h : a ≤ A.length) : sl (A ++ B) a n = sl A a (min (A.length - a) n) ++ sl B 0 (n - min (A.length - a) n) := by
  unfold sl
  rw [List.drop_append, List.take_append, List.length_drop, show a - A.length = 0 by lia]
  congr 1
  · by_cases hh : n ≤ A.length - a
    · rw [Nat.min_eq_right hh]
    · rw [Nat.min_eq_left (by lia), List.take_of_length_le (by rw [List.length_drop]; lia), List.take_of_length_le (by rw [List.length_drop]; lia)]
  · congr 1
    lia
theorem sl_ext {α : Type} {A B : List α} {a n : Nat} (h : a + n ≤ B.length) (hl : A.length = n) (h2 : ∀ t, t < n → A[t]? = B[a + t]?) : A = sl B a n := by
  apply List.ext_getElem?
  intro t
  by_cases ht : t < n
  · rw [h2 t ht, sl_get _ _ _ _ ht]
  · rw [List.getElem?_eq_none (by lia), List.getElem?_eq_none (by rw [sl_length _ _ _ h]; lia)]
theorem sl_mem {α : Type} {W : List α} {a n : Nat} {x : α} (h : x ∈ sl W a n) : x ∈ W := List.mem_of_mem_drop (List.mem_of_mem_take h)
/-! ### a branch's words: the places -/
theorem places {first last behind size : Nat} (hb : 0 < behind) (h : first ≤ last) :
    first / behind / size = first / (size * behind) ∧ last / behind / size = last / (size * behind) ∧ first / behind ≤ last / behind ∧ last / behind - first / behind ≤ last - first := by
  refine ⟨?_, ?_, Nat.div_le_div_right h, ?_⟩
  · rw [Nat.div_div_eq_div_mul, Nat.mul_comm]
  · rw [Nat.div_div_eq_div_mul, Nat.mul_comm]
  · obtain ⟨d, rfl⟩ : ∃ d, last = first + d := ⟨last - first, by lia⟩
    have h1 : (first + d) / behind ≤ first / behind + d := by
      have h2 : first + d ≤ first + d * behind := Nat.add_le_add_left (Nat.le_mul_of_pos_right _ hb) _
      have h3 : (first + d) / behind ≤ (first + d * behind) / behind := Nat.div_le_div_right h2
      rw [Nat.add_mul_div_right _ _ hb] at h3
      exact h3
    lia
/-! ### answers -/
def wordAns (w : Bytes) : List Int := (w.length : Int) :: w.map (fun c => (c.toNat : Int))
theorem letters_cast (w : Bytes) : (letters w).map (fun (x : Nat) => (x : Int)) = w.map (fun c => (c.toNat : Int)) := by
  unfold letters; rw [List.map_map]; rfl
theorem step_count {p : Pat} (h : Held p) : Sg05Neutral.step p [[1]] = (p, [((words p).length : Int)]) := by
  have e : Sg05Neutral.step p [[1]] = (p, [((Sg05.counted p : Nat) : Int)]) := rfl
  rw [e, h.counted]
theorem step_word {p : Pat} (h : Held p) (k m : Int) : Sg05Neutral.step p [[2, k, m]] = (p, if m < 0 ∨ 255 < m then [-2] else if (words p).length ≤ k.toNat then [-1] else
    if m < ((Sg05.nth p k.toNat).length : Int) then [-3] else wordAns (Sg05.nth p k.toNat)) := by
  have e : Sg05Neutral.step p [[2, k, m]] = (p, let y := (if m < 0 ∨ (MOST : Int) < m then only (-2) else if Sg05.counted p ≤ k.toNat then only (-1) else
    let w := Sg05.nth p k.toNat
    if m < (w.length : Int) then only (-3) else ⟨w.length, letters w⟩)
    y.v :: y.l.map fun (x : Nat) => (x : Int)) := rfl
  rw [e, h.counted]
  by_cases h1 : m < 0 ∨ 255 < m
  · have h1' : m < 0 ∨ (MOST : Int) < m := h1
    simp only [if_pos h1, if_pos h1']
    rfl
  · have h1' : ¬ (m < 0 ∨ (MOST : Int) < m) := h1
    simp only [if_neg h1, if_neg h1']
    by_cases h2 : (words p).length ≤ k.toNat
    · simp only [if_pos h2]
      rfl
    · simp only [if_neg h2]
      by_cases h3 : m < ((Sg05.nth p k.toNat).length : Int)
      · simp only [if_pos h3]
        rfl
      · simp only [if_neg h3, letters_cast]
        rfl
theorem step_each {p : Pat} (h : Held p) (a n : Int) : Sg05Neutral.step p [[3, a, n]] = (p, (if n.toNat < (words p).length - a.toNat then 7 else 0) :: (sl (words p) a.toNat (min ((words p).length - a.toNat) (n.toNat + 1))).flatMap wordAns) := by
  have e : Sg05Neutral.step p [[3, a, n]] = (p, (if n.toNat < Sg05.counted p - a.toNat then 7 else 0) :: (((List.range (min (Sg05.counted p - a.toNat) (n.toNat + 1))).flatMap fun i => let w := Sg05.nth p (a.toNat + i)
      w.length :: letters w).map fun (x : Nat) => (x : Int))) := rfl
  rw [e, h.counted]
  congr 2
  rw [List.map_flatMap]
  have e2 : sl (words p) a.toNat (min ((words p).length - a.toNat) (n.toNat + 1)) = (List.range (min ((words p).length - a.toNat) (n.toNat + 1))).map fun i => Sg05.nth p (a.toNat + i) := by
    by_cases hz : min ((words p).length - a.toNat) (n.toNat + 1) = 0
    · rw [hz, sl_zero]; rfl
    · symm
      apply sl_ext (by lia) (by simp)
      intro t ht
      rw [List.getElem?_map, List.getElem?_range ht, h.nth (by lia)]; rfl
  rw [e2, List.flatMap_map]
  congr 1
  funext i
  show _ :: (letters _).map _ = _
  rw [letters_cast]; rfl
/-! ### a list of calls -/
theorem whole_eq (c : List (List Int)) : PySg05.whole c = c := by
  unfold PySg05.whole
  split <;> rfl
theorem calls_eq (l : List Int) : PySg05.calls l = PyFlat.calls PySg05.shape l.length l := by
  unfold PySg05.calls
  cases PyFlat.calls PySg05.shape l.length l with
  | none => rfl
  | some cs =>
    show some (cs.map PySg05.whole) = _
    rw [show PySg05.whole = id from funext whole_eq, List.map_id]
inductive OneCall : List Int → List (List Int) → List Int → Prop
  | count (t : List Int) : OneCall (1 :: t) [[1]] t
  | word (k m : Int) (t : List Int) : OneCall (2 :: k :: m :: t) [[2, k, m]] t
  | each (a n : Int) (t : List Int) : OneCall (3 :: a :: n :: t) [[3, a, n]] t
  | load (b t : List Int) : OneCall (4 :: (b.length : Int) :: (b ++ t)) [[4], b] t
theorem call_one {p : Int} {r : List Int} {c : List (List Int)} {t : List Int} (h : PyFlat.call PySg05.shape (p :: r) = some (c, t)) : OneCall (p :: r) c t := by
  unfold PyFlat.call at h
  simp only at h
  split at h
  · cases h
  · rename_i n k hs
    unfold PySg05.shape at hs
    split at hs
    · rename_i hp; subst hp; cases hs
      split at h
      · cases h
      · have e : PyFlat.rows 0 (r.drop 0) = some ([], r) := rfl
        rw [e] at h; cases h
        exact .count r
    · split at hs
      · rename_i hp; subst hp; cases hs
        split at h
        · cases h
        · rename_i hl
          match r, hl with
          | k :: m :: r', _ => cases h; exact .word k m r'
          | [_], hl => simp at hl
          | [], hl => simp at hl
      · split at hs
        · rename_i hp; subst hp; cases hs
          split at h
          · cases h
          · rename_i hl
            match r, hl with
            | k :: m :: r', _ => cases h; exact .each k m r'
            | [_], hl => simp at hl
            | [], hl => simp at hl
        · split at hs
          · rename_i hp; subst hp; cases hs
            rw [if_neg (by lia), List.drop_zero] at h
            match r with
            | [] => cases h
            | n :: r' =>
              have e : PyFlat.rows 1 (n :: r') = (match PyFlat.row (n :: r') with
                | none => none
                | some (x, s) => some ([x], s)) := by
                rw [PyFlat.rows]; cases PyFlat.row (n :: r') <;> rfl
              rw [e, PyFlat.row] at h
              split at h
              · cases h
              · rename_i xs t' hx
                split at hx
                · cases hx
                · rename_i x s hx2
                  split at hx2
                  · rename_i hn
                    cases hx2; cases hx; cases h
                    have hlen : (r'.take n.toNat).length = n.toNat := by rw [List.length_take]; lia
                    have q := OneCall.load (r'.take n.toNat) (r'.drop n.toNat)
                    rw [hlen, List.take_append_drop, show ((n.toNat : Nat) : Int) = n by lia] at q
                    exact q
                  · cases hx2
          · cases hs
theorem calls_cons {f : Nat} {p : Int} {r : List Int} {cs : List (List (List Int))} (h : PyFlat.calls PySg05.shape f (p :: r) = some cs) :
    ∃ c t cs' f', cs = c :: cs' ∧ OneCall (p :: r) c t ∧ PyFlat.calls PySg05.shape f' t = some cs' := by
  match f with
  | 0 => rw [PyFlat.calls] at h; cases h
  | f + 1 =>
    rw [PyFlat.calls] at h
    split at h
    · cases h
    · rename_i c t hc
      split at h
      · cases h
      · rename_i cs' hcs
        cases h
        exact ⟨c, t, cs', f, rfl, call_one hc, hcs⟩
theorem calls_nil {f : Nat} : PyFlat.calls PySg05.shape f [] = some [] := by
  cases f <;> rw [PyFlat.calls]
theorem told_length (p : Pat) : ∀ cs : List (List (List Int)), (PyFlat.told (PyFlat.played Sg05Neutral.step p cs)).length = Sg05Neutral.told p cs + cs.length := by
  intro cs
  induction cs generalizing p with
  | nil => rfl
  | cons c cs ih =>
    have e : PyFlat.told (PyFlat.played Sg05Neutral.step p (c :: cs)) = ((Sg05Neutral.step p c).2.length : Int) :: ((Sg05Neutral.step p c).2 ++ PyFlat.told (PyFlat.played Sg05Neutral.step (Sg05Neutral.step p c).1 cs)) := by
      unfold PyFlat.told; rw [PyFlat.played, List.flatMap_cons]; rfl
    rw [e, List.length_cons, List.length_append, ih, List.length_cons]
    show _ = (Sg05Neutral.step p c).2.length + Sg05Neutral.told (Sg05Neutral.step p c).1 cs + _
    lia
/-- what holds between two turns of the desk's loop -/
structure LoopAt (l : List Int) (place : Nat) (p : Pat) (res : List Int) : Prop where
  le : place ≤ l.length
  held : Held p
  rest : ∃ f cs, PyFlat.calls PySg05.shape f (l.drop place) = some cs ∧ (∀ c, c ∈ cs → Sg05Neutral.asked1 c = true) ∧ res ++ PyFlat.told (PyFlat.played Sg05Neutral.step p cs) = PySg05.answers l
  len : (PySg05.answers l).length < 1000200
theorem told_cons (p : Pat) (c : List (List Int)) (cs : List (List (List Int))) : PyFlat.told (PyFlat.played Sg05Neutral.step p (c :: cs)) = (((Sg05Neutral.step p c).2.length : Int) :: (Sg05Neutral.step p c).2) ++ PyFlat.told (PyFlat.played Sg05Neutral.step (Sg05Neutral.step p c).1 cs) := by
  unfold PyFlat.told; rw [PyFlat.played, List.flatMap_cons]
theorem loop_start {l : List Int} (h : PySg05.answers_asked l = true) : LoopAt l 0 none_ [] := by
  unfold PySg05.answers_asked at h
  split at h
  · cases h
  · rename_i cs hc
    have h1 : cs.length ≤ 100 := by
      have := (Bool.and_eq_true _ _ ▸ h).1
      exact of_decide_eq_true this
    have h2 : Sg05Neutral.asked cs = true := (Bool.and_eq_true _ _ ▸ h).2
    unfold Sg05Neutral.asked at h2
    simp only [Bool.and_eq_true] at h2
    have ha := h2.1
    have hd := of_decide_eq_true h2.2.2.2.2
    have e : PySg05.answers l = PyFlat.told (PyFlat.played Sg05Neutral.step none_ cs) := by
      unfold PySg05.answers; rw [hc]; rfl
    refine ⟨Nat.zero_le _, held0, ⟨l.length, cs, ?_, fun c hc => List.all_eq_true.mp ha c hc, e.symm⟩, ?_⟩
    · rw [List.drop_zero, ← calls_eq]; exact hc
    · rw [e, told_length]
      have hd' : Sg05Neutral.told none_ cs < 1000000 := hd
      lia
theorem loop_end {l res : List Int} {place : Nat} {p : Pat} (h : LoopAt l place p res) (hp : l.length ≤ place) : res = PySg05.answers l := by
  obtain ⟨f, cs, hc, _, e⟩ := h.rest
  rw [List.drop_eq_nil_of_le hp, calls_nil] at hc
  cases hc
  have e2 : PyFlat.told (PyFlat.played Sg05Neutral.step p []) = [] := rfl
  rw [e2, List.append_nil] at e
  exact e
theorem loop_turn {l res : List Int} {place : Nat} {p : Pat} (h : LoopAt l place p res) (hp : place < l.length) :
    ∃ c t, OneCall (l.drop place) c t ∧ Sg05Neutral.asked1 c = true ∧ res.length + 1 + (Sg05Neutral.step p c).2.length < 1000200 ∧
      ∀ place', place' ≤ l.length → l.drop place' = t → LoopAt l place' (Sg05Neutral.step p c).1 (res ++ (((Sg05Neutral.step p c).2.length : Int) :: (Sg05Neutral.step p c).2)) := by
  obtain ⟨f, cs, hc, ha, e⟩ := h.rest
  have hd : l.drop place = l[place] :: l.drop (place + 1) := List.drop_eq_getElem_cons hp
  rw [hd] at hc
  obtain ⟨c, t, cs', f', rfl, h1, h2⟩ := calls_cons hc
  rw [← hd] at h1
  refine ⟨c, t, h1, ha c (by simp), ?_, fun place' hp' ht => ⟨hp', ?_, ⟨f', cs', by rw [ht]; exact h2, fun c' hc' => ha c' (by simp [hc']), ?_⟩, h.len⟩⟩
  · have := h.len
    rw [← e, told_cons, List.length_append, List.length_append, List.length_cons] at this
    lia
  · unfold Sg05Neutral.step
    split
    · exact does_held h.held _
    · exact h.held
  · rw [← e, told_cons, List.append_assoc]
end Mth
end
section
set_option autoImplicit false
namespace Mth
open Sg05
theorem pos_of_ne {α : Type} {l : List α} (h : l ≠ []) : 0 < l.length := List.length_pos_iff.mpr h
/-! ### two lists, place by place -/
def All2 {α β : Type} (R : α → β → Prop) (l : List α) (m : List β) : Prop := l.length = m.length ∧ ∀ (i : Nat) a b, l[i]? = some a → m[i]? = some b → R a b
inductive Got {β : Type} (m : List β) (i : Nat) (P : β → Prop) : Prop
  | mk (b : β) : m[i]? = some b → P b → Got m i P
section
variable {α β : Type} {R S : α → β → Prop} {l l' : List α} {m m' : List β}
theorem All2.nil : All2 R [] [] := ⟨rfl, fun i a b h => by simp at h⟩
theorem All2.get (h : All2 R l m) {i : Nat} {a : α} (e : l[i]? = some a) : Got m i (R a) := by
  obtain ⟨hl, hr⟩ := h
  have hi : i < m.length := by have := (List.getElem?_eq_some_iff.mp e).1; lia
  exact ⟨m[i], List.getElem?_eq_getElem hi, hr i a _ e (List.getElem?_eq_getElem hi)⟩
theorem All2.get' (h : All2 R l m) {i : Nat} {b : β} (e : m[i]? = some b) : Got l i (fun a => R a b) := by
  obtain ⟨hl, hr⟩ := h
  have hi : i < l.length := by have := (List.getElem?_eq_some_iff.mp e).1; lia
  exact ⟨l[i], List.getElem?_eq_getElem hi, hr i _ b (List.getElem?_eq_getElem hi) e⟩
theorem All2.imp (h : All2 R l m) (f : ∀ a b, R a b → S a b) : All2 S l m := ⟨h.1, fun i a b h1 h2 => f a b (h.2 i a b h1 h2)⟩
theorem All2.impM (h : All2 R l m) (f : ∀ a b, b ∈ m → R a b → S a b) : All2 S l m := ⟨h.1, fun i a b h1 h2 => f a b (List.mem_of_getElem? h2) (h.2 i a b h1 h2)⟩
theorem All2.append (h : All2 R l m) (h' : All2 R l' m') : All2 R (l ++ l') (m ++ m') := by
  refine ⟨by rw [List.length_append, List.length_append, h.1, h'.1], fun i a b h1 h2 => ?_⟩
  by_cases hi : i < l.length
  · rw [List.getElem?_append_left hi] at h1
    rw [List.getElem?_append_left (by rw [← h.1]; exact hi)] at h2
    exact h.2 i a b h1 h2
  · rw [List.getElem?_append_right (by lia)] at h1
    rw [List.getElem?_append_right (by rw [← h.1]; lia), ← h.1] at h2
    exact h'.2 _ a b h1 h2
theorem All2.one {a : α} {b : β} (h : R a b) : All2 R [a] [b] := by
  refine ⟨rfl, fun i x y h1 h2 => ?_⟩
  match i with
  | 0 => cases h1; cases h2; exact h
  | i + 1 => simp at h1
theorem All2.snoc (h : All2 R l m) {a : α} {b : β} (h' : R a b) : All2 R (l ++ [a]) (m ++ [b]) := h.append (.one h')
theorem All2.rep {a : α} {b : β} (h : R a b) (k : Nat) : All2 R (List.replicate k a) (List.replicate k b) := by
  refine ⟨by simp, fun i x y h1 h2 => ?_⟩
  have e1 := List.eq_of_mem_replicate (List.mem_of_getElem? h1)
  have e2 := List.eq_of_mem_replicate (List.mem_of_getElem? h2)
  rw [e1, e2]; exact h
theorem All2.cons_inv {b : β} (h : All2 R l (b :: m)) : ∃ a r, l = a :: r ∧ R a b ∧ All2 R r m := by
  match l, h with
  | [], h => simp [All2] at h
  | a :: r, h => exact ⟨a, r, rfl, h.2 0 a b rfl rfl, by have := h.1; simp at this; exact this, fun i x y h1 h2 => h.2 (i + 1) x y h1 h2⟩
theorem All2.cons {a : α} {b : β} (h' : R a b) (h : All2 R l m) : All2 R (a :: l) (b :: m) := (All2.one h').append h
theorem All2.dropLast (h : All2 R l m) : All2 R l.dropLast m.dropLast := by
  refine ⟨by rw [List.length_dropLast, List.length_dropLast, h.1], fun i a b h1 h2 => ?_⟩
  rw [List.getElem?_dropLast] at h1 h2
  split at h1
  · split at h2
    · exact h.2 i a b h1 h2
    · cases h2
  · cases h1
theorem All2.set (h : All2 R l m) (i : Nat) {a : α} {b : β} (h' : R a b) : All2 R (l.set i a) (m.set i b) := by
  refine ⟨by rw [List.length_set, List.length_set, h.1], fun j x y h1 h2 => ?_⟩
  by_cases e : i = j
  · subst e
    have l1 := (List.getElem?_eq_some_iff.mp h1).1
    have l2 := (List.getElem?_eq_some_iff.mp h2).1
    rw [List.length_set] at l1 l2
    rw [List.getElem?_set_self l1] at h1
    rw [List.getElem?_set_self l2] at h2
    cases h1; cases h2; exact h'
  · rw [List.getElem?_set_ne e] at h1 h2
    exact h.2 j x y h1 h2
theorem All2.map_left {γ : Type} {f : γ → α} {k : List γ} (h : All2 (fun c b => R (f c) b) k m) : All2 R (k.map f) m := by
  refine ⟨by rw [List.length_map]; exact h.1, fun i a b h1 h2 => ?_⟩
  rw [List.getElem?_map] at h1
  cases e : k[i]? with
  | none => rw [e] at h1; cases h1
  | some c => rw [e] at h1; cases h1; exact h.2 i c b e h2
theorem All2.map_right {γ : Type} {f : γ → β} {k : List γ} (h : All2 (fun a c => R a (f c)) l k) : All2 R l (k.map f) := by
  refine ⟨by rw [List.length_map]; exact h.1, fun i a b h1 h2 => ?_⟩
  rw [List.getElem?_map] at h2
  cases e : k[i]? with
  | none => rw [e] at h2; cases h2
  | some c => rw [e] at h2; cases h2; exact h.2 i a c h1 e
theorem All2.of_map_right {γ : Type} {f : γ → β} {k : List γ} (h : All2 R l (k.map f)) : All2 (fun a c => R a (f c)) l k := by
  refine ⟨by have := h.1; rw [List.length_map] at this; exact this, fun i a c h1 h2 => h.2 i a (f c) h1 ?_⟩
  rw [List.getElem?_map, h2]; rfl
end
theorem last_split {α : Type} {l : List α} (h : 0 < l.length) : ∃ m x, l = m ++ [x] := by
  have hn : l ≠ [] := fun e => by rw [e] at h; simp at h
  exact ⟨l.dropLast, l.getLast hn, (List.dropLast_concat_getLast hn).symm⟩
theorem All2.snoc_inv {α β : Type} {R : α → β → Prop} {l : List α} {m : List β} {a : α} (h : All2 R (l ++ [a]) m) : ∃ m' b, m = m' ++ [b] ∧ All2 R l m' ∧ R a b := by
  have hl := h.1
  rw [List.length_append, List.length_singleton] at hl
  obtain ⟨m', b, rfl⟩ := last_split (l := m) (by lia)
  rw [List.length_append, List.length_singleton] at hl
  have hl' : l.length = m'.length := by lia
  refine ⟨m', b, rfl, ⟨hl', fun i x y h1 h2 => h.2 i x y ?_ ?_⟩, h.2 l.length a b ?_ ?_⟩
  · rw [List.getElem?_append_left (List.getElem?_eq_some_iff.mp h1).1]; exact h1
  · rw [List.getElem?_append_left (List.getElem?_eq_some_iff.mp h2).1]; exact h2
  · rw [List.getElem?_append_right (Nat.le_refl _)]; simp
  · rw [hl', List.getElem?_append_right (Nat.le_refl _)]; simp
theorem All2.snoc_inv' {α β : Type} {R : α → β → Prop} {l : List α} {m : List β} {b : β} (h : All2 R l (m ++ [b])) : ∃ l' a, l = l' ++ [a] ∧ All2 R l' m ∧ R a b := by
  have hl := h.1
  rw [List.length_append, List.length_singleton] at hl
  obtain ⟨l', a, rfl⟩ := last_split (l := l) (by lia)
  obtain ⟨m', b', e, h1, h2⟩ := h.snoc_inv
  have e2 := List.append_inj' e rfl
  obtain ⟨rfl, e3⟩ := e2
  cases e3
  exact ⟨l', a, rfl, h1, h2⟩
theorem take_snoc {α : Type} {l : List α} {i : Nat} {a : α} (h : l[i]? = some a) : l.take (i + 1) = l.take i ++ [a] := by
  rw [List.take_add_one, h]; rfl
theorem drop_cons {α : Type} {l : List α} {i : Nat} {a : α} (h : l[i]? = some a) : l.drop i = a :: l.drop (i + 1) := by
  obtain ⟨hi, rfl⟩ := List.getElem?_eq_some_iff.mp h
  exact List.drop_eq_getElem_cons hi
theorem flat_take {Ws : List WL} {i : Nat} {A : WL} (h : Ws[i]? = some A) : (Ws.take (i + 1)).flatten = (Ws.take i).flatten ++ A := by
  rw [take_snoc h, List.flatten_append]; simp
theorem flat_split (Ws : List WL) (i : Nat) : Ws.flatten = (Ws.take i).flatten ++ (Ws.drop i).flatten := by
  rw [← List.flatten_append, List.take_append_drop]
theorem prod_take {Ws : List WL} {i : Nat} {A : WL} (h : Ws[i]? = some A) : prodW (Ws.take (i + 1)) = both (prodW (Ws.take i)) A := by
  rw [take_snoc h, prodW_append, prodW_one]
theorem prod_split (Ws : List WL) (i : Nat) : prodW Ws = both (prodW (Ws.take i)) (prodW (Ws.drop i)) := by
  rw [← prodW_append, List.take_append_drop]
theorem flat_le {Ws : List WL} {A : WL} (h : A ∈ Ws) : A.length ≤ Ws.flatten.length := by
  rw [flatten_length]
  exact mem_sum_le (List.mem_map.mpr ⟨A, h, rfl⟩)
/-! ### words_from -/
theorem sl_len {α : Type} (W : List α) (a n : Nat) : (sl W a n).length = min n (W.length - a) := by
  unfold sl; rw [List.length_take, List.length_drop]
theorem sl_skip {α : Type} {pre A : List α} {f m : Nat} (h : A.length ≤ f - pre.length) (h0 : 0 < A.length) : sl (pre ++ A) f m = sl pre f m ∧ f - (pre ++ A).length = f - pre.length - A.length := by
  constructor
  · have e1 : sl pre f m = [] := by unfold sl; rw [List.drop_eq_nil_of_le (by lia)]; simp
    have e2 : sl (pre ++ A) f m = [] := by unfold sl; rw [List.drop_eq_nil_of_le (by rw [List.length_append]; lia)]; simp
    rw [e1, e2]
  · rw [List.length_append]; lia
theorem sl_more {α : Type} {pre A : List α} {f m : Nat} (h : f - pre.length < A.length) (h0 : (sl pre f m).length ≠ m) :
    sl (pre ++ A) f m = sl pre f m ++ sl A (f - pre.length) (min (A.length - (f - pre.length)) (m - (sl pre f m).length)) ∧ f - (pre ++ A).length = 0 := by
  constructor
  · have hl := sl_len pre f m
    unfold sl
    rw [List.drop_append, List.take_append, List.length_drop]
    have e1 : m - (pre.length - f) = m - ((pre.drop f).take m).length := by
      have : ((pre.drop f).take m).length = min m (pre.length - f) := hl
      lia
    rw [← e1]
    congr 1
    by_cases hh : A.length - (f - pre.length) ≤ m - (pre.length - f)
    · rw [Nat.min_eq_left hh, List.take_of_length_le (by rw [List.length_drop]; lia), List.take_of_length_le (by rw [List.length_drop]; lia)]
    · rw [Nat.min_eq_right (by lia)]
  · rw [List.length_append]; lia
theorem sl_done {α : Type} {pre post : List α} {f m : Nat} (h : (sl pre f m).length = m) : sl (pre ++ post) f m = sl pre f m := by
  rw [sl_len] at h
  unfold sl
  rw [List.drop_append, List.take_append, List.length_drop]
  have e : m - (pre.length - f) = 0 := by lia
  rw [e]; simp
theorem sl_snoc {α : Type} {W : List α} {a t : Nat} {x : α} (h : W[a + t]? = some x) : sl W a (t + 1) = sl W a t ++ [x] := by
  unfold sl
  rw [List.take_add_one, List.getElem?_drop, h]; rfl
/-! ### branch_words -/
theorem prod_pos {Ws : List WL} (h : ∀ A ∈ Ws, A ≠ []) : 0 < (prodW Ws).length := pos_of_ne (prodW_ne h)
def beh (Ws : List WL) (i : Nat) : Nat := (prodW (Ws.drop i)).length
theorem beh_turn {Ws : List WL} {i : Nat} {A : WL} (h : Ws[i]? = some A) : beh Ws i = A.length * beh Ws (i + 1) := by
  unfold beh; rw [drop_cons h, prodW, both_length]
theorem beh_pos {Ws : List WL} (h : ∀ A ∈ Ws, A ≠ []) (i : Nat) : 0 < beh Ws i := prod_pos fun A hA => h A (List.mem_of_mem_drop hA)
theorem beh_all (Ws : List WL) (i : Nat) : (prodW Ws).length = (prodW (Ws.take i)).length * beh Ws i := by
  rw [prod_split Ws i, both_length]; rfl
structure BrTurn (Ws : List WL) (A : WL) (i f m : Nat) : Prop where
  beh : beh Ws i / A.length = beh Ws (i + 1)
  pos : 0 < Mth.beh Ws (i + 1)
  lo : f / Mth.beh Ws (i + 1) / A.length = f / Mth.beh Ws i
  hi : (f + m - 1) / Mth.beh Ws (i + 1) / A.length = (f + m - 1) / Mth.beh Ws i
  le : f / Mth.beh Ws (i + 1) ≤ (f + m - 1) / Mth.beh Ws (i + 1)
  few : (f + m - 1) / Mth.beh Ws (i + 1) - f / Mth.beh Ws (i + 1) < m
  at_ : ∀ k, f / Mth.beh Ws (i + 1) ≤ k → k ≤ (f + m - 1) / Mth.beh Ws (i + 1) → ∃ x y, f / Mth.beh Ws i ≤ k / A.length ∧
    (sl (prodW (Ws.take i)) (f / Mth.beh Ws i) ((f + m - 1) / Mth.beh Ws i - f / Mth.beh Ws i + 1))[k / A.length - f / Mth.beh Ws i]? = some x ∧ A[k % A.length]? = some y ∧ (prodW (Ws.take (i + 1)))[k]? = some (x ++ y)
theorem brTurn {Ws : List WL} {A : WL} {i f m : Nat} (h : Ws[i]? = some A) (hn : ∀ A ∈ Ws, A ≠ []) (hf : f + m ≤ (prodW Ws).length) (hm : 0 < m) : BrTurn Ws A i f m := by
  have hA : 0 < A.length := pos_of_ne (hn A (List.mem_of_getElem? h))
  have hb := beh_turn h
  have hp := beh_pos hn (i + 1)
  obtain ⟨p1, p2, p3, p4⟩ := places (first := f) (last := f + m - 1) (behind := beh Ws (i + 1)) (size := A.length) hp (by lia)
  rw [← hb] at p1 p2
  refine ⟨by rw [hb, Nat.mul_div_cancel_left _ hA], hp, p1, p2, p3, by lia, fun k h1 h2 => ?_⟩
  have hk1 : f / beh Ws i ≤ k / A.length := by rw [← p1]; exact Nat.div_le_div_right h1
  have hk2 : k / A.length ≤ (f + m - 1) / beh Ws i := by rw [← p2]; exact Nat.div_le_div_right h2
  have hlt : k < (prodW (Ws.take i)).length * A.length := by
    have hw := beh_all Ws (i + 1)
    rw [prod_take h, both_length] at hw
    have : (f + m - 1) / beh Ws (i + 1) < (prodW (Ws.take i)).length * A.length := by
      rw [Nat.div_lt_iff_lt_mul hp]; lia
    lia
  obtain ⟨x, y, hx, hy, hxy⟩ := both_get (prodW (Ws.take i)) A hA k hlt
  refine ⟨x, y, hk1, ?_, hy, by rw [prod_take h]; exact hxy⟩
  rw [sl_get _ _ _ _ (by lia), show f / beh Ws i + (k / A.length - f / beh Ws i) = k / A.length by lia]
  exact hx
theorem br_start {Ws : List WL} {f m : Nat} (hf : f + m ≤ (prodW Ws).length) (hm : 0 < m) : f / beh Ws 0 = 0 ∧ (f + m - 1) / beh Ws 0 = 0 := by
  have e : beh Ws 0 = (prodW Ws).length := by unfold beh; rw [List.drop_zero]
  rw [e]
  exact ⟨Nat.div_eq_of_lt (by lia), Nat.div_eq_of_lt (by lia)⟩
theorem br_end {Ws : List WL} {i : Nat} (hi : Ws.length ≤ i) : beh Ws i = 1 ∧ prodW (Ws.take i) = prodW Ws := by
  unfold beh
  rw [List.drop_eq_nil_of_le hi, List.take_of_length_le hi]
  exact ⟨rfl, rfl⟩
/-! ### words_around -/
def wrapW (W : WL) (a n : Nat) : WL := (List.range n).map fun t => W.getD ((a + t) % W.length) []
theorem wrap_len (W : WL) (a n : Nat) : (wrapW W a n).length = n := by unfold wrapW; simp
theorem wrap_get {W : WL} {a n t : Nat} (h : t < n) (hW : W ≠ []) : ∃ y, W[(a + t) % W.length]? = some y ∧ (wrapW W a n)[t]? = some y := by
  have hp : (a + t) % W.length < W.length := Nat.mod_lt _ (pos_of_ne hW)
  refine ⟨W[(a + t) % W.length], List.getElem?_eq_getElem hp, ?_⟩
  unfold wrapW
  rw [List.getElem?_map, List.getElem?_range h]
  simp [List.getD, List.getElem?_eq_getElem hp]
theorem wrap_sl {W : WL} {a n : Nat} (hW : W ≠ []) (h : a % W.length + n ≤ W.length) : wrapW W a n = sl W (a % W.length) n := by
  apply sl_ext h (wrap_len W a n)
  intro t ht
  obtain ⟨y, h1, h2⟩ := wrap_get (a := a) ht hW
  rw [h2, ← h1]
  congr 1
  rw [Nat.add_mod, Nat.mod_eq_of_lt (a := t) (by lia), Nat.mod_eq_of_lt (by lia)]
theorem wrap_two {W : WL} {a n : Nat} (hW : W ≠ []) (h : W.length - a % W.length < n) : wrapW W a n = sl W (a % W.length) (W.length - a % W.length) ++ (List.range (n - (W.length - a % W.length))).map fun t => (sl W 0 (min (n - (W.length - a % W.length)) W.length)).getD (t % (min (n - (W.length - a % W.length)) W.length)) [] := by
  have hp := pos_of_ne hW
  have hs : a % W.length < W.length := Nat.mod_lt _ hp
  apply List.ext_getElem?
  intro t
  by_cases ht : t < n
  · obtain ⟨y, h1, h2⟩ := wrap_get (a := a) ht hW
    rw [h2, ← h1]
    by_cases hl : t < W.length - a % W.length
    · rw [List.getElem?_append_left (by rw [sl_len]; lia), sl_get _ _ _ _ hl, Nat.add_mod, Nat.mod_eq_of_lt (a := t) (by lia), Nat.mod_eq_of_lt (by lia)]
    · have e1 : (sl W (a % W.length) (W.length - a % W.length)).length = W.length - a % W.length := by rw [sl_len]; lia
      rw [List.getElem?_append_right (by lia), e1, List.getElem?_map, List.getElem?_range (by lia)]
      generalize hu : t - (W.length - a % W.length) = u
      have e2 : (a + t) % W.length = u % W.length := by
        have e3 : a + t = u + W.length * (a / W.length + 1) := by
          have := Nat.div_add_mod a W.length
          rw [Nat.mul_add]; lia
        rw [e3, Nat.add_mul_mod_self_left]
      rw [e2]
      have hum : u < n - (W.length - a % W.length) := by lia
      have e4 : u % (min (n - (W.length - a % W.length)) W.length) = u % W.length := by
        by_cases hc : n - (W.length - a % W.length) ≤ W.length
        · rw [Nat.min_eq_left hc, Nat.mod_eq_of_lt hum, Nat.mod_eq_of_lt (by lia)]
        · rw [Nat.min_eq_right (by lia)]
      have hul : u % W.length < min (n - (W.length - a % W.length)) W.length := by
        rw [← e4]; exact Nat.mod_lt _ (by lia)
      rw [Option.map_some, e4, List.getD, sl_get _ _ _ _ hul, Nat.zero_add, List.getElem?_eq_getElem (Nat.mod_lt _ hp)]; rfl
  · rw [List.getElem?_eq_none (by rw [wrap_len]; lia), List.getElem?_eq_none]
    rw [List.length_append, sl_len, List.length_map, List.length_range]; lia
/-! ### merged -/
theorem mx_one (w : Bytes) : mx [w] = w.length := by simp [mx]
theorem mx_take {Ws : List WL} (h : ∀ A ∈ Ws, A ≠ []) (i : Nat) : mx (prodW (Ws.take i)) ≤ mx (prodW Ws) := by
  rw [prod_split Ws i, mx_both _ _ (prodW_ne fun A hA => h A (List.mem_of_mem_take hA)) (prodW_ne fun A hA => h A (List.mem_of_mem_drop hA))]; lia
theorem mx_in {Ws : List WL} (h : ∀ A ∈ Ws, A ≠ []) {A : WL} (hA : A ∈ Ws) : mx A ≤ mx (prodW Ws) := by
  obtain ⟨i, hi, rfl⟩ := List.getElem_of_mem hA
  have q := mx_take h (i + 1)
  rw [prod_take (List.getElem?_eq_getElem hi), mx_both _ _ (prodW_ne fun A hA => h A (List.mem_of_mem_take hA)) (h _ hA)] at q
  lia
theorem len_in {Ws : List WL} (h : ∀ A ∈ Ws, A ≠ []) {A : WL} (hA : A ∈ Ws) : A.length ≤ (prodW Ws).length := by
  obtain ⟨i, hi, rfl⟩ := List.getElem_of_mem hA
  rw [beh_all Ws (i + 1), prod_take (List.getElem?_eq_getElem hi), both_length]
  have h1 := beh_pos h (i + 1)
  have h2 : 0 < (prodW (Ws.take i)).length := prod_pos fun A hA => h A (List.mem_of_mem_take hA)
  calc Ws[i].length ≤ (prodW (Ws.take i)).length * Ws[i].length := Nat.le_mul_of_pos_left _ h2
    _ ≤ _ := Nat.le_mul_of_pos_right _ h1
theorem one_all {Ws : List WL} (h : ∀ A ∈ Ws, A ≠ []) (h1 : (prodW Ws).length = 1) {A : WL} (hA : A ∈ Ws) : A.length = 1 := by
  have q := len_in h hA
  have := pos_of_ne (h A hA)
  lia
theorem len_one {W : WL} (h : W.length = 1) : ∃ w, W = [w] := List.length_eq_one_iff.mp h
theorem prod_snoc (Ws : List WL) (A : WL) : prodW (Ws ++ [A]) = both (prodW Ws) A := by rw [prodW_append, prodW_one]
theorem prod_dl {Vs : List WL} {A : WL} (h : Vs.getLast? = some A) : prodW Vs = both (prodW Vs.dropLast) A := by
  have e : Vs = Vs.dropLast ++ [A] := by
    cases Vs with
    | nil => cases h
    | cons v r =>
      have e2 := List.dropLast_concat_getLast (l := v :: r) (by simp)
      rw [List.getLast?_eq_getLast (by simp)] at h
      rw [Option.some.inj h] at e2
      exact e2.symm
  conv => lhs; rw [e]
  exact prod_snoc _ _
/-! ### caps -/
theorem cap2_le (n : Nat) : cap2 n ≤ 256 := Nat.min_le_right _ _
theorem cap2_add (a b : Nat) : min (cap2 a + cap2 b) 256 = cap2 (a + b) := by unfold cap2; lia
theorem cap2_lt_iff {n : Nat} : 255 < cap2 n ↔ 255 < n := by unfold cap2; lia
theorem cap2_of {n : Nat} (h : n ≤ 255) : cap2 n = n := by unfold cap2; lia
theorem cap_pos {W : WL} (h : W ≠ []) : 0 < cap W.length := by
  have := pos_of_ne h
  unfold cap; rw [CAP_eq]; omega
theorem cap_sum (l : List WL) : ∀ x : Nat, cap (x + (l.map fun A => cap A.length).sum) = cap (x + l.flatten.length) := by
  induction l with
  | nil => intro x; rfl
  | cons A l ih =>
    intro x
    rw [List.map_cons, List.sum_cons, List.flatten_cons, List.length_append, ← Nat.add_assoc, ih, ← Nat.add_assoc]
    unfold cap; omega
theorem mx_cap_mem {l : List WL} (h : l ≠ []) {M : Nat} (h1 : M ∈ l.map fun A => cap2 (mx A)) (h2 : ∀ y, y ∈ l.map (fun A => cap2 (mx A)) → y ≤ M) : M = cap2 (mx l.flatten) := by
  obtain ⟨A, hA, rfl⟩ := List.mem_map.mp h1
  apply Nat.le_antisymm
  · have := mx_flatten_ge hA
    unfold cap2; omega
  · have q : ∀ B ∈ l, cap2 (mx B) ≤ cap2 (mx A) := fun B hB => h2 _ (List.mem_map.mpr ⟨B, hB, rfl⟩)
    by_cases hc : 255 < mx A
    · have : cap2 (mx A) = 256 := by unfold cap2; omega
      rw [this]; exact cap2_le _
    · have r : mx l.flatten ≤ mx A := mx_flatten_le fun B hB => by
        have := q B hB
        unfold cap2 at this; omega
      unfold cap2; omega
theorem cap_mul_int (a b : Nat) : (if (18446744073709551615 + 1 : Int) < (cap a : Int) * (cap b : Int) then (18446744073709551615 + 1 : Int) else (cap a : Int) * (cap b : Int)) = ((cap (a * b) : Nat) : Int) := by
  rw [← cap_mul a b]
  have e : (cap a : Int) * (cap b : Int) = ((cap a * cap b : Nat) : Int) := by push_cast; rfl
  rw [e]
  generalize cap a * cap b = x
  unfold cap
  rw [CAP_eq]
  split <;> omega
theorem cap2_add_int (a b : Nat) : (if (255 + 1 : Int) < (cap2 a : Int) + (cap2 b : Int) then (255 + 1 : Int) else (cap2 a : Int) + (cap2 b : Int)) = ((cap2 (a + b) : Nat) : Int) := by
  rw [← cap2_add a b]
  split <;> lia
theorem sum_cast (l : List Nat) : (l.map fun (n : Nat) => (n : Int)).sum = ((l.sum : Nat) : Int) := by
  induction l with
  | nil => rfl
  | cons a l ih => rw [List.map_cons, List.sum_cons, List.sum_cons, ih]; push_cast; rfl
theorem cap_sum_int (l : List WL) : (if (18446744073709551615 + 1 : Int) < (l.map fun A => ((cap A.length : Nat) : Int)).sum then (18446744073709551615 + 1 : Int) else (l.map fun A => ((cap A.length : Nat) : Int)).sum) = ((cap l.flatten.length : Nat) : Int) := by
  have e : (l.map fun A => ((cap A.length : Nat) : Int)) = (l.map fun A => cap A.length).map fun (n : Nat) => (n : Int) := by rw [List.map_map]; rfl
  have q := cap_sum l 0
  rw [Nat.zero_add, Nat.zero_add] at q
  rw [e, sum_cast, ← q]
  generalize (l.map fun A => cap A.length).sum = x
  unfold cap
  rw [CAP_eq]
  split <;> omega
theorem one_of_mul {a b : Nat} (h : a * b = 1) : a = 1 ∧ b = 1 := by
  have h1 : a = 1 := Nat.eq_one_of_mul_eq_one_right h
  subst h1
  exact ⟨rfl, by lia⟩
theorem flat_one {Ws : List WL} (hn : ∀ A ∈ Ws, A ≠ []) (h : Ws.flatten.length = 1) : ∃ A, Ws = [A] ∧ A.length = 1 := by
  match Ws, hn, h with
  | [], _, h => simp at h
  | [A], _, h => exact ⟨A, rfl, by simpa using h⟩
  | A :: B :: r, hn, h =>
    have h1 := pos_of_ne (hn A (by simp))
    have h2 := pos_of_ne (hn B (by simp))
    rw [List.flatten_cons, List.flatten_cons, List.length_append, List.length_append] at h
    lia
end Mth
end
section
set_option Elab.async false
set_option linter.all false
set_option maxRecDepth 100000
namespace PW
open PySem L2 Mth
/-! ### the text by places -/
def top (i : Nat) : Stmt := PySem.Challenge.pw_patternwords_s01_answers.main.body.getD i (.Pass ⟨0, 0, 0, 0⟩)
abbrev sFrom : Stmt := top 1
abbrev sBranch : Stmt := top 2
abbrev sAround : Stmt := top 3
abbrev sInitP : Stmt := inClass (top 7) 0
abbrev sInitB : Stmt := inClass (top 8) 0
abbrev sSingle : Stmt := top 9
abbrev sMerged : Stmt := top 10
abbrev sChained : Stmt := top 11
abbrev sAlter : Stmt := top 12
abbrev sRepeat : Stmt := top 13
abbrev sFits : Stmt := top 14
abbrev sInitL : Stmt := inClass (top 31) 0
abbrev sEndBr : Stmt := inClass (top 31) 1
abbrev sWhole : Stmt := inClass (top 31) 2
abbrev sInitR : Stmt := inClass (top 32) 0
abbrev sTakes : Stmt := inClass (top 32) 1
abbrev sSign : Stmt := inClass (top 32) 2
abbrev sItem : Stmt := inClass (top 32) 3
abbrev sLBr : Stmt := inClass (top 32) 4
abbrev sRBr : Stmt := inClass (top 32) 5
abbrev sBar : Stmt := inClass (top 32) 6
abbrev sLBrace : Stmt := inClass (top 32) 7
abbrev sLeast : Stmt := inClass (top 32) 8
abbrev sComma : Stmt := inClass (top 32) 9
abbrev sMost : Stmt := inClass (top 32) 10
abbrev sRBrace : Stmt := inClass (top 32) 11
abbrev sMayEnd : Stmt := inClass (top 32) 12
abbrev sPattern : Stmt := inClass (top 32) 13
abbrev sNotAt : Stmt := top 45
abbrev sTold : Stmt := top 46
abbrev sWordA : Stmt := top 47
abbrev sEachA : Stmt := top 48
abbrev sInitD : Stmt := inClass (top 49) 0
abbrev sHasMore : Stmt := inClass (top 49) 1
abbrev sTakeN : Stmt := inClass (top 49) 2
abbrev sTakeR : Stmt := inClass (top 49) 3
abbrev sNext : Stmt := inClass (top 49) 4
abbrev sLoad : Stmt := inClass (top 49) 5
abbrev sAnswers : Stmt := top 50
/-! ### the attributes -/
def pF (t l w b : V) : List (Str × V) := [("total", t), ("longest", l), ("word", w), ("branches", b)]
def bF (t l p : V) : List (Str × V) := [("total", t), ("longest", l), ("pieces", p)]
def lF (b p : V) : List (Str × V) := [("branches", b), ("pieces", p)]
def rF (lv aw rp le mo : V) : List (Str × V) := [("levels", lv), ("awaits", aw), ("repeatable", rp), ("least", le), ("most", mo)]
def dF (ca pl pn : V) : List (Str × V) := [("calls", ca), ("place", pl), ("pattern_now", pn)]
section
variable (a b c d e x : V)
theorem pF_total : (pF a b c d).lookup ("total" : Str) = some a := by kernel_rfl
theorem pF_longest : (pF a b c d).lookup ("longest" : Str) = some b := by kernel_rfl
theorem pF_word : (pF a b c d).lookup ("word" : Str) = some c := by kernel_rfl
theorem pF_branches : (pF a b c d).lookup ("branches" : Str) = some d := by kernel_rfl
theorem pF_put : putF "branches" d (putF "word" c (putF "longest" b (putF "total" a []))) = pF a b c d := by kernel_rfl
theorem bF_total : (bF a b c).lookup ("total" : Str) = some a := by kernel_rfl
theorem bF_longest : (bF a b c).lookup ("longest" : Str) = some b := by kernel_rfl
theorem bF_pieces : (bF a b c).lookup ("pieces" : Str) = some c := by kernel_rfl
theorem bF_put : putF "pieces" c (putF "longest" b (putF "total" a [])) = bF a b c := by kernel_rfl
theorem lF_branches : (lF a b).lookup ("branches" : Str) = some a := by kernel_rfl
theorem lF_pieces : (lF a b).lookup ("pieces" : Str) = some b := by kernel_rfl
theorem lF_put : putF "pieces" b (putF "branches" a []) = lF a b := by kernel_rfl
theorem lF_putP : putF "pieces" x (lF a b) = lF a x := by kernel_rfl
theorem lF_end : (lF a b).lookup ("end_branch" : Str) = none := by kernel_rfl
theorem lF_whole : (lF a b).lookup ("whole" : Str) = none := by kernel_rfl
theorem rF_levels : (rF a b c d e).lookup ("levels" : Str) = some a := by kernel_rfl
theorem rF_awaits : (rF a b c d e).lookup ("awaits" : Str) = some b := by kernel_rfl
theorem rF_rep : (rF a b c d e).lookup ("repeatable" : Str) = some c := by kernel_rfl
theorem rF_least : (rF a b c d e).lookup ("least" : Str) = some d := by kernel_rfl
theorem rF_most : (rF a b c d e).lookup ("most" : Str) = some e := by kernel_rfl
theorem rF_put : putF "most" e (putF "least" d (putF "repeatable" c (putF "awaits" b (putF "levels" a [])))) = rF a b c d e := by kernel_rfl
theorem rF_putA : putF "awaits" x (rF a b c d e) = rF a x c d e := by kernel_rfl
theorem rF_putR : putF "repeatable" x (rF a b c d e) = rF a b x d e := by kernel_rfl
theorem rF_putL : putF "least" x (rF a b c d e) = rF a b c x e := by kernel_rfl
theorem rF_putM : putF "most" x (rF a b c d e) = rF a b c d x := by kernel_rfl
theorem rF_takes : (rF a b c d e).lookup ("takes" : Str) = none := by kernel_rfl
theorem rF_sign : (rF a b c d e).lookup ("takes_sign" : Str) = none := by kernel_rfl
theorem rF_item : (rF a b c d e).lookup ("takes_item" : Str) = none := by kernel_rfl
theorem rF_lbr : (rF a b c d e).lookup ("takes_left_bracket" : Str) = none := by kernel_rfl
theorem rF_rbr : (rF a b c d e).lookup ("takes_right_bracket" : Str) = none := by kernel_rfl
theorem rF_bar : (rF a b c d e).lookup ("takes_bar" : Str) = none := by kernel_rfl
theorem rF_lbrace : (rF a b c d e).lookup ("takes_left_brace" : Str) = none := by kernel_rfl
theorem rF_tleast : (rF a b c d e).lookup ("takes_least" : Str) = none := by kernel_rfl
theorem rF_comma : (rF a b c d e).lookup ("takes_comma" : Str) = none := by kernel_rfl
theorem rF_tmost : (rF a b c d e).lookup ("takes_most" : Str) = none := by kernel_rfl
theorem rF_rbrace : (rF a b c d e).lookup ("takes_right_brace" : Str) = none := by kernel_rfl
theorem rF_mayend : (rF a b c d e).lookup ("may_end" : Str) = none := by kernel_rfl
theorem rF_pattern : (rF a b c d e).lookup ("pattern" : Str) = none := by kernel_rfl
theorem dF_calls : (dF a b c).lookup ("calls" : Str) = some a := by kernel_rfl
theorem dF_place : (dF a b c).lookup ("place" : Str) = some b := by kernel_rfl
theorem dF_now : (dF a b c).lookup ("pattern_now" : Str) = some c := by kernel_rfl
theorem dF_put : putF "pattern_now" c (putF "place" b (putF "calls" a [])) = dF a b c := by kernel_rfl
theorem dF_putP : putF "place" x (dF a b c) = dF a x c := by kernel_rfl
theorem dF_putN : putF "pattern_now" x (dF a b c) = dF a b x := by kernel_rfl
theorem dF_more : (dF a b c).lookup ("has_more" : Str) = none := by kernel_rfl
theorem dF_taken : (dF a b c).lookup ("take_number" : Str) = none := by kernel_rfl
theorem dF_taker : (dF a b c).lookup ("take_row" : Str) = none := by kernel_rfl
theorem dF_next : (dF a b c).lookup ("answer_next" : Str) = none := by kernel_rfl
theorem dF_load : (dF a b c).lookup ("load" : Str) = none := by kernel_rfl
end
/-! ### the classes, as the top has made them -/
structure Ad where
  cP : Addr
  cB : Addr
  cL : Addr
  cR : Addr
  cD : Addr
inductive GI (mg : Str → Option Value) (x : Str) (i : Int) : Prop
  | mk u : (mg x = some u) → (RelV (.int i) u) → GI mg x i
structure Txt (K : PySem.W.Frag) (mg : Str → Option Value) (t : Ad) : Prop where
  clP : Cls K t.cP
  pT : NoAttr K t.cP "total"
  pL : NoAttr K t.cP "longest"
  pW : NoAttr K t.cP "word"
  pB : NoAttr K t.cP "branches"
  mP : mg "Piece" = some (.ref t.cP)
  clB : Cls K t.cB
  bT : NoAttr K t.cB "total"
  bL : NoAttr K t.cB "longest"
  bP : NoAttr K t.cB "pieces"
  mB : mg "Branch" = some (.ref t.cB)
  clL : Cls K t.cL
  lB : NoAttr K t.cL "branches"
  lP : NoAttr K t.cL "pieces"
  mL : mg "Level" = some (.ref t.cL)
  clR : Cls K t.cR
  rL : NoAttr K t.cR "levels"
  rA : NoAttr K t.cR "awaits"
  rR : NoAttr K t.cR "repeatable"
  rE : NoAttr K t.cR "least"
  rM : NoAttr K t.cR "most"
  mR : mg "Reader" = some (.ref t.cR)
  clD : Cls K t.cD
  dC : NoAttr K t.cD "calls"
  dP : NoAttr K t.cD "place"
  dN : NoAttr K t.cD "pattern_now"
  mD : mg "Desk" = some (.ref t.cD)
  len : mg "len" = none
  range : mg "range" = none
  min : mg "min" = none
  max : mg "max" = none
  sum : mg "sum" = none
  list : mg "list" = none
  enum : mg "enumerate" = none
  mLet : GI mg "MOST_LETTERS" 255
  mWords : GI mg "MOST_WORDS" 18446744073709551615
  deepest : GI mg "DEEPEST" 32
  la : GI mg "LETTER_A" 97
  lz : GI mg "LETTER_Z" 122
  d0 : GI mg "DIGIT_0" 48
  lbr : GI mg "LEFT_BRACKET" 40
  rbr : GI mg "RIGHT_BRACKET" 41
  comma : GI mg "COMMA" 44
  lbrace : GI mg "LEFT_BRACE" 123
  bar : GI mg "BAR" 124
  rbrace : GI mg "RIGHT_BRACE" 125
  aS : GI mg "AWAIT_SIGN" 0
  aL : GI mg "AWAIT_LEAST" 1
  aC : GI mg "AWAIT_COMMA" 2
  aM : GI mg "AWAIT_MOST" 3
  aB : GI mg "AWAIT_BRACE" 4
  count : GI mg "COUNT" 1
  word : GI mg "WORD" 2
  each : GI mg "EACH" 3
  mBytes : GI mg "MOST_BYTES" 1023
  done : GI mg "DONE" 0
  stopped : GI mg "STOPPED" 7
  noWord : GI mg "NO_SUCH_WORD" (-1)
  wrongM : GI mg "WRONG_MOST" (-2)
  tooLong : GI mg "WORD_TOO_LONG" (-3)
  tooLarge : GI mg "PATTERN_TOO_LARGE" (-4000)
  textLong : GI mg "TEXT_TOO_LONG" (-5000)
/-- a global def as the top has made it -/
structure Df (K : PySem.W.Frag) (mg : Str → Option Value) (x : Str) (st : Stmt) (ps : List Str) (f : Addr) (fd : FuncData) : Prop where
  F : Fun K x x st f fd
  b : Binds K fd ps []
  m : mg x = some (.ref f)
/-- a method -/
structure Dm (K : PySem.W.Frag) (C : Addr) (x qual : Str) (st : Stmt) (ps : List Str) (f : Addr) (fd : FuncData) : Prop where
  F : Fun K x qual st f fd
  b : Binds K fd ps []
  m : Meth K C x f
/-- an __init__ -/
structure Di (K : PySem.W.Frag) (C : Addr) (qual : Str) (st : Stmt) (ps : List Str) (f : Addr) (fd : FuncData) : Prop where
  F : Fun K "__init__" qual st f fd
  b : Binds K fd ps []
  m : Mk K C f
/-! ### what stands in the heap -/
def bv (w : Sg05.Bytes) : List V := w.map fun c => V.int (c.toNat : Int)
def rfs (as : List Addr) : List V := as.map V.ref
theorem bv_length (w : Sg05.Bytes) : (bv w).length = w.length := by unfold bv; rw [List.length_map]
theorem bv_append (w v : Sg05.Bytes) : bv (w ++ v) = bv w ++ bv v := by unfold bv; rw [List.map_append]
theorem rfs_length (w : List Addr) : (rfs w).length = w.length := by unfold rfs; rw [List.length_map]
theorem rfs_append (w v : List Addr) : rfs (w ++ v) = rfs w ++ rfs v := by unfold rfs; rw [List.map_append]
inductive RfG (as : List Addr) (i : Nat) (v : V) : Prop
  | mk (a : Addr) : as[i]? = some a → v = V.ref a → RfG as i v
theorem rfs_get {as : List Addr} {i : Nat} {v : V} (h : (rfs as)[i]? = some v) : RfG as i v := by
  unfold rfs at h
  rw [List.getElem?_map] at h
  cases e : as[i]? with
  | none => rw [e] at h; cases h
  | some a => rw [e] at h; exact ⟨a, e, (Option.some.inj h).symm⟩
theorem rfs_at {as : List Addr} {i : Nat} {a : Addr} (h : as[i]? = some a) : (rfs as)[i]? = some (V.ref a) := by
  unfold rfs; rw [List.getElem?_map, h]; rfl
def TupAt (H : Hp) (t : Addr) (w : Sg05.Bytes) : Prop := H t = some (.tup (bv w))
/-- a list of words -/
inductive WsAt (H : Hp) (r : Addr) (ws : WL) : Prop
  | mk ts : (H r = some (.lst (rfs ts))) → (All2 (TupAt H) ts ws) → WsAt H r ws
inductive BrAt (PI : Addr → WL → Prop) (t : Ad) (H : Hp) (b : Addr) (W : WL) : Prop
  | mk dx pl ps : (H b = some (.ins t.cB dx (bF (.int (cap W.length : Nat)) (.int (cap2 (mx W) : Nat)) (.ref pl)))) → (H pl = some (.lst (rfs ps))) → (ps.length ≤ 1100) → (W ≠ []) → ((255 < mx W → ps = [])) → ((mx W ≤ 255 → ∃ Ws, prodW Ws = W ∧ All2 PI ps Ws ∧ ∀ A ∈ Ws, A ≠ [])) → ((mx W ≤ 255 → W.length = 1 → ps.length = 1)) → BrAt PI t H b W
inductive PcS (BI : Addr → WL → Prop) (t : Ad) (H : Hp) (a : Addr) (W : WL) : Prop
  | mk (dx tw bl : Addr) (word : Sg05.Bytes) (bs : List Addr) : H a = some (.ins t.cP dx (pF (.int (cap W.length : Nat)) (.int (cap2 (mx W) : Nat)) (.ref tw) (.ref bl))) → TupAt H tw word → H bl = some (.lst (rfs bs)) → W ≠ [] →
    (mx W ≤ 255 → (W.length = 1 → W = [word]) ∧ (W.length ≠ 1 → ∃ Ws, Ws.flatten = W ∧ All2 BI bs Ws)) → PcS BI t H a W
def PcAt (t : Ad) (H : Hp) : Nat → Addr → WL → Prop
  | 0 => fun _ _ => False
  | d + 1 => fun a W => PcS (BrAt (PcAt t H d) t H) t H a W
inductive PcOb (t : Ad) (H : Hp) (a : Addr) (W : WL) : Prop
  | mk (dx tw bl : Addr) : H a = some (.ins t.cP dx (pF (.int (cap W.length : Nat)) (.int (cap2 (mx W) : Nat)) (.ref tw) (.ref bl))) → PcOb t H a W
inductive PcSi (t : Ad) (H : Hp) (a : Addr) (W : WL) : Prop
  | mk (dx tw bl : Addr) (word : Sg05.Bytes) : H a = some (.ins t.cP dx (pF (.int (cap W.length : Nat)) (.int (cap2 (mx W) : Nat)) (.ref tw) (.ref bl))) → TupAt H tw word → W = [word] → PcSi t H a W
section
variable {t : Ad} {H H' : Hp} {d d' : Nat} {a b : Addr} {W : WL}
theorem TupAt.same {w : Sg05.Bytes} (s : Same H H') (h : TupAt H a w) : TupAt H' a w := s _ _ h
theorem WsAt.same {ws : WL} (s : Same H H') (h : WsAt H a ws) : WsAt H' a ws := by
  obtain ⟨ts, h1, h2⟩ := h
  exact ⟨ts, s _ _ h1, h2.imp fun _ _ q => q.same s⟩
theorem BrAt.imp {PI PI' : Addr → WL → Prop} (s : Same H H') (f : ∀ a W, PI a W → PI' a W) (h : BrAt PI t H b W) : BrAt PI' t H' b W := by
  obtain ⟨dx, pl, ps, h1, h2, h3, h4, h5, h6, h7⟩ := h
  exact ⟨dx, pl, ps, s _ _ h1, s _ _ h2, h3, h4, h5, fun z => let ⟨Ws, q1, q2, q3⟩ := h6 z; ⟨Ws, q1, q2.imp f, q3⟩, h7⟩
theorem PcAt.same (s : Same H H') : ∀ {d : Nat} {a : Addr} {W : WL}, PcAt t H d a W → PcAt t H' d a W
  | 0, _, _, h => h
  | d + 1, a, W, h => by
    obtain ⟨dx, tw, bl, word, bs, h1, h2, h3, h4, h5⟩ := h
    exact ⟨dx, tw, bl, word, bs, s _ _ h1, h2.same s, s _ _ h3, h4, fun z => ⟨(h5 z).1, fun n => let ⟨Ws, q1, q2⟩ := (h5 z).2 n; ⟨Ws, q1, q2.imp fun _ _ q => q.imp s fun _ _ q => PcAt.same s q⟩⟩⟩
theorem PcAt.up : ∀ {d : Nat} {a : Addr} {W : WL}, PcAt t H d a W → PcAt t H (d + 1) a W
  | 0, _, _, h => h.elim
  | d + 1, a, W, h => by
    obtain ⟨dx, tw, bl, word, bs, h1, h2, h3, h4, h5⟩ := h
    exact ⟨dx, tw, bl, word, bs, h1, h2, h3, h4, fun z => ⟨(h5 z).1, fun n => let ⟨Ws, q1, q2⟩ := (h5 z).2 n; ⟨Ws, q1, q2.imp fun _ _ q => q.imp (Same.refl H) fun _ _ q => PcAt.up q⟩⟩⟩
theorem PcAt.mono (h : PcAt t H d a W) (hd : d ≤ d') : PcAt t H d' a W := by
  obtain ⟨k, rfl⟩ : ∃ k, d' = d + k := ⟨d' - d, by omega⟩
  clear hd
  induction k with
  | zero => exact h
  | succ k ih => exact ih.up
theorem BrAt.same (s : Same H H') (h : BrAt (PcAt t H d) t H b W) : BrAt (PcAt t H' d) t H' b W := h.imp s fun _ _ q => q.same s
theorem BrAt.mono (h : BrAt (PcAt t H d) t H b W) (hd : d ≤ d') : BrAt (PcAt t H d') t H b W := h.imp (Same.refl H) fun _ _ q => q.mono hd
theorem PcAt.ob (h : PcAt t H d a W) : PcOb t H a W := by
  cases d with
  | zero => exact h.elim
  | succ d => obtain ⟨dx, tw, bl, word, bs, h1, _⟩ := h; exact ⟨dx, tw, bl, h1⟩
theorem PcAt.ne (h : PcAt t H d a W) : W ≠ [] := by
  cases d with
  | zero => exact h.elim
  | succ d => obtain ⟨dx, tw, bl, word, bs, h1, _, _, h4, _⟩ := h; exact h4
theorem PcAt.single (h : PcAt t H d a W) (hm : mx W ≤ 255) (h1 : W.length = 1) : PcSi t H a W := by
  cases d with
  | zero => exact h.elim
  | succ d => obtain ⟨dx, tw, bl, word, bs, q1, q2, _, _, q5⟩ := h; exact ⟨dx, tw, bl, word, q1, q2, (q5 hm).1 h1⟩
theorem BrAt.ne {PI : Addr → WL → Prop} (h : BrAt PI t H b W) : W ≠ [] := by
  obtain ⟨dx, pl, ps, h1, h2, h3, h4, _⟩ := h; exact h4
end
theorem SqT.ofTup {K : PySem.W.Frag} {H : Hp} {a : Addr} {w : Sg05.Bytes} (h : TupAt H a w) : SqT K H a (bv w) := SqT.of h
end PW
end
section
set_option Elab.async false
set_option linter.all false
set_option maxRecDepth 100000
namespace PW
open PySem L2 Mth
/-! ### growing heaps: G what never changes again, H all that is tracked -/
structure Ext (G H G' H' : Hp) : Prop where
  gg : Same G G'
  hh : Same H H'
  gh : Same G' H'
  old : ∀ b, H b ≠ none → G b = none → G' b = none
section
variable {G H G1 H1 G2 H2 : Hp} {p b : Addr} {o : HO}
theorem some_ne {H : Hp} {b : Addr} {o : HO} (h : H b = some o) : H b ≠ none := by rw [h]; simp
theorem Ext.refl (s : Same G H) : Ext G H G H := ⟨Same.refl G, Same.refl H, s, fun _ _ h => h⟩
theorem Ext.trans (a : Ext G H G1 H1) (b : Ext G1 H1 G2 H2) : Ext G H G2 H2 := by
  refine ⟨a.gg.trans b.gg, a.hh.trans b.hh, b.gh, fun c hc hg => b.old c ?_ (a.old c hc hg)⟩
  cases e : H c with
  | none => exact absurd e hc
  | some o => exact some_ne (a.hh _ _ e)
/-- a new thing that never changes -/
theorem Ext.fix (e : Ext G H G1 H1) (hp : H1 p = none) (o : HO) : Ext G H (upd G1 p o) (upd H1 p o) := by
  have g1 : G1 p = none := e.gh.free hp
  have h0 : H p = none := e.hh.free hp
  refine ⟨e.gg.trans (same_upd g1 o), e.hh.trans (same_upd hp o), fun b u q => ?_, fun b hb hg => ?_⟩
  · by_cases z : b = p
    · subst z; rw [upd_same] at q ⊢; exact q
    · rw [upd_ne z] at q ⊢; exact e.gh _ _ q
  · have z : b ≠ p := fun z => hb (by rw [z]; exact h0)
    rw [upd_ne z]; exact e.old b hb hg
/-- a new thing that may change -/
theorem Ext.new (e : Ext G H G1 H1) (hp : H1 p = none) (o : HO) : Ext G H G1 (upd H1 p o) :=
  ⟨e.gg, e.hh.trans (same_upd hp o), e.gh.trans (same_upd hp o), e.old⟩
/-- it changes -/
theorem Ext.mut (e : Ext G H G1 H1) (h0 : H p = none) (g1 : G1 p = none) (o : HO) : Ext G H G1 (upd H1 p o) := by
  refine ⟨e.gg, fun b u q => ?_, fun b u q => ?_, e.old⟩
  · rw [upd_ne (ne_of_none q h0)]; exact e.hh _ _ q
  · rw [upd_ne (ne_of_none q g1)]; exact e.gh _ _ q
/-- from now on it never changes -/
theorem Ext.freeze (e : Ext G H G1 H1) (h0 : H p = none) (g1 : G1 p = none) (h1 : H1 p = some o) : Ext G H (upd G1 p o) H1 := by
  refine ⟨e.gg.trans (same_upd g1 o), e.hh, fun b u q => ?_, fun b hb hg => ?_⟩
  · by_cases z : b = p
    · subst z; rw [upd_same] at q; cases q; exact h1
    · rw [upd_ne z] at q; exact e.gh _ _ q
  · have z : b ≠ p := fun z => hb (by rw [z]; exact h0)
    rw [upd_ne z]; exact e.old b hb hg
theorem Ext.keepN (e : Ext G H G1 H1) (h : H p = some o) (g : G p = none) : G1 p = none := e.old p (some_ne h) g
theorem Ext.n0 (e : Ext G H G1 H1) (h : H1 p = none) : H p = none := e.hh.free h
theorem Ext.nG (e : Ext G H G1 H1) (h : H1 p = none) : G1 p = none := e.gh.free h
end
/-! ### t + u of any two tuples that never change -/
inductive rCatA  (x : V) (y : V) (H : Hp) (Q : VK) : Prop
  | mk G a b xs ys : (x = .ref a) → (y = .ref b) → (Same G H) → (G a = some (.tup xs)) → (G b = some (.tup ys)) → (xs.length + ys.length ≤ sizeLine) → (∀ p G' H', Ext G H G' H' → G' p = some (.tup (xs ++ ys)) → Q (.ref p) H') → rCatA  x y H Q
theorem op_catA {X : Cx} : OpR X (binaryOp .Add) rCatA := by
  intro pins s σ H x y v u Q I rx ry h
  obtain ⟨G, a, b, xs, ys, rfl, rfl, sg, ha, hb, hz, q⟩ := h
  have ha' := sg _ _ ha
  have hb' := sg _ _ hb
  cases xs with
  | nil =>
    cases rx
    cases ry
    obtain ⟨its, r1, p1, _⟩ := I.tuple (SqT.of (K := X.K) ha')
    obtain ⟨its2, r2, p2, _⟩ := I.tuple (SqT.of (K := X.K) hb')
    have e := r1.nil_iff.mpr rfl
    subst e
    exact cat_tup0 p1 p2 ⟨.ref b, H, I, rfl, q b G H (Ext.refl sg) (by rw [List.nil_append]; exact hb)⟩
  | cons z r =>
    refine op_catT pins s σ H _ _ v u Q I rx ry ⟨a, b, z :: r, ys, rfl, rfl, SqT.of ha', SqT.of hb', by simp, hz, fun e => ?_, fun _ p hp => ?_⟩
    · subst e
      exact q a G H (Ext.refl sg) (by rw [List.append_nil]; exact ha)
    · exact q p _ _ ((Ext.refl sg).fix hp _) upd_same
/-- a new instance behind its __init__ -/
def madeH (H : Hp) (C x dx : Addr) (fs : List (Str × V)) : Hp := upd (upd (upd H dx (.own x)) x (.ins C dx [])) x (.ins C dx fs)
section
variable {G H G1 H1 : Hp} {x dx C : Addr} {fs : List (Str × V)}
theorem madeH_eq : madeH H C x dx fs = upd (upd H dx (.own x)) x (.ins C dx fs) := by unfold madeH; rw [upd_upd]
theorem madeH_at : madeH H C x dx fs x = some (.ins C dx fs) := by unfold madeH; exact upd_same
theorem madeH_ne {b : Addr} (h1 : b ≠ x) (h2 : b ≠ dx) : madeH H C x dx fs b = H b := by rw [madeH_eq, upd_ne h1, upd_ne h2]
theorem Ext.makeF (e : Ext G H G1 H1) (nx : H1 x = none) (nd : H1 dx = none) (ne : dx ≠ x) : Ext G H (madeH G1 C x dx fs) (madeH H1 C x dx fs) := by
  rw [madeH_eq, madeH_eq]
  exact (e.fix nd _).fix (by rw [upd_ne ne.symm]; exact nx) _
theorem Ext.makeM (e : Ext G H G1 H1) (nx : H1 x = none) (nd : H1 dx = none) (ne : dx ≠ x) : Ext G H G1 (madeH H1 C x dx fs) := by
  rw [madeH_eq]
  exact (e.new nd _).new (by rw [upd_ne ne.symm]; exact nx) _
theorem madeH_same (nx : H x = none) (nd : H dx = none) : Same H (madeH H C x dx fs) := fun b o e => by
  rw [madeH_ne (ne_of_none e nx) (ne_of_none e nd)]; exact e
end
theorem sl16 {n : Nat} (h : n ≤ 1000000) : n ≤ sizeLine := by
  have : (1000000 : Nat) ≤ sizeLine := by decide
  omega
theorem sl16' {n : Nat} (h : n ≤ 1000000) : n < sizeLine := by
  have : (1000000 : Nat) < sizeLine := by decide
  omega
theorem pl0 : ([] : List (Str × V)).length < 1000 := by decide
theorem pl1 {f : Str} {v : V} : (putF f v []).length < 1000 := by show 1 < 1000; decide
theorem pl2 {f g : Str} {v u : V} : (putF f v (putF g u [])).length < 1000 := by
  have h9 := length_putF f v (putF g u []); have h1 : (putF g u []).length = 1 := rfl; omega
theorem pl3 {f g h : Str} {v u x : V} : (putF f v (putF g u (putF h x []))).length < 1000 := by
  have h9 := length_putF f v (putF g u (putF h x [])); have h2 := length_putF g u (putF h x []); have h1 : (putF h x []).length = 1 := rfl; omega
theorem pl4 {f g h j : Str} {v u x y : V} : (putF f v (putF g u (putF h x (putF j y [])))).length < 1000 := by
  have h9 := length_putF f v (putF g u (putF h x (putF j y []))); have h3 := length_putF g u (putF h x (putF j y [])); have h2 := length_putF h x (putF j y []); have h1 : (putF j y []).length = 1 := rfl; omega
/-- a global constant -/
theorem pgi {X : Cx} {x : Str} {i : Int} {pos : Pos} (h : GI X.mg x i) (hg : Gl X x := by rfl) (hd : (x == ("__debug__" : Str)) = false := by decide) : PE X (.Name x pos) (tC (.int i)) := by
  obtain ⟨u, hm, r⟩ := h
  exact pe_glob hg hm r hd
theorem dI {i j : Int} (h : decide (V.int i = V.int j) = true) : i = j := by have e := of_decide_eq_true h; injection e
theorem dIn {i j : Int} (h : ¬ decide (V.int i = V.int j) = true) : i ≠ j := fun e => h (decide_eq_true (by rw [e]))
theorem dT {p : Prop} [Decidable p] (h : decide p = true) : p := of_decide_eq_true h
theorem dF' {p : Prop} [Decidable p] (h : ¬ decide p = true) : ¬ p := fun e => h (decide_eq_true e)
end PW
end
section
set_option Elab.async false
set_option linter.all false
set_option maxRecDepth 100000
namespace PW
open PySem L2 Mth
theorem idiv (a b : Nat) : (a : Int) / (b : Int) = ((a / b : Nat) : Int) := (Int.natCast_ediv a b).symm
theorem imod (a b : Nat) : (a : Int) % (b : Int) = ((a % b : Nat) : Int) := (Int.natCast_emod a b).symm
section
variable {X : Cx}
/-! ### whole numbers that are no less than 0 -/
inductive rAddN  (x : V) (y : V) (H : Hp) (Q : VK) : Prop
  | mk (a b : Nat) : (x = .int a) → (y = .int b) → (∀ q : Nat, q = a + b → Q (.int q) H) → rAddN  x y H Q
inductive rSubN  (x : V) (y : V) (H : Hp) (Q : VK) : Prop
  | mk (a b : Nat) : (x = .int a) → (y = .int b) → (b ≤ a) → (∀ q : Nat, q = a - b → Q (.int q) H) → rSubN  x y H Q
inductive rDivN  (x : V) (y : V) (H : Hp) (Q : VK) : Prop
  | mk (a b : Nat) : (x = .int a) → (y = .int b) → (0 < b) → (b ≤ 18446744073709551616) → (∀ q : Nat, q = a / b → Q (.int q) H) → rDivN  x y H Q
inductive rModN  (x : V) (y : V) (H : Hp) (Q : VK) : Prop
  | mk (a b : Nat) : (x = .int a) → (y = .int b) → (0 < b) → (∀ q : Nat, q = a % b → Q (.int q) H) → rModN  x y H Q
theorem op_addN : OpR X (binaryOp .Add) rAddN := by
  intro pins s σ H x y v u Q I rx ry h
  obtain ⟨a, b, rfl, rfl, q⟩ := h
  refine op_add pins s σ H _ _ v u Q I rx ry ⟨_, _, rfl, rfl, ?_⟩
  show Q (.int ((a : Int) + (b : Int))) H
  rw [show (a : Int) + (b : Int) = ((a + b : Nat) : Int) by omega]
  exact q _ rfl
theorem op_subN : OpR X (binaryOp .Sub) rSubN := by
  intro pins s σ H x y v u Q I rx ry h
  obtain ⟨a, b, rfl, rfl, hl, q⟩ := h
  refine op_sub pins s σ H _ _ v u Q I rx ry ⟨_, _, rfl, rfl, ?_⟩
  show Q (.int ((a : Int) - (b : Int))) H
  rw [show (a : Int) - (b : Int) = ((a - b : Nat) : Int) by omega]
  exact q _ rfl
theorem op_divN : OpR X (binaryOp .FloorDiv) rDivN := by
  intro pins s σ H x y v u Q I rx ry h
  obtain ⟨a, b, rfl, rfl, h0, h1, q⟩ := h
  refine op_fdivB pins s σ H _ _ v u Q I rx ry ⟨_, _, rfl, rfl, ⟨by omega, by omega⟩, ?_⟩
  show Q (.int ((a : Int) / (b : Int))) H
  rw [idiv]
  exact q _ rfl
theorem op_modN2 : OpR X (binaryOp .Mod) rModN := by
  intro pins s σ H x y v u Q I rx ry h
  obtain ⟨a, b, rfl, rfl, h0, q⟩ := h
  refine op_mod pins s σ H _ _ v u Q I rx ry ⟨_, _, rfl, rfl, by omega, ?_⟩
  show Q (.int ((a : Int) % (b : Int))) H
  rw [imod]
  exact q _ rfl
theorem call_minN (hc : X.calm = true) : CallR X (.builtin "min") (fun xs H Q => ∃ a b : Nat, xs = [.int a, .int b] ∧ ∀ q : Nat, q = min a b → Q (.int q) H) := by
  intro pins s σ H xs us Q I r h
  obtain ⟨a, b, rfl, q⟩ := h
  refine call_min2 hc pins s σ H _ us Q I r ⟨_, _, rfl, ?_⟩
  have e : (if (b : Int) < (a : Int) then (b : Int) else (a : Int)) = ((min a b : Nat) : Int) := by split <;> omega
  rw [e]
  exact q _ rfl
def iRngN (ta : TA) : TI := fun σ H R => ta σ H fun vs H1 => ∃ i j : Nat, vs = [.int i, .int j] ∧ ∀ n : Nat, n = j - i → R (Itr (i : Int) n) H1
theorem pi_rangeN {tg a b : Expr} {ta : TA} {p pos : Pos} (hg : Gl X "range") (hm : X.mg "range" = none) (ha : PA X [a, b] ta) (hs : starEach [a, b] X.env = [(false, eval a X.env), (false, eval b X.env)] := by rfl) (hs2 : starEach [b] X.env = [(false, eval b X.env)] := by rfl) :
    PI X tg (.Call (.Name "range" p) [a, b] [] pos) (iRngN ta) := by
  intro pins s σ H R I h
  refine PyProof.Rows.Call_ (ld_blt I hg hm PyProof.Rows.boot_range (PyProof.Rows.callWith_type1 (thn (ha pos pins s σ H _ I h) fun us s1 ⟨vs, H1, I1, r1, q1⟩ => ?_) (by rw [hs, hs2]) (by rw [hs2]; rfl)))
  obtain ⟨i, j, e, q⟩ := q1
  subst e
  cases r1 with
  | cons r rr =>
    cases rr with
    | cons r' rr =>
      cases rr
      obtain ⟨t, rfl⟩ := r
      obtain ⟨t', rfl⟩ := r'
      refine call_range_2 (range_itB I1 ?_)
      exact q _ (by omega)
end
end PW
end
section
set_option Elab.async false
set_option linter.all false
set_option maxRecDepth 100000
namespace PW
open PySem L2 Mth
section
variable {P : Program} {w : World} {K : PySem.W.Frag} {mg : Str → Option Value} {base : Heap} {t : Ad}
/-! ### Piece(..), Branch(..) -/
abbrev psIP : List Str := ["self", "total", "longest", "word", "branches"]
inductive spIP (t : Ad) (vs : List V) (H : Hp) (Q : VK) (E : XK) : Prop
  | mk (p dx : Addr) (v1 v2 v3 v4 : V) : (vs = [.ref p, v1, v2, v3, v4]) → (H p = some (.ins t.cP dx [])) → (Q .non (upd H p (.ins t.cP dx (pF v1 v2 v3 v4)))) → spIP t vs H Q E
theorem scIP : FnScope psIP psIP (defScope sInitP) := ⟨rfl, rfl, rfl, by decide +kernel, rfl, by decide +kernel, by decide +kernel⟩
theorem ok_IP {f : Addr} {fd : FuncData} (D : Di K t.cP "Piece.__init__" sInitP psIP f fd) (T : Txt K mg t) : FnOk P w K mg base CX0 1 f fd psIP (spIP t) := by
  refine D.F.ok scIP (fun vs H Q E h => ?_) (fun cdv A outer s H vs Q E hr h => ?_)
  · obtain ⟨p, dx, v1, v2, v3, v4, rfl, _⟩ := h
    rfl
  · obtain ⟨p, dx, v1, v2, v3, v4, rfl, hp, k⟩ := h
    refine ⟨_, pss_cons (ps_fld (pv 0) (pv 1) rfl) (pss_cons (ps_fld (pv 0) (pv 2) rfl) (pss_cons (ps_fld (pv 0) (pv 3) rfl) (pss_one (ps_fld (pv 0) (pv 4) rfl)))), ?_⟩
    refine ⟨_, rfl, _, rfl, p, t.cP, dx, [], rfl, hp, T.clP, T.pT, pl0, _, rfl, _, rfl, p, t.cP, dx, _, rfl, upd_same, T.clP, T.pL, pl1, _, rfl, _, rfl, p, t.cP, dx, _, rfl, upd_same, T.clP, T.pW, pl2, _, rfl, _, rfl, p, t.cP, dx, _, rfl, upd_same, T.clP, T.pB, pl3, ?_⟩
    refine Eq.mp (congrArg (Q V.non) ?_) k
    rw [upd_upd, upd_upd, upd_upd, pF_put]
abbrev psIB : List Str := ["self", "total", "longest", "pieces"]
inductive spIB (t : Ad) (vs : List V) (H : Hp) (Q : VK) (E : XK) : Prop
  | mk (p dx : Addr) (v1 v2 v3 : V) : (vs = [.ref p, v1, v2, v3]) → (H p = some (.ins t.cB dx [])) → (Q .non (upd H p (.ins t.cB dx (bF v1 v2 v3)))) → spIB t vs H Q E
theorem scIB : FnScope psIB psIB (defScope sInitB) := ⟨rfl, rfl, rfl, by decide +kernel, rfl, by decide +kernel, by decide +kernel⟩
theorem ok_IB {f : Addr} {fd : FuncData} (D : Di K t.cB "Branch.__init__" sInitB psIB f fd) (T : Txt K mg t) : FnOk P w K mg base CX0 1 f fd psIB (spIB t) := by
  refine D.F.ok scIB (fun vs H Q E h => ?_) (fun cdv A outer s H vs Q E hr h => ?_)
  · obtain ⟨p, dx, v1, v2, v3, rfl, _⟩ := h
    rfl
  · obtain ⟨p, dx, v1, v2, v3, rfl, hp, k⟩ := h
    refine ⟨_, pss_cons (ps_fld (pv 0) (pv 1) rfl) (pss_cons (ps_fld (pv 0) (pv 2) rfl) (pss_one (ps_fld (pv 0) (pv 3) rfl))), ?_⟩
    refine ⟨_, rfl, _, rfl, p, t.cB, dx, [], rfl, hp, T.clB, T.bT, pl0, _, rfl, _, rfl, p, t.cB, dx, _, rfl, upd_same, T.clB, T.bL, pl1, _, rfl, _, rfl, p, t.cB, dx, _, rfl, upd_same, T.clB, T.bP, pl2, ?_⟩
    refine Eq.mp (congrArg (Q V.non) ?_) k
    rw [upd_upd, upd_upd, bF_put]
/-! ### single -/
inductive spSingle (t : Ad) (vs : List V) (H : Hp) (Q : VK) (E : XK) : Prop
  | mk (G : Hp) (tw : Addr) (w : Sg05.Bytes) : (vs = [.ref tw]) → (Same G H) → (TupAt G tw w) → (w.length ≤ 255) → (∀ (a : Addr) (G' H' : Hp), Ext G H G' H' → PcAt t G' 1 a [w] → Q (.ref a) H') → spSingle t vs H Q E
theorem scSg : FnScope ["word"] ["word"] (defScope sSingle) := ⟨rfl, rfl, rfl, by decide +kernel, rfl, by decide +kernel, by decide +kernel⟩
theorem ok_single {f fP : Addr} {fd fdP : FuncData} (D : Df K mg "single" sSingle ["word"] f fd) (DP : Di K t.cP "Piece.__init__" sInitP psIP fP fdP) (T : Txt K mg t) : FnOk P w K mg base CX0 3 f fd ["word"] (spSingle t) := by
  have GP : FnOk P w K mg base CX0 1 fP fdP psIP (spIP t) := ok_IP DP T
  refine D.F.ok scSg (fun vs H Q E h => ?_) (fun cdv A outer s H vs Q E hr h => ?_)
  · obtain ⟨G, tw, w, rfl, _⟩ := h
    rfl
  · obtain ⟨G, tw, w, rfl, sg, hw, hl, k⟩ := h
    refine ⟨_, pss_one (ps_ret (pe_make DP.m GP hr rfl T.mP DP.b .nil pass0 (pa_cons pe_int (pa_cons (pe_callB call_len_seq rfl T.len PySem.boot_len (pa_cons (pv 0) pa_nil)) (pa_cons (pv 0) (pa_cons (pe_lst pa_nil) pa_nil)))))), ?_⟩
    refine ⟨_, rfl, tw, _, rfl, .inr (SqT.ofTup (hw.same sg)), _, rfl, (by show 0 ≤ sizeLine; decide), fun bl hbl => ?_⟩
    intro x dx nx ndx nex
    refine ⟨x, dx, _, _, _, _, rfl, upd_same, rfl, ?_⟩
    have e := ((Ext.refl sg).fix hbl (.lst [])).makeF (C := t.cP) (fs := pF (.int 1) (.int ((bv w).length : Nat)) (.ref tw) (.ref bl)) nx ndx nex
    have e1 : (1 : Int) = ((cap ([w] : WL).length : Nat) : Int) := by rw [show ([w] : WL).length = 1 from rfl, cap_of (by decide)]; rfl
    have e2 : ((bv w).length : Int) = ((cap2 (mx [w]) : Nat) : Int) := by rw [bv_length, mx_one, cap2_of hl]
    refine k x _ _ e ⟨dx, tw, bl, w, [], ?_, hw.same e.gg, ?_, by simp, fun _ => ⟨fun _ => rfl, fun n => absurd rfl n⟩⟩
    · rw [madeH_at, ← e1, ← e2]
    · rw [madeH_ne (ne_of_none (H := upd H bl (.lst [])) upd_same nx) (ne_of_none (H := upd H bl (.lst [])) upd_same ndx), upd_same]
      rfl
end
end PW
end
section
set_option Elab.async false
set_option linter.all false
set_option maxRecDepth 100000
namespace PW
open PySem L2 Mth
theorem atLast (qs : List Addr) (q : Addr) : atI (rfs (qs ++ [q])) (-1) = some (V.ref q) := by
  rw [rfs_append]; exact atI_last _ _
theorem ixLast (qs : List Addr) (q : Addr) : ixN (rfs (qs ++ [q])).length (-1) = some qs.length := by
  rw [rfs_length, List.length_append, List.length_singleton]
  unfold ixN
  rw [if_neg (by decide), if_pos (by omega)]
  congr 1
  omega
theorem setLast (qs : List Addr) (q x : Addr) : (rfs (qs ++ [q])).set qs.length (V.ref x) = rfs (qs ++ [x]) := by
  unfold rfs
  rw [List.map_append, List.map_append, List.set_append_right _ _ (by rw [List.length_map]; exact Nat.le_refl _)]
  rw [List.length_map, Nat.sub_self]
  rfl
section
variable {P : Program} {w : World} {K : PySem.W.Frag} {mg : Str → Option Value} {base : Heap} {t : Ad}
theorem ws_ne {H : Hp} {d : Nat} {ps : List Addr} {Ws : List WL} (h : All2 (PcAt t H d) ps Ws) : ∀ A ∈ Ws, A ≠ [] := fun A hA => by
  obtain ⟨i, hi⟩ := List.getElem?_of_mem hA
  obtain ⟨a, _, q⟩ := h.get' hi
  exact q.ne
/-! ### merged -/
inductive spMerged (t : Ad) (vs : List V) (H : Hp) (Q : VK) (E : XK) : Prop
  | mk (G : Hp) (pl : Addr) (ps : List Addr) (Ws : List WL) (d : Nat) : (vs = [.ref pl]) → (Same G H) → (H pl = some (.lst (rfs ps))) → (ps.length ≤ 1100) → (1 ≤ d) → (All2 (PcAt t G d) ps Ws) → (mx (prodW Ws) ≤ 255) → (∀ (r : Addr) (qs : List Addr) (Vs : List WL) (G' H' : Hp), Ext G H G' H' → G' r = some (.lst (rfs qs)) → qs.length ≤ 1100 → All2 (PcAt t G' d) qs Vs → prodW Vs = prodW Ws → ((prodW Ws).length = 1 → qs.length = 1) → Q (.ref r) H') → spMerged t vs H Q E
inductive MgI (t : Ad) (G H : Hp) (pl r : Addr) (Ws : List WL) (d i : Nat) (σ : St) (H2 : Hp) : Prop
  | mk (v : Option V) (G2 : Hp) (qs : List Addr) (Vs : List WL) : (σ = [some (.ref pl), some (.ref r), v]) → (Ext G H G2 H2) → (G2 r = none) → (H2 r = some (.lst (rfs qs))) → (qs.length ≤ i) → (All2 (PcAt t G2 d) qs Vs) → (prodW Vs = prodW (Ws.take i)) → (((prodW (Ws.take i)).length = 1 → qs.length ≤ 1)) → MgI t G H pl r Ws d i σ H2
theorem scMg : FnScope ["pieces", "result", "piece"] ["pieces"] (defScope sMerged) := ⟨rfl, rfl, rfl, by decide +kernel, rfl, by decide +kernel, by decide +kernel⟩
theorem ok_merged {f fS : Addr} {fd fdS : FuncData} (D : Df K mg "merged" sMerged ["pieces"] f fd) (DS : Df K mg "single" sSingle ["word"] fS fdS) (GS : FnOk P w K mg base CX0 3 fS fdS ["word"] (spSingle t)) (T : Txt K mg t) :
    FnOk P w K mg base CX0 4 f fd ["pieces"] (spMerged t) := by
  refine D.F.ok scMg (fun vs H Q E h => ?_) (fun cdv A outer s H vs Q E hr h => ?_)
  · obtain ⟨G, pl, ps, Ws, d, rfl, _⟩ := h
    rfl
  · obtain ⟨G, pl, ps, Ws, d, rfl, sg, hpl, hn, hd, hall, hmx, k⟩ := h
    have hne := ws_ne hall
    refine ⟨_, pss_cons (ps_set (i := 1) scMg.nd rfl (Or.inl rfl) (pe_lst pa_nil))
      (pss_cons (ps_for PassesOwn.never rfl (pi_list (pv 0)) (pg_name (i := 2) scMg.nd rfl (Or.inl rfl))
        (pss_one (ps_if (L2.PW.pt (pw_and (pt_cmpR op_eq (pe_fld (pv 2) rfl) pe_int (nomark _)) (pw_and (pt_cmpR op_gt (pe_callB call_len_seq rfl T.len PySem.boot_len (pa_cons (pv 1) pa_nil)) pe_int (nomark _)) (pw_and1 (pt_cmpR op_eq (pe_fld (pe_ix ix_list (pv 1) (pe_un un_neg pe_int) (fun _ _ => rfl)) rfl) pe_int (nomark _))))))
          (pss_one (ps_asg (pe_call GS hr rfl DS.m DS.F.kp DS.b .nil pass0 (pa_cons (pe_op op_catA (pe_fld (pe_ix ix_list (pv 1) (pe_un un_neg pe_int) (fun _ _ => rfl)) rfl) (pe_fld (pv 2) rfl)) pa_nil)) (pg_sub (pv 1) (pe_un un_neg pe_int) set_list)))
          (pss_one (ps_expr (pe_bm PySem.F.plainAttrs_list PySem.F.slot_list_append PySem.F.type_list_append mt_append (pv 1) (pa_cons (pv 2) pa_nil)))))))
      (pss_cons (ps_if (pt_cmpR op_eq (pe_callB call_len_seq rfl T.len PySem.boot_len (pa_cons (pv 1) pa_nil)) pe_int (nomark _)) (pss_one (ps_ret (pe_lst (pa_cons (pe_call GS hr rfl DS.m DS.F.kp DS.b .nil pass0 (pa_cons (pe_tup pa_nil) pa_nil)) pa_nil)))) pss_nil)
      (pss_one (ps_ret (pv 1))))), ?_⟩
    -- result = []
    refine ⟨(by show 0 ≤ sizeLine; decide), fun r hr0 => ?_⟩
    have hprl : pl ≠ r := ne_of_none hpl hr0
    refine ⟨_, rfl, pl, rfl, ⟨_, SqL.of (by rw [upd_ne hprl]; exact hpl)⟩, for_list (K := K) (a := pl) (xs := rfs ps) (MgI t G H pl r Ws d)
      ⟨none, G, [], [], rfl, (Ext.refl sg).new hr0 _, sg.free hr0, upd_same, Nat.le_refl _, All2.nil, rfl, fun _ => by simp⟩ (fun i σ H2 _ h => by obtain ⟨_, _, _, _, _, e, _⟩ := h; exact e.hh.seq (SqL.of hpl)) ?_ ?_⟩
    · rintro i y σ H2 hi ⟨v, G2, qs, Vs, rfl, e2, hg2, hr2, hq, hA, hP, h1⟩
      obtain ⟨a, ha, rfl⟩ := rfs_get hi
      obtain ⟨A, hAi, hpa⟩ := hall.get ha
      have hpa2 : PcAt t G2 d a A := hpa.same e2.gg
      obtain ⟨dxa, twa, bla, hoba⟩ := hpa2.ob
      have hoba2 := e2.gh _ _ hoba
      have hi' : i < ps.length := (List.getElem?_eq_some_iff.mp ha).1
      have hlen : (prodW (Ws.take (i + 1))).length = 1 → (prodW (Ws.take i)).length = 1 ∧ A.length = 1 := fun z => by
        rw [prod_take hAi, both_length] at z
        exact one_of_mul z
      have inv : ((prodW (Ws.take (i + 1))).length = 1 → qs = []) → MgI t G H pl r Ws d (i + 1) [some (.ref pl), some (.ref r), some (.ref a)] (upd H2 r (.lst (rfs qs ++ [.ref a]))) := fun z =>
        ⟨some (.ref a), G2, qs ++ [a], Vs ++ [A], rfl, e2.mut hr0 hg2 _, hg2, by rw [upd_same, rfs_append]; rfl, by rw [List.length_append, List.length_singleton]; omega, hA.snoc hpa2, by rw [prod_snoc, hP, prod_take hAi], fun o => by rw [z o]; simp⟩
      have hsz : (rfs qs).length < sizeLine := by rw [rfs_length]; exact sl16' (by omega)
      refine ⟨_, rfl, a, t.cP, dxa, _, _, rfl, hoba2, T.clP, T.pT, pF_total _ _ _ _, rfl, _, rfl, ?_⟩
      refine ite2 (fun c1 => ?_) (fun c1 => iteF ?_)
      · have hA1 : A.length = 1 := cap_one_iff.mp (by have := dI c1; omega)
        refine ⟨_, rfl, r, _, rfl, .inl (SqL.of hr2), _, _, rfl, rfl, _, rfl, ?_⟩
        refine ite2 (fun c2 => ?_) (fun c2 => iteF ?_)
        · have hq0 : 0 < qs.length := by have := dT c2; rw [rfs_length] at this; omega
          obtain ⟨qm, q, rfl⟩ := last_split hq0
          obtain ⟨Vm, B, rfl, hAm, hpq⟩ := hA.snoc_inv
          obtain ⟨dxq, twq, blq, hobq⟩ := hpq.ob
          have hobq2 := e2.gh _ _ hobq
          have hVne := ws_ne hA
          refine ⟨_, rfl, _, rfl, r, _, _, _, rfl, rfl, SqL.of hr2, atLast qm q, q, t.cP, dxq, _, _, rfl, hobq2, T.clP, T.pT, pF_total _ _ _ _, rfl, _, rfl, ?_⟩
          refine ite2 (fun c3 => ?_) (fun c3 => ?_)
          · have hB1 : B.length = 1 := cap_one_iff.mp (by have := dI c3; omega)
            have hmB : mx B ≤ 255 := Nat.le_trans (mx_in hVne (by simp)) (by rw [hP]; exact Nat.le_trans (mx_take hne i) hmx)
            have hmA : mx A ≤ 255 := Nat.le_trans (mx_in hne (List.mem_of_getElem? hAi)) hmx
            obtain ⟨dxq', twq', blq', u, hobq', htq, rfl⟩ := hpq.single hmB hB1
            obtain ⟨dxa', twa', bla', v, hoba', hta, rfl⟩ := hpa2.single hmA hA1
            have hnew : prodW (Vm ++ [[u ++ v]]) = prodW (Ws.take (i + 1)) := by
              rw [prod_take hAi, ← hP, prod_snoc, prod_snoc, both_assoc, both_single]
            have hneN : ∀ A ∈ Vm ++ [[u ++ v]], A ≠ [] := fun A hA => by
              rcases List.mem_append.mp hA with z | z
              · exact hVne A (List.mem_append_left _ z)
              · rw [List.mem_singleton.mp z]; simp
            have huv : (u ++ v).length ≤ 255 := by
              have z : mx [u ++ v] ≤ 255 := Nat.le_trans (mx_in hneN (by simp)) (by rw [hnew]; exact Nat.le_trans (mx_take hne (i + 1)) hmx)
              rw [mx_one] at z; exact z
            refine ⟨_, rfl, _, rfl, r, _, _, _, rfl, rfl, SqL.of hr2, atLast qm q, q, t.cP, dxq', _, _, rfl, e2.gh _ _ hobq', T.clP, T.pW, pF_word _ _ _ _, _, rfl, a, t.cP, dxa', _, _, rfl, e2.gh _ _ hoba', T.clP, T.pW, pF_word _ _ _ _,
              G2, twq', twa', _, _, rfl, rfl, e2.gh, htq, hta, (by rw [bv_length, bv_length]; rw [List.length_append] at huv; exact sl16 (by omega)), fun p G3 H3 e3 hp3 => ?_⟩
            refine ⟨G3, p, u ++ v, rfl, e3.gh, (by unfold TupAt; rw [hp3, bv_append]), huv, fun x G4 H4 e4 pc => ?_⟩
            have e24 := e3.trans e4
            have hr4 : H4 r = some (.lst (rfs (qm ++ [q]))) := e24.hh _ _ hr2
            have hg4 : G4 r = none := e24.keepN hr2 hg2
            refine ⟨_, rfl, _, rfl, r, _, _, _, rfl, rfl, hr4, ixLast qm q, ?_⟩
            rw [setLast]
            refine ⟨_, G4, qm ++ [x], Vm ++ [[u ++ v]], rfl, (e2.trans e24).mut hr0 hg4 _, hg4, upd_same, ?_, (hAm.imp fun _ _ z => z.same e24.gg).snoc (pc.mono hd), hnew, fun o => ?_⟩
            · rw [List.length_append, List.length_singleton] at hq ⊢; omega
            · have z := h1 (hlen o).1
              rw [List.length_append, List.length_singleton] at z ⊢; omega
          · refine ⟨_, rfl, .inl ⟨rfl, _, SqL.of hr2⟩, _, rfl, r, _, _, rfl, rfl, hr2, hsz, inv fun o => ?_⟩
            exfalso
            have z := hlen o
            rw [← hP] at z
            have zB := one_all hVne z.1 (A := B) (by simp)
            exact dIn c3 (by rw [zB]; rfl)
        · refine ⟨_, rfl, .inl ⟨rfl, _, SqL.of hr2⟩, _, rfl, r, _, _, rfl, rfl, hr2, hsz, inv fun o => ?_⟩
          have z := dF' c2
          rw [rfs_length] at z
          exact List.length_eq_zero_iff.mp (by omega)
      · refine ⟨_, rfl, .inl ⟨rfl, _, SqL.of hr2⟩, _, rfl, r, _, _, rfl, rfl, hr2, hsz, inv fun o => ?_⟩
        exfalso
        exact dIn c1 (by rw [(hlen o).2]; rfl)
    · rintro σ H2 ⟨v, G2, qs, Vs, rfl, e2, hg2, hr2, hq, hA, hP, h1⟩
      rw [rfs_length] at hq
      rw [rfs_length, hall.1, List.take_length] at hP h1
      refine ⟨_, rfl, r, _, rfl, .inl (SqL.of hr2), rfl, _, rfl, ?_⟩
      refine ite2 (fun c => ?_) (fun c => ?_)
      · have hq0 : qs = [] := by
          have z := dI c
          rw [rfs_length] at z
          exact List.length_eq_zero_iff.mp (by omega)
        subst hq0
        have hV0 : Vs = [] := List.length_eq_zero_iff.mp hA.1.symm
        subst hV0
        refine ⟨(by show 0 ≤ sizeLine; decide), fun tw htw => ?_⟩
        have e3 := (Ext.refl e2.gh).fix htw (.tup [])
        refine ⟨_, tw, [], rfl, e3.gh, (by unfold TupAt; rw [upd_same]; rfl), by simp, fun x G4 H4 e4 pc => ⟨(by show 1 ≤ sizeLine; decide), fun r2 hr2' => ?_⟩⟩
        have e24 := e2.trans (e3.trans e4)
        refine k r2 [x] [[[]]] _ _ (e24.fix hr2' _) upd_same (by simp) (All2.one ((pc.mono hd).same (same_upd (e24.nG hr2') _))) (by rw [← hP, prodW_one]; rfl) fun _ => rfl
      · have hq0 : qs ≠ [] := fun z => dIn c (by rw [z]; rfl)
        refine ⟨_, rfl, ?_⟩
        refine k r qs Vs _ _ (e2.freeze hr0 hg2 hr2) upd_same (by omega) (hA.imp fun _ _ z => z.same (same_upd hg2 _)) hP fun o => ?_
        have z := h1 o
        have z2 := pos_of_ne hq0
        omega
/-! ### chained -/
inductive spChained (t : Ad) (vs : List V) (H : Hp) (Q : VK) (E : XK) : Prop
  | mk (G : Hp) (pl : Addr) (ps : List Addr) (Ws : List WL) (d : Nat) : (vs = [.ref pl]) → (Same G H) → (H pl = some (.lst (rfs ps))) → (ps.length ≤ 1100) → (1 ≤ d) → (All2 (PcAt t G d) ps Ws) → (∀ (b : Addr) (G' H' : Hp), Ext G H G' H' → BrAt (PcAt t G' d) t G' b (prodW Ws) → Q (.ref b) H') → spChained t vs H Q E
theorem scCh : FnScope ["pieces", "total", "longest", "piece"] ["pieces"] (defScope sChained) := ⟨rfl, rfl, rfl, by decide +kernel, rfl, by decide +kernel, by decide +kernel⟩
theorem ok_chained {f fM fB : Addr} {fd fdM fdB : FuncData} (D : Df K mg "chained" sChained ["pieces"] f fd) (DM : Df K mg "merged" sMerged ["pieces"] fM fdM) (GM : FnOk P w K mg base CX0 4 fM fdM ["pieces"] (spMerged t))
    (DB : Di K t.cB "Branch.__init__" sInitB psIB fB fdB) (T : Txt K mg t) : FnOk P w K mg base CX0 5 f fd ["pieces"] (spChained t) := by
  have GB : FnOk P w K mg base CX0 1 fB fdB psIB (spIB t) := ok_IB DB T
  refine D.F.ok scCh (fun vs H Q E h => ?_) (fun cdv A outer s H vs Q E hr h => ?_)
  · obtain ⟨G, pl, ps, Ws, d, rfl, _⟩ := h
    rfl
  · obtain ⟨G, pl, ps, Ws, d, rfl, sg, hpl, hn, hd, hall, k⟩ := h
    have hne := ws_ne hall
    have hr2 : Room 2 _ := hr.mono (by decide)
    refine ⟨_, pss_cons (ps_set (i := 1) scCh.nd rfl (Or.inl rfl) pe_int) (pss_cons (ps_set (i := 2) scCh.nd rfl (Or.inl rfl) pe_int)
      (pss_cons (ps_for PassesOwn.never rfl (pi_list (pv 0)) (pg_name (i := 3) scCh.nd rfl (Or.inl rfl))
        (pss_cons (ps_set (i := 1) scCh.nd rfl (Or.inl rfl) (pe_callB (call_min2 rfl) rfl T.min PyProof.Rows.boot_min (pa_cons (pe_op op_mulB (pv 1) (pe_fld (pv 3) rfl)) (pa_cons (pe_op op_add (pgi T.mWords) pe_int) pa_nil))))
        (pss_one (ps_set (i := 2) scCh.nd rfl (Or.inl rfl) (pe_callB (call_min2 rfl) rfl T.min PyProof.Rows.boot_min (pa_cons (pe_op op_add (pv 2) (pe_fld (pv 3) rfl)) (pa_cons (pe_op op_add (pgi T.mLet) pe_int) pa_nil)))))))
      (pss_cons (ps_if (pt_cmpR op_gt (pv 2) (pgi T.mLet) (nomark _)) (pss_one (ps_ret (pe_make DB.m GB hr2 rfl T.mB DB.b .nil pass0 (pa_cons (pv 1) (pa_cons (pv 2) (pa_cons (pe_lst pa_nil) pa_nil)))))) pss_nil)
      (pss_one (ps_ret (pe_make DB.m GB hr2 rfl T.mB DB.b .nil pass0 (pa_cons (pv 1) (pa_cons (pv 2) (pa_cons (pe_call GM hr rfl DM.m DM.F.kp DM.b .nil pass0 (pa_cons (pv 0) pa_nil)) pa_nil))))))))), ?_⟩
    refine ⟨_, rfl, pl, rfl, ⟨_, SqL.of hpl⟩, for_list (K := K) (a := pl) (xs := rfs ps) (fun i σ H2 => ∃ v : Option V, σ = [some (.ref pl), some (.int (cap (prodW (Ws.take i)).length : Nat)), some (.int (cap2 (mx (prodW (Ws.take i))) : Nat)), v] ∧ H2 = H)
      ⟨none, rfl, rfl⟩ (fun i σ H2 _ ⟨_, _, e⟩ => by rw [e]; exact SqL.of hpl) ?_ ?_⟩
    · rintro i y σ H2 hi ⟨v, rfl, rfl⟩
      obtain ⟨a, ha, rfl⟩ := rfs_get hi
      obtain ⟨A, hAi, hpa⟩ := hall.get ha
      obtain ⟨dxa, twa, bla, hoba⟩ := hpa.ob
      have hoba2 := sg _ _ hoba
      have hc : ∀ n, (cap n : Int) ≤ 18446744073709551616 := fun n => by have := cap_le n; rw [CAP_eq] at this; omega
      refine ⟨_, rfl, _, rfl, a, t.cP, dxa, _, _, rfl, hoba2, T.clP, T.pT, pF_total _ _ _ _, _, _, rfl, rfl, ⟨⟨by omega, hc _⟩, ⟨by omega, hc _⟩⟩, _, _, rfl, rfl, _, _, rfl, ?_⟩
      refine ⟨_, rfl, _, rfl, a, t.cP, dxa, _, _, rfl, hoba2, T.clP, T.pL, pF_longest _ _ _ _, _, _, rfl, rfl, _, _, rfl, rfl, _, _, rfl, ?_⟩
      refine ⟨some (V.ref a), ?_, rfl⟩
      show [some (V.ref pl), some (V.int (if (18446744073709551615 + 1 : Int) < _ then _ else _)), some (V.int (if (255 + 1 : Int) < _ then _ else _)), some (V.ref a)] = _
      rw [cap_mul_int, cap2_add_int, prod_take hAi, both_length, mx_both _ _ (prodW_ne fun B hB => hne B (List.mem_of_mem_take hB)) hpa.ne]
    · rintro σ H2 ⟨v, rfl, rfl⟩
      rw [rfs_length, hall.1, List.take_length]
      refine ⟨_, rfl, _, _, rfl, rfl, _, rfl, ?_⟩
      refine ite2 (fun c => ?_) (fun c => ?_)
      · have c' : 255 < mx (prodW Ws) := cap2_lt_iff.mp (by have := dT c; omega)
        refine ⟨_, rfl, _, rfl, (by show 0 ≤ sizeLine; decide), fun l hl => ?_⟩
        intro x dx nx ndx nex
        refine ⟨x, dx, _, _, _, rfl, upd_same, rfl, ?_⟩
        have e := ((Ext.refl sg).fix hl (.lst [])).makeF (C := t.cB) (fs := bF (.int (cap (prodW Ws).length : Nat)) (.int (cap2 (mx (prodW Ws)) : Nat)) (.ref l)) nx ndx nex
        refine k x _ _ e ⟨dx, l, [], madeH_at, ?_, by simp, prodW_ne hne, fun _ => rfl, fun z => by omega, fun z => by omega⟩
        rw [madeH_ne (ne_of_none (H := upd H2 l (.lst [])) upd_same nx) (ne_of_none (H := upd H2 l (.lst [])) upd_same ndx), upd_same]
        rfl
      · have c' : mx (prodW Ws) ≤ 255 := by
          have z : ¬ 255 < mx (prodW Ws) := fun z => dF' c (by have := cap2_lt_iff.mpr z; omega)
          omega
        refine ⟨_, rfl, _, rfl, _, rfl, G, pl, ps, Ws, d, rfl, sg, hpl, hn, hd, hall, c', fun r qs Vs G3 H3 e3 hr3 hq3 hA3 hP3 h13 => ?_⟩
        intro x dx nx ndx nex
        refine ⟨x, dx, _, _, _, rfl, upd_same, rfl, ?_⟩
        have e := e3.makeF (C := t.cB) (fs := bF (.int (cap (prodW Ws).length : Nat)) (.int (cap2 (mx (prodW Ws)) : Nat)) (.ref r)) nx ndx nex
        have s3 : Same G3 (madeH G3 t.cB x dx (bF (.int (cap (prodW Ws).length : Nat)) (.int (cap2 (mx (prodW Ws)) : Nat)) (.ref r))) := madeH_same (e3.nG nx) (e3.nG ndx)
        exact k x _ _ e ⟨dx, r, qs, madeH_at, s3 _ _ hr3, hq3, prodW_ne hne, fun z => by omega, fun _ => ⟨Vs, hP3, hA3.imp fun _ _ z => z.same s3, ws_ne hA3⟩, fun _ => h13⟩
end
end PW
end
section
set_option Elab.async false
set_option linter.all false
set_option maxRecDepth 100000
namespace PW
open PySem L2 Mth
section
variable {P : Program} {w : World} {K : PySem.W.Frag} {mg : Str → Option Value} {base : Heap} {t : Ad}
/-! ### alternatives -/
inductive spAlter (t : Ad) (vs : List V) (H : Hp) (Q : VK) (E : XK) : Prop
  | mk (G : Hp) (bl : Addr) (bs : List Addr) (Ws : List WL) (d : Nat) : (vs = [.ref bl]) → (Same G H) → (G bl = some (.lst (rfs bs))) → (bs.length ≤ 1100) → (bs ≠ []) → (All2 (BrAt (PcAt t G d) t G) bs Ws) → (∀ (a : Addr) (G' H' : Hp), Ext G H G' H' → PcAt t G' (d + 1) a Ws.flatten → Q (.ref a) H') → spAlter t vs H Q E
abbrev nAl : List Str := ["branches", "total", "longest", "branch"]
theorem scAl : FnScope nAl ["branches"] (defScope sAlter) := ⟨rfl, rfl, rfl, by decide +kernel, rfl, by decide +kernel, by decide +kernel⟩
theorem ints_take {Ws : List WL} (f : WL → Int) {i : Nat} {A : WL} (h : Ws[i]? = some A) : ((Ws.take (i + 1)).map f).map V.int = ((Ws.take i).map f).map V.int ++ [V.int (f A)] := by
  rw [take_snoc h, List.map_append, List.map_append]; rfl
theorem ok_alter {f fP : Addr} {fd fdP : FuncData} (D : Df K mg "alternatives" sAlter ["branches"] f fd) (DP : Di K t.cP "Piece.__init__" sInitP psIP fP fdP) (T : Txt K mg t) : FnOk P w K mg base CX0 3 f fd ["branches"] (spAlter t) := by
  have GP : FnOk P w K mg base CX0 1 fP fdP psIP (spIP t) := ok_IP DP T
  refine D.F.ok scAl (fun vs H Q E h => ?_) (fun cdv A outer s H vs Q E hr h => ?_)
  · obtain ⟨G, bl, bs, Ws, d, rfl, _⟩ := h
    rfl
  · obtain ⟨G, bl, bs, Ws, d, rfl, sg, hbl, hn, hb0, hall, k⟩ := h
    have hblH := sg _ _ hbl
    have hWne : ∀ A ∈ Ws, A ≠ [] := fun A hA => by
      obtain ⟨i, hi⟩ := List.getElem?_of_mem hA
      obtain ⟨a, _, q⟩ := hall.get' hi
      exact q.ne
    have hW0 : Ws ≠ [] := fun z => hb0 (List.length_eq_zero_iff.mp (by rw [hall.1, z]; rfl))
    refine ⟨_, pss_cons (ps_if (L2.PW.pt (pw_and (pt_cmpR op_eq (pe_callB call_len_seq rfl T.len PySem.boot_len (pa_cons (pv 0) pa_nil)) pe_int (nomark _)) (pw_and1 (pt_cmpR op_eq (pe_callB call_len_seq rfl T.len PySem.boot_len (pa_cons (pe_fld (pe_ix ix_list (pv 0) pe_int (fun _ _ => rfl)) rfl) pa_nil)) pe_int (nomark _)))))
        (pss_one (ps_ret (pe_ix ix_list (pe_fld (pe_ix ix_list (pv 0) pe_int (fun _ _ => rfl)) rfl) pe_int (fun _ _ => rfl)))) pss_nil)
      (pss_cons (ps_set (i := 1) scAl.nd rfl (Or.inl rfl) (pe_callB (call_min2 rfl) rfl T.min PyProof.Rows.boot_min (pa_cons (pe_callB (cr_sum rfl) rfl T.sum PyProof.Rows.boot_sum (pa_cons (pe_lc (te := tFld K (tVar 3) "total") (own := [("branch", 3)]) rfl scAl.nd (pi_list (pv 0)) (blkOk_by (by kernel_rfl)) (fun _ _ _ _ _ => pg_name (i := 3) scAl.nd rfl (Or.inl rfl)) (fun _ _ _ _ _ => pts_nil) (fun _ _ _ _ _ => pe_fld (pv 3) rfl)) pa_nil)) (pa_cons (pe_op op_add (pgi T.mWords) pe_int) pa_nil))))
      (pss_cons (ps_set (i := 2) scAl.nd rfl (Or.inl rfl) (pe_callB (cr_max rfl) rfl T.max PyProof.Rows.boot_max (pa_cons (pe_lc (te := tFld K (tVar 3) "longest") (own := [("branch", 3)]) rfl scAl.nd (pi_list (pv 0)) (blkOk_by (by kernel_rfl)) (fun _ _ _ _ _ => pg_name (i := 3) scAl.nd rfl (Or.inl rfl)) (fun _ _ _ _ _ => pts_nil) (fun _ _ _ _ _ => pe_fld (pv 3) rfl)) pa_nil)))
      (pss_one (ps_ret (pe_make DP.m GP hr rfl T.mP DP.b .nil pass0 (pa_cons (pv 1) (pa_cons (pv 2) (pa_cons (pe_tup pa_nil) (pa_cons (pv 0) pa_nil))))))))), ?_⟩
    have rest : ¬ (∃ b A, bs = [b] ∧ Ws = [A] ∧ A.length = 1 ∧ mx A ≤ 255) → tSeq (tAsg (tCB (fun xs H Q => ∃ i j, xs = [.int i, .int j] ∧ Q (.int (if j < i then j else i)) H) (tCons (tCB (rSum K) (tCons (tLc (iList K (tVar 0)) (gName 3) tYes (tFld K (tVar 3) "total") [3]) tNil)) (tCons (tOp (rI0 fun i j => .int (i + j)) (tC (.int 18446744073709551615)) (tC (.int 1))) tNil))) (gName 1))
        (tSeq (tAsg (tCB (rMax K) (tCons (tLc (iList K (tVar 0)) (gName 3) tYes (tFld K (tVar 3) "longest") [3]) tNil)) (gName 2))
        (tRet (tMake t.cP (spIP t) [] E0 (tCons (tVar 1) (tCons (tVar 2) (tCons (tTup tNil) (tCons (tVar 0) tNil)))))))
        { nx := fun _ H' => Q .non H', rt := Q } [some (.ref bl), none, none, none] H := fun hno => by
      -- total
      refine ⟨_, rfl, bl, rfl, ⟨_, SqL.of hblH⟩, fun L hL => lc_list (K := K) (a := bl) (xs := rfs bs) (fun i H2 => H2 = upd H L (.lst (((Ws.take i).map fun A => ((cap A.length : Nat) : Int)).map V.int))) rfl (fun i H2 _ e => by rw [e, ]; exact (same_upd hL _).seq (SqL.of hblH)) ?_ ?_⟩
      · rintro i y H2 hi rfl
        obtain ⟨b, hb, rfl⟩ := rfs_get hi
        obtain ⟨A, hAi, hpb⟩ := hall.get hb
        obtain ⟨dxb, pl, ps, hob, _⟩ := hpb
        refine ⟨rfl, ?_⟩
        refine ⟨_, rfl, b, t.cB, dxb, _, _, rfl, same_upd hL _ _ _ (sg _ _ hob), T.clB, T.bT, bF_total _ _ _, _, upd_same, ?_, ?_⟩
        · have hal := hall.1; rw [List.length_map, List.length_map, List.length_take]; exact sl16' (by omega)
        · rw [upd_upd, ints_take _ hAi]
      · rintro H2 rfl
        rw [rfs_length, hall.1, List.take_length]
        refine ⟨L, _, rfl, SqL.of upd_same, _, _, rfl, rfl, _, _, rfl, ?_⟩
        have e1 := (Ext.refl sg).new hL (.lst ((Ws.map fun A => ((cap A.length : Nat) : Int)).map V.int))
        -- longest
        refine ⟨_, rfl, bl, rfl, ⟨_, SqL.of (e1.hh _ _ hblH)⟩, fun M hM => lc_list (K := K) (a := bl) (xs := rfs bs) (fun i H2 => H2 = upd (upd H L (.lst ((Ws.map fun A => ((cap A.length : Nat) : Int)).map V.int))) M (.lst (((Ws.take i).map fun A => ((cap2 (mx A) : Nat) : Int)).map V.int))) rfl (fun i H2 _ e => by rw [e]; exact (same_upd hM _).seq (SqL.of (e1.hh _ _ hblH))) ?_ ?_⟩
        · rintro i y H2 hi rfl
          obtain ⟨b, hb, rfl⟩ := rfs_get hi
          obtain ⟨A, hAi, hpb⟩ := hall.get hb
          obtain ⟨dxb, pl, ps, hob, _⟩ := hpb
          refine ⟨rfl, ?_⟩
          refine ⟨_, rfl, b, t.cB, dxb, _, _, rfl, same_upd hM _ _ _ (e1.hh _ _ (sg _ _ hob)), T.clB, T.bL, bF_longest _ _ _, _, upd_same, ?_, ?_⟩
          · have hal := hall.1; rw [List.length_map, List.length_map, List.length_take]; exact sl16' (by omega)
          · rw [upd_upd, ints_take _ hAi]
        · rintro H2 rfl
          rw [rfs_length, hall.1, List.take_length]
          have e2 := e1.new hM (.lst ((Ws.map fun A => ((cap2 (mx A) : Nat) : Int)).map V.int))
          refine ⟨M, _, rfl, SqL.of upd_same, (by rw [List.length_map]; exact pos_of_ne hW0), fun m hm1 hm2 => ?_⟩
          obtain ⟨n, rfl⟩ : ∃ n : Nat, m = (n : Int) := by
            obtain ⟨A, _, rfl⟩ := List.mem_map.mp hm1
            exact ⟨_, rfl⟩
          have hn' : n = cap2 (mx Ws.flatten) := by
            refine mx_cap_mem hW0 ?_ ?_
            · obtain ⟨A, hA, eA⟩ := List.mem_map.mp hm1
              exact List.mem_map.mpr ⟨A, hA, by omega⟩
            · intro y hy
              obtain ⟨A, hA, rfl⟩ := List.mem_map.mp hy
              have := hm2 _ (List.mem_map.mpr ⟨A, hA, rfl⟩)
              omega
          subst hn'
          refine ⟨_, rfl, _, rfl, (by show 0 ≤ sizeLine; decide), fun tw htw => ?_⟩
          refine ⟨_, rfl, ?_⟩
          intro x dx nx ndx nex
          refine ⟨x, dx, _, _, _, _, rfl, upd_same, rfl, ?_⟩
          have e3 := e2.fix htw (.tup [])
          rw [cap_sum_int]
          have e := e3.makeF (C := t.cP) (fs := pF (.int (cap Ws.flatten.length : Nat)) (.int (cap2 (mx Ws.flatten) : Nat)) (.ref tw) (.ref bl)) nx ndx nex
          have sx := madeH_same (C := t.cP) (fs := pF (.int (cap Ws.flatten.length : Nat)) (.int (cap2 (mx Ws.flatten) : Nat)) (.ref tw) (.ref bl)) (e3.nG nx) (e3.nG ndx)
          obtain ⟨A0, hA0⟩ := List.exists_mem_of_ne_nil Ws hW0
          refine k x _ _ e ⟨dx, tw, bl, [], bs, madeH_at, sx _ _ (by rw [upd_same]; rfl), e.gg _ _ hbl, flatten_ne hA0 (hWne A0 hA0), fun hm => ⟨fun o => ?_, fun _ => ⟨Ws, rfl, hall.imp fun _ _ z => z.same e.gg⟩⟩⟩
          exfalso
          obtain ⟨A, hWs, hA1⟩ := flat_one hWne o
          obtain ⟨b, hbs⟩ : ∃ b, bs = [b] := List.length_eq_one_iff.mp (by rw [hall.1, hWs]; rfl)
          exact hno ⟨b, A, hbs, hWs, hA1, by rw [hWs] at hm; simpa using hm⟩
    refine ⟨_, rfl, bl, _, rfl, .inl (SqL.of hblH), rfl, _, rfl, ?_⟩
    refine ite2 (fun c1 => ?_) (fun c1 => iteF (rest ?_))
    · obtain ⟨b, rfl⟩ : ∃ b, bs = [b] := List.length_eq_one_iff.mp (by have := dI c1; rw [rfs_length] at this; omega)
      obtain ⟨A, rfl⟩ : ∃ A, Ws = [A] := List.length_eq_one_iff.mp hall.1.symm
      have hb := hall.2 0 b A rfl rfl
      obtain ⟨dxb, pl, ps, hob, hpl, hpn, hAne, hbig, hpcs, hone⟩ := id hb
      have hobH := sg _ _ hob
      have hplH := sg _ _ hpl
      have at0 : atI (rfs [b]) 0 = some (V.ref b) := atI_nat (j := 0) rfl
      refine ⟨_, rfl, bl, _, _, _, rfl, rfl, SqL.of hblH, at0, b, t.cB, dxb, _, _, rfl, hobH, T.clB, T.bP, bF_pieces _ _ _, pl, _, rfl, .inl (SqL.of hplH), rfl, _, rfl, ?_⟩
      refine ite2 (fun c2 => ?_) (fun c2 => rest ?_)
      · obtain ⟨p, rfl⟩ : ∃ p, ps = [p] := List.length_eq_one_iff.mp (by have := dI c2; rw [rfs_length] at this; omega)
        have hm : mx A ≤ 255 := Nat.le_of_not_lt fun z => by have := hbig z; simp at this
        obtain ⟨Vs, hV, hA2, _⟩ := hpcs hm
        obtain ⟨V0, rfl⟩ : ∃ V0, Vs = [V0] := List.length_eq_one_iff.mp hA2.1.symm
        rw [prodW_one] at hV
        subst hV
        have hp := hA2.2 0 p V0 rfl rfl
        refine ⟨_, rfl, bl, _, _, _, rfl, rfl, SqL.of hblH, at0, b, t.cB, dxb, _, _, rfl, hobH, T.clB, T.bP, bF_pieces _ _ _, pl, _, _, _, rfl, rfl, SqL.of hplH, atI_nat (j := 0) (v := V.ref p) rfl, ?_⟩
        exact k p G H (Ext.refl sg) (by rw [show ([V0] : List WL).flatten = V0 by simp]; exact hp.up)
      · rintro ⟨b', A', eb, eA, hA1, hm⟩
        cases eb; cases eA
        have := hone hm hA1
        exact dIn c2 (by rw [rfs_length, this]; rfl)
    · rintro ⟨b', A', rfl, _⟩
      exact dIn c1 rfl
end
end PW
end
section
set_option Elab.async false
set_option linter.all false
set_option maxRecDepth 100000
namespace PW
open PySem L2 Mth
theorem rep_rfs (m : Nat) (a : Addr) : (List.replicate m [V.ref a]).flatten = rfs (List.replicate m a) := by
  unfold rfs
  induction m with
  | zero => rfl
  | succ m ih => rw [List.replicate_succ, List.flatten_cons, ih, List.replicate_succ, List.map_cons]; rfl
theorem sl_one (w : Sg05.Bytes) {f m : Nat} (h0 : m = 0 ∨ f + m ≤ 1) : sl [w] f m = List.replicate m w := by
  rcases h0 with h0 | h
  · rw [h0, sl_zero]; rfl
  match f, m, h with
  | 0, 0, _ => rfl
  | 0, 1, _ => rfl
  | 1, 0, _ => rfl
  | 0, m + 2, h => omega
  | 1, m + 1, h => omega
  | f + 2, m, h => omega
theorem all_le {m : Nat} (h : m ≤ Sg05.ALL) : (m : Int) ≤ 18446744073709551616 := by
  have : Sg05.ALL = 18446744073709551615 := rfl
  omega
section
variable {P : Program} {w : World} {K : PySem.W.Frag} {mg : Str → Option Value} {base : Heap} {t : Ad}
inductive spFrom (t : Ad) (d : Nat) (vs : List V) (H : Hp) (Q : VK) (E : XK) : Prop
  | mk (G : Hp) (a : Addr) (W : WL) (f m : Nat) : (vs = [.ref a, .int f, .int m]) → (Same G H) → (PcAt t G d a W) → (mx W ≤ 255) → (W.length ≤ Sg05.ALL) → ((m = 0 ∨ f + m ≤ W.length)) → (m ≤ 100000) → (∀ (r : Addr) (G' H' : Hp), Ext G H G' H' → WsAt G' r (sl W f m) → Q (.ref r) H') → spFrom t d vs H Q E
inductive spBranch (t : Ad) (d : Nat) (vs : List V) (H : Hp) (Q : VK) (E : XK) : Prop
  | mk (G : Hp) (b : Addr) (W : WL) (f m : Nat) : (vs = [.ref b, .int f, .int m]) → (Same G H) → (BrAt (PcAt t G d) t G b W) → (mx W ≤ 255) → (W.length ≤ Sg05.ALL) → (f + m ≤ W.length) → (0 < m) → (m ≤ 100000) → (∀ (r : Addr) (G' H' : Hp), Ext G H G' H' → WsAt G' r (sl W f m) → Q (.ref r) H') → spBranch t d vs H Q E
inductive spAround (t : Ad) (d : Nat) (vs : List V) (H : Hp) (Q : VK) (E : XK) : Prop
  | mk (G : Hp) (a : Addr) (W : WL) (f m : Nat) : (vs = [.ref a, .int f, .int m]) → (Same G H) → (PcAt t G d a W) → (mx W ≤ 255) → (W.length ≤ Sg05.ALL) → (m ≤ 100000) → (∀ (r : Addr) (G' H' : Hp), Ext G H G' H' → WsAt G' r (wrapW W f m) → Q (.ref r) H') → spAround t d vs H Q E
/-! ### words_from -/
abbrev nFr : List Str := ["piece", "first", "many", "words", "branch", "here"]
abbrev psFr : List Str := ["piece", "first", "many"]
abbrev psBr : List Str := ["branch", "first", "many"]
theorem scFr : FnScope nFr psFr (defScope sFrom) := ⟨rfl, rfl, rfl, by decide +kernel, rfl, by decide +kernel, by decide +kernel⟩
inductive FrI (G H : Hp) (a r : Addr) (Ws : List WL) (f m i : Nat) (σ : St) (H2 : Hp) : Prop
  | mk (v4 v5 : Option V) (G2 : Hp) (ts : List Addr) : (σ = [some (.ref a), some (.int ((f - ((Ws.take i).flatten).length : Nat) : Int)), some (.int m), some (.ref r), v4, v5]) → (Ext G H G2 H2) → (G2 r = none) → (H2 r = some (.lst (rfs ts))) → (All2 (TupAt G2) ts (sl (Ws.take i).flatten f m)) → FrI G H a r Ws f m i σ H2
theorem ok_from {d k : Nat} {f fB : Addr} {fd fdB : FuncData} (D : Df K mg "words_from" sFrom psFr f fd) (DB : Df K mg "branch_words" sBranch psBr fB fdB) (GB : FnOk P w K mg base CX0 k fB fdB psBr (spBranch t d)) (T : Txt K mg t) :
    FnOk P w K mg base CX0 (k + 1) f fd psFr (spFrom t (d + 1)) := by
  refine D.F.ok scFr (fun vs H Q E h => ?_) (fun cdv A outer s H vs Q E hr h => ?_)
  · obtain ⟨G, a, W, f, m, rfl, _⟩ := h
    rfl
  · obtain ⟨G, a, W, f, m, rfl, sg, hpc, hmx, hall, hfm, hm, k⟩ := h
    obtain ⟨dx, tw, bl, word, bs, hob, htw, hbl, hWne, hcase⟩ := id hpc
    have hobH := sg _ _ hob
    have hc := hcase hmx
    refine ⟨_, pss_cons (ps_if (pt_cmpR op_eq (pe_fld (pv 0) rfl) pe_int (nomark _)) (pss_one (ps_ret (pe_op op_rep (pe_lst (pa_cons (pe_fld (pv 0) rfl) pa_nil)) (pv 2)))) pss_nil)
      (pss_cons (ps_set (i := 3) scFr.nd rfl (Or.inl rfl) (pe_lst pa_nil))
      (pss_cons (ps_for PassesOwn.never rfl (pi_list (pe_fld (pv 0) rfl)) (pg_name (i := 4) scFr.nd rfl (Or.inl rfl))
        (pss_cons (ps_if (pt_cmpR op_eq (pe_callB call_len_seq rfl T.len PySem.boot_len (pa_cons (pv 3) pa_nil)) (pv 2) (nomark _)) (pss_one ps_break) pss_nil)
        (pss_one (ps_if (pt_cmpR op_ge (pv 1) (pe_fld (pv 4) rfl) (nomark _)) (pss_one (ps_aug (i := 1) scFr.nd rfl (Or.inl rfl) (pe_fld (pv 4) rfl) ip_sub))
          (pss_cons (ps_set (i := 5) scFr.nd rfl (Or.inl rfl) (pe_callB (call_min2 rfl) rfl T.min PyProof.Rows.boot_min (pa_cons (pe_op op_sub (pe_fld (pv 4) rfl) (pv 1)) (pa_cons (pe_op op_sub (pv 2) (pe_callB call_len_seq rfl T.len PySem.boot_len (pa_cons (pv 3) pa_nil))) pa_nil))))
          (pss_cons (ps_expr (pe_bm PySem.F.plainAttrs_list PySem.F.slot_list_extend PySem.F.type_list_extend mt_extend (pv 3) (pa_cons (pe_call GB hr rfl DB.m DB.F.kp DB.b .nil pass0 (pa_cons (pv 4) (pa_cons (pv 1) (pa_cons (pv 5) pa_nil)))) pa_nil)))
          (pss_one (ps_set (i := 1) scFr.nd rfl (Or.inl rfl) pe_int))))))))
      (pss_one (ps_ret (pv 3))))), ?_⟩
    refine ⟨_, rfl, a, t.cP, dx, _, _, rfl, hobH, T.clP, T.pT, pF_total _ _ _ _, rfl, _, rfl, ?_⟩
    refine ite2 (fun c => ?_) (fun c => ?_)
    · have h1 : W.length = 1 := cap_one_iff.mp (by have := dI c; omega)
      have hW := hc.1 h1
      subst hW
      refine ⟨_, rfl, a, t.cP, dx, _, _, rfl, hobH, T.clP, T.pW, pF_word _ _ _ _, (by show 1 ≤ sizeLine; decide), fun l hl => ?_⟩
      refine ⟨_, rfl, l, _, _, rfl, rfl, upd_same, by omega, by omega, ?_, fun p hp => ?_⟩
      · show 1 * (m : Int).toNat ≤ sizeLine
        exact sl16 (by omega)
      · have hfm : m = 0 ∨ f + m ≤ 1 := by rw [h1] at hfm; exact hfm
        have e := ((Ext.refl sg).new hl (.lst [.ref tw])).fix hp (.lst (rfs (List.replicate m tw)))
        have et : ((m : Int)).toNat = m := by omega
        show Q (.ref p) (upd (upd H l (.lst [.ref tw])) p (.lst (List.replicate (m : Int).toNat [V.ref tw]).flatten))
        rw [et, rep_rfs]
        refine k p _ _ e ⟨_, upd_same, ?_⟩
        rw [sl_one word hfm]
        exact All2.rep (htw.same e.gg) m
    · have h1 : W.length ≠ 1 := fun z => dIn c (by rw [z]; rfl)
      obtain ⟨Ws, hWs, hbr⟩ := hc.2 h1
      have hblH := sg _ _ hbl
      have hcap : ∀ A ∈ Ws, cap A.length = A.length := fun A hA => cap_of (by have := flat_le hA; rw [hWs] at this; omega)
      refine ⟨(by show 0 ≤ sizeLine; decide), fun r hr0 => ?_⟩
      have fin : ∀ (v1 v4 v5 : Option V) (G2 H2 : Hp) (ts : List Addr), Ext G H G2 H2 → G2 r = none → H2 r = some (.lst (rfs ts)) → All2 (TupAt G2) ts (sl W f m) →
          tRet (tVar 3) { nx := fun _ H' => Q .non H', rt := Q } [some (.ref a), v1, some (.int m), some (.ref r), v4, v5] H2 := fun v1 v4 v5 G2 H2 ts e2 g2 h2 q2 =>
        ⟨_, rfl, k r _ _ (e2.freeze hr0 g2 h2) ⟨ts, upd_same, q2.imp fun _ _ z => z.same (same_upd g2 _)⟩⟩
      refine ⟨_, rfl, a, t.cP, dx, _, _, rfl, same_upd hr0 _ _ _ hobH, T.clP, T.pB, pF_branches _ _ _ _, bl, rfl, ⟨_, SqL.of (same_upd hr0 _ _ _ hblH)⟩, for_list (K := K) (a := bl) (xs := rfs bs) (FrI G H a r Ws f m)
        ⟨none, none, G, [], rfl, (Ext.refl sg).new hr0 _, sg.free hr0, upd_same, by rw [List.take_zero]; unfold sl; simp; exact All2.nil⟩ (fun i σ H2 _ h => by obtain ⟨_, _, _, _, _, e, _⟩ := h; exact e.hh.seq (SqL.of hblH)) ?_ ?_⟩
      · rintro i y σ H2 hi ⟨v4, v5, G2, ts, rfl, e2, hg2, hr2, hts⟩
        obtain ⟨b, hb, rfl⟩ := rfs_get hi
        obtain ⟨A, hAi, hpb⟩ := hbr.get hb
        have hpb2 : BrAt (PcAt t G2 d) t G2 b A := hpb.same e2.gg
        obtain ⟨dxb, pl, ps, hobb, _⟩ := id hpb2
        have hobb2 := e2.gh _ _ hobb
        have hAW : A ∈ Ws := List.mem_of_getElem? hAi
        have hA0 := pos_of_ne hpb.ne
        have hAle : A.length ≤ W.length := by rw [← hWs]; exact flat_le hAW
        rw [hcap A hAW] at hobb2
        have htl : ts.length = (sl (Ws.take i).flatten f m).length := hts.1
        refine ⟨_, rfl, r, _, rfl, .inl (SqL.of hr2), _, rfl, rfl, _, rfl, ?_⟩
        refine ite2 (fun c1 => ?_) (fun c1 => ?_)
        · have hlm : (sl (Ws.take i).flatten f m).length = m := by have := dI c1; rw [rfs_length, htl] at this; omega
          refine fin _ _ _ G2 H2 ts e2 hg2 hr2 ?_
          rw [← hWs, flat_split Ws i, sl_done hlm]
          exact hts
        · have hlm : (sl (Ws.take i).flatten f m).length ≠ m := fun z => dIn c1 (by rw [rfs_length, htl, z])
          have hlle : (sl (Ws.take i).flatten f m).length ≤ m := by rw [sl_len]; omega
          refine ⟨_, rfl, _, rfl, b, t.cB, dxb, _, _, rfl, hobb2, T.clB, T.bT, bF_total _ _ _, _, _, rfl, rfl, _, rfl, ?_⟩
          refine ite2 (fun c2 => ?_) (fun c2 => ?_)
          · have hge : A.length ≤ f - (Ws.take i).flatten.length := by have := dT c2; omega
            obtain ⟨q1, q2⟩ := sl_skip (m := m) hge hA0
            refine ⟨_, rfl, _, rfl, b, t.cB, dxb, _, _, rfl, hobb2, T.clB, T.bT, bF_total _ _ _, _, _, rfl, rfl, ?_⟩
            refine ⟨some (V.ref b), v5, G2, ts, ?_, e2, hg2, hr2, ?_⟩
            · show [some (V.ref a), some (V.int (((f - (Ws.take i).flatten.length : Nat) : Int) - (A.length : Int))), _, _, _, _] = _
              rw [flat_take hAi, q2]
              have e : ((f - (Ws.take i).flatten.length : Nat) : Int) - (A.length : Int) = ((f - (Ws.take i).flatten.length - A.length : Nat) : Int) := by omega
              rw [e]
            · rw [flat_take hAi, q1]; exact hts
          · have hlt : f - (Ws.take i).flatten.length < A.length := by have := dF' c2; omega
            obtain ⟨q1, q2⟩ := sl_more (m := m) hlt hlm
            refine ⟨_, rfl, b, t.cB, dxb, _, _, rfl, hobb2, T.clB, T.bT, bF_total _ _ _, _, rfl, _, _, rfl, rfl, _, rfl, _, rfl, r, _, rfl, .inl (SqL.of hr2), _, _, rfl, rfl, _, _, rfl, ?_⟩
            have eh : (if (m : Int) - ((rfs ts).length : Int) < (A.length : Int) - ((f - (Ws.take i).flatten.length : Nat) : Int) then (m : Int) - ((rfs ts).length : Int) else (A.length : Int) - ((f - (Ws.take i).flatten.length : Nat) : Int)) =
                ((min (A.length - (f - (Ws.take i).flatten.length)) (m - (sl (Ws.take i).flatten f m).length) : Nat) : Int) := by
              rw [rfs_length, htl]
              split <;> omega
            rw [eh]
            refine ⟨_, rfl, .inl ⟨rfl, _, SqL.of hr2⟩, _, rfl, _, rfl, _, rfl, G2, b, A, _, _, rfl, e2.gh, hpb2, Nat.le_trans (mx_flatten_ge hAW) (by rw [hWs]; exact hmx), by omega, by omega, by omega, by omega, fun r3 G3 H3 e3 h3 => ?_⟩
            obtain ⟨us, hu1, hu2⟩ := h3
            have hr3 : H3 r = some (.lst (rfs ts)) := e3.hh _ _ hr2
            have hg3 : G3 r = none := e3.keepN hr2 hg2
            have hul : us.length ≤ m := by rw [hu2.1, sl_len]; omega
            refine ⟨r, r3, _, _, rfl, rfl, hr3, e3.gh _ _ hu1, ?_, ?_⟩
            · rw [rfs_length, rfs_length, htl]; exact sl16 (by omega)
            · refine ⟨some (V.ref b), some (V.int ((min (A.length - (f - (Ws.take i).flatten.length)) (m - (sl (Ws.take i).flatten f m).length) : Nat) : Int)), G3, ts ++ us, ?_, (e2.trans e3).mut hr0 hg3 _, hg3, by rw [upd_same, rfs_append], ?_⟩
              · rw [flat_take hAi, q2]; rfl
              · rw [flat_take hAi, q1]
                exact (hts.imp fun _ _ z => z.same e3.gg).append hu2
      · rintro σ H2 ⟨v4, v5, G2, ts, rfl, e2, hg2, hr2, hts⟩
        rw [rfs_length, hbr.1, List.take_length, hWs] at hts
        exact fin _ _ _ G2 H2 ts e2 hg2 hr2 hts
end
end PW
end
section
set_option Elab.async false
set_option linter.all false
set_option maxRecDepth 100000
namespace PW
open PySem L2 Mth
section
variable {P : Program} {w : World} {K : PySem.W.Frag} {mg : Str → Option Value} {base : Heap} {t : Ad}
/-! ### repeated -/
abbrev psRp : List Str := ["piece", "least", "most"]
abbrev nRp : List Str := ["piece", "least", "most", "times"]
def repW (W : WL) (m n : Nat) : List WL := (List.range (n + 1 - m)).map fun i => prodW (List.replicate (m + i) W)
inductive spRepeat (t : Ad) (vs : List V) (H : Hp) (Q : VK) (E : XK) : Prop
  | mk (G : Hp) (a : Addr) (W : WL) (d m n : Nat) : (vs = [.ref a, .int m, .int n]) → (Same G H) → (PcAt t G d a W) → (m ≤ n) → (n ≤ 9) → (∀ (c : Addr) (G' H' : Hp), Ext G H G' H' → PcAt t G' (d + 1) c (repW W m n).flatten → Q (.ref c) H') → spRepeat t vs H Q E
theorem scRp : FnScope nRp psRp (defScope sRepeat) := ⟨rfl, rfl, rfl, by decide +kernel, rfl, by decide +kernel, by decide +kernel⟩
theorem ok_repeat {f fC fA : Addr} {fd fdC fdA : FuncData} (D : Df K mg "repeated" sRepeat psRp f fd) (DC : Df K mg "chained" sChained ["pieces"] fC fdC) (GC : FnOk P w K mg base CX0 5 fC fdC ["pieces"] (spChained t))
    (DA : Df K mg "alternatives" sAlter ["branches"] fA fdA) (GA : FnOk P w K mg base CX0 3 fA fdA ["branches"] (spAlter t)) (T : Txt K mg t) : FnOk P w K mg base CX0 6 f fd psRp (spRepeat t) := by
  refine D.F.ok scRp (fun vs H Q E h => ?_) (fun cdv A outer s H vs Q E hr h => ?_)
  · obtain ⟨G, a, W, d, m, n, rfl, _⟩ := h
    rfl
  · obtain ⟨G, a, W, d, m, n, rfl, sg, hpc, hmn, hn9, k⟩ := h
    have hr3 : Room 3 _ := hr.mono (by decide)
    have hd1 : 1 ≤ d := by
      cases d with
      | zero => exact hpc.elim
      | succ d => omega
    refine ⟨_, pss_one (ps_ret (pe_call GA hr3 rfl DA.m DA.F.kp DA.b .nil pass0 (pa_cons (pe_lc (own := [("times", 3)]) rfl scRp.nd (pi_rangeB rfl T.range (pa_cons (pv 1) (pa_cons (pe_op op_add (pv 2) pe_int) pa_nil))) (blkOk_by (by kernel_rfl)) (fun _ _ _ _ _ => pg_name (i := 3) scRp.nd rfl (Or.inl rfl)) (fun _ _ _ _ _ => pts_nil)
      (fun _ _ _ _ _ => pe_call GC hr rfl DC.m DC.F.kp DC.b .nil pass0 (pa_cons (pe_op op_rep (pe_lst (pa_cons (pv 0) pa_nil)) (pv 3)) pa_nil))) pa_nil))), ?_⟩
    refine ⟨_, rfl, _, rfl, _, _, rfl, rfl, _, _, rfl, fun L hL => ?_⟩
    rw [show ((n : Int) + 1 - (m : Int)).toNat = n + 1 - m by omega]
    refine lc_range (lo := (m : Int)) (n := n + 1 - m) (fun q H4 => ∃ (G4 : Hp) (bs : List Addr), Ext G H G4 H4 ∧ G4 L = none ∧ H4 L = some (.lst (rfs bs)) ∧ bs.length = q ∧ All2 (BrAt (PcAt t G4 d) t G4) bs ((List.range q).map fun i => prodW (List.replicate (m + i) W)))
      ⟨G, [], (Ext.refl sg).new hL _, sg.free hL, upd_same, rfl, All2.nil⟩ ?_ ?_
    · rintro q H4 hq ⟨G4, bs, e4, hg4, hL4, hbl, hbs⟩
      refine ⟨rfl, ?_⟩
      refine ⟨_, rfl, (by show 1 ≤ sizeLine; decide), fun l0 hl0 => ?_⟩
      refine ⟨_, rfl, l0, _, _, rfl, rfl, upd_same, by omega, by omega, ?_, fun l1 hl1 => ?_⟩
      · show 1 * ((m : Int) + (q : Int)).toNat ≤ sizeLine
        exact sl16 (by omega)
      · have et : ((m : Int) + (q : Int)).toNat = m + q := by omega
        rw [et, rep_rfs]
        have e5 := (e4.new hl0 (.lst [.ref a])).new hl1 (.lst (rfs (List.replicate (m + q) a)))
        refine ⟨G4, l1, List.replicate (m + q) a, List.replicate (m + q) W, d, rfl, e5.gh, upd_same, by rw [List.length_replicate]; omega, hd1, All2.rep (hpc.same e4.gg) _, fun b G6 H6 e6 hb => ?_⟩
        have hL5 : upd (upd H4 l0 (.lst [.ref a])) l1 (.lst (rfs (List.replicate (m + q) a))) L = some (.lst (rfs bs)) := by
          have z1 : L ≠ l0 := ne_of_none hL4 hl0
          have z2 : L ≠ l1 := ne_of_none (H := upd H4 l0 (.lst [.ref a])) (by rw [upd_ne z1]; exact hL4) hl1
          rw [upd_ne z2, upd_ne z1]; exact hL4
        have hg6 : G6 L = none := e6.keepN hL5 hg4
        refine ⟨rfs bs, e6.hh _ _ hL5, by rw [rfs_length]; exact sl16' (by omega), G6, bs ++ [b], (e5.trans e6).mut hL hg6 _, hg6, by rw [upd_same, rfs_append]; rfl, by rw [List.length_append, hbl]; rfl, ?_⟩
        rw [List.range_succ, List.map_append]
        exact (hbs.imp fun _ _ z => z.same e6.gg).append (All2.one hb)
    · rintro H4 ⟨G4, bs, e4, hg4, hL4, hbl, hbs⟩
      have e5 := e4.freeze hL hg4 hL4
      refine ⟨_, L, bs, repW W m n, d, rfl, e5.gh, upd_same, by omega, fun z => by rw [z] at hbl; simp at hbl; omega, hbs.imp fun _ _ z => z.same (same_upd hg4 _), fun c G' H' e hc => k c G' H' (e5.trans e) hc⟩
/-! ### fits -/
inductive spFits (t : Ad) (vs : List V) (H : Hp) (Q : VK) (E : XK) : Prop
  | mk (G : Hp) (a : Addr) (W : WL) (d : Nat) : (vs = [.ref a]) → (Same G H) → (PcAt t G d a W) → (Q (.bl (decide (W.length ≤ Sg05.ALL ∧ mx W ≤ 255))) H) → spFits t vs H Q E
theorem scFt : FnScope ["piece"] ["piece"] (defScope sFits) := ⟨rfl, rfl, rfl, by decide +kernel, rfl, by decide +kernel, by decide +kernel⟩
theorem ok_fits {f : Addr} {fd : FuncData} (D : Df K mg "fits" sFits ["piece"] f fd) (T : Txt K mg t) : FnOk P w K mg base CX0 1 f fd ["piece"] (spFits t) := by
  refine D.F.ok scFt (fun vs H Q E h => ?_) (fun cdv A outer s H vs Q E hr h => ?_)
  · obtain ⟨G, a, W, d, rfl, _⟩ := h
    rfl
  · obtain ⟨G, a, W, d, rfl, sg, hpc, k⟩ := h
    obtain ⟨dx, tw, bl, hob⟩ := hpc.ob
    have hobH := sg _ _ hob
    refine ⟨_, pss_one (ps_ret (pe_and (pe_cmpR op_le (pe_fld (pv 0) rfl) (pgi T.mWords) (nomark _)) (pe_one (pe_cmpR op_le (pe_fld (pv 0) rfl) (pgi T.mLet) (nomark _))))), ?_⟩
    refine ⟨_, rfl, a, t.cP, dx, _, _, rfl, hobH, T.clP, T.pT, pF_total _ _ _ _, _, _, rfl, rfl, _, rfl, ?_⟩
    have hA : Sg05.ALL = 18446744073709551615 := rfl
    refine ite2 (fun c => ?_) (fun c => ?_)
    · have c1 : W.length ≤ Sg05.ALL := cap_le_iff.mp (by have := dT c; omega)
      refine ⟨_, rfl, a, t.cP, dx, _, _, rfl, hobH, T.clP, T.pL, pF_longest _ _ _ _, _, _, rfl, rfl, ?_⟩
      have e : decide (((cap2 (mx W) : Nat) : Int) ≤ 255) = decide (W.length ≤ Sg05.ALL ∧ mx W ≤ 255) := by
        refine decide_eq_decide.mpr ⟨fun z => ⟨c1, ?_⟩, fun z => ?_⟩
        · have := cap2_lt_iff (n := mx W); omega
        · have := cap2_lt_iff (n := mx W); omega
      show Q (.bl (decide (((cap2 (mx W) : Nat) : Int) ≤ 255))) H
      rw [e]; exact k
    · have c1 : ¬ W.length ≤ Sg05.ALL := fun z => dF' c (by have := cap_le_iff.mpr z; omega)
      have e : decide (W.length ≤ Sg05.ALL ∧ mx W ≤ 255) = false := decide_eq_false fun z => c1 z.1
      rw [e] at k
      exact k
end
end PW
end
section
set_option Elab.async false
set_option linter.all false
set_option maxRecDepth 100000
namespace PW
open PySem L2 Mth
section
variable {P : Program} {w : World} {K : PySem.W.Frag} {mg : Str → Option Value} {base : Heap} {t : Ad}
/-! ### branch_words -/
abbrev nBw : List Str := ["branch", "first", "many", "words", "behind", "piece", "size", "low", "high", "ends", "starts", "passed", "number"]
abbrev psAr : List Str := ["piece", "first", "many"]
theorem scBw : FnScope nBw psBr (defScope sBranch) := ⟨rfl, rfl, rfl, by decide +kernel, rfl, by decide +kernel, by decide +kernel⟩
inductive BwI (G H : Hp) (b : Addr) (Ws : List WL) (f m i : Nat) (σ : St) (H2 : Hp) : Prop
  | mk (v5 v6 v7 v8 v9 v10 v11 v12 : Option V) (G2 : Hp) (r : Addr) (ts : List Addr) : (σ = [some (.ref b), some (.int f), some (.int m), some (.ref r), some (.int (beh Ws i : Nat)), v5, v6, v7, v8, v9, v10, v11, v12]) → (Ext G H G2 H2) → (G2 r = some (.lst (rfs ts))) → (All2 (TupAt G2) ts (sl (prodW (Ws.take i)) (f / beh Ws i) ((f + m - 1) / beh Ws i - f / beh Ws i + 1))) → BwI G H b Ws f m i σ H2
theorem bw_line {sc : Scope} : True := trivial
theorem ok_branch {d k : Nat} {f fA : Addr} {fd fdA : FuncData} (D : Df K mg "branch_words" sBranch psBr f fd) (DA : Df K mg "words_around" sAround psAr fA fdA) (GA : FnOk P w K mg base CX0 k fA fdA psAr (spAround t d)) (T : Txt K mg t) :
    FnOk P w K mg base CX0 (k + 1) f fd psBr (spBranch t d) := by
  refine D.F.ok scBw (fun vs H Q E h => ?_) (fun cdv A outer s H vs Q E hr h => ?_)
  · obtain ⟨G, b, W, f, m, rfl, _⟩ := h
    rfl
  · obtain ⟨G, b, W, f, m, rfl, sg, hbr, hmx, hall, hfm, hm0, hm, k⟩ := h
    obtain ⟨dx, pl, ps, hob, hpl, hpn, hWne, _, hpcs, _⟩ := id hbr
    obtain ⟨Ws, hWs, hps, hne⟩ := hpcs hmx
    subst hWs
    have hobH := sg _ _ hob
    have hplH := sg _ _ hpl
    rw [cap_of hall] at hobH
    refine ⟨_, pss_cons (ps_set (i := 3) scBw.nd rfl (Or.inl rfl) (pe_lst (pa_cons (pe_tup pa_nil) pa_nil)))
      (pss_cons (ps_set (i := 4) scBw.nd rfl (Or.inl rfl) (pe_fld (pv 0) rfl))
      (pss_cons (ps_for PassesOwn.never rfl (pi_list (pe_fld (pv 0) rfl)) (pg_name (i := 5) scBw.nd rfl (Or.inl rfl))
        (pss_cons (ps_set (i := 6) scBw.nd rfl (Or.inr rfl) (pe_fld (pv 5) rfl))
        (pss_cons (ps_set (i := 4) scBw.nd rfl (Or.inl rfl) (pe_op op_divN (pv 4) (pv 6)))
        (pss_cons (ps_set (i := 7) scBw.nd rfl (Or.inr rfl) (pe_op op_divN (pv 1) (pv 4)))
        (pss_cons (ps_set (i := 8) scBw.nd rfl (Or.inl rfl) (pe_op op_divN (pe_op op_subN (pe_op op_addN (pv 1) (pv 2)) pe_int) (pv 4)))
        (pss_cons (ps_set (i := 9) scBw.nd rfl (Or.inr rfl) (pe_call GA hr rfl DA.m DA.F.kp DA.b .nil pass0 (pa_cons (pv 5) (pa_cons (pv 7) (pa_cons (pe_op op_addN (pe_op op_subN (pv 8) (pv 7)) pe_int) pa_nil)))))
        (pss_cons (ps_set (i := 10) scBw.nd rfl (Or.inr rfl) (pv 3))
        (pss_cons (ps_set (i := 11) scBw.nd rfl (Or.inr rfl) (pe_op op_divN (pv 7) (pv 6)))
        (pss_one (ps_setLc (i := 3) (te := tOp rCatA (tOp (rIxL K) (tVar 10) (tOp rSubN (tOp rDivN (tVar 12) (tVar 6)) (tVar 11))) (tOp (rIxL K) (tVar 9) (tOp rSubN (tVar 12) (tVar 7)))) (own := [("number", 12)]) rfl scBw.nd rfl rfl (sw_true rfl rfl rfl rfl) (pi_rangeN rfl T.range (pa_cons (pv 7) (pa_cons (pe_op op_addN (pv 8) pe_int) pa_nil))) (blkOk_by (by kernel_rfl)) (fun _ _ _ _ _ => pg_name (i := 12) scBw.nd rfl (Or.inl rfl)) (fun _ _ _ _ _ => pts_nil)
          (fun _ _ _ _ _ => pe_op op_catA (pe_ix ix_list (pv 10) (pe_op op_subN (pe_op op_divN (pv 12) (pv 6)) (pv 11)) (fun _ _ => rfl)) (pe_ix ix_list (pv 9) (pe_op op_subN (pv 12) (pv 7)) (fun _ _ => rfl)))))))))))))
      (pss_one (ps_ret (pv 3))))), ?_⟩
    -- words = [()]
    refine ⟨(by show 0 ≤ sizeLine; decide), fun tw htw => ⟨(by show 1 ≤ sizeLine; decide), fun r0 hr0 => ?_⟩⟩
    have e1 := ((Ext.refl sg).fix htw (.tup [])).fix hr0 (.lst [.ref tw])
    refine ⟨_, rfl, b, t.cB, dx, _, _, rfl, e1.hh _ _ hobH, T.clB, T.bT, bF_total _ _ _, ?_⟩
    have hb0 : beh Ws 0 = (prodW Ws).length := by unfold beh; rw [List.drop_zero]
    obtain ⟨z1, z2⟩ := br_start hfm hm0
    refine ⟨_, rfl, b, t.cB, dx, _, _, rfl, e1.hh _ _ hobH, T.clB, T.bP, bF_pieces _ _ _, pl, rfl, ⟨_, SqL.of (e1.hh _ _ hplH)⟩, for_list (K := K) (a := pl) (xs := rfs ps) (BwI G H b Ws f m)
      ⟨none, none, none, none, none, none, none, none, _, r0, [tw], by rw [hb0]; rfl, e1, upd_same, ?_⟩ (fun i σ H2 _ h => by obtain ⟨_, _, _, _, _, _, _, _, _, _, _, _, e, _⟩ := h; exact e.hh.seq (SqL.of hplH)) ?_ ?_⟩
    · rw [z1, z2]
      refine All2.one (b := []) ?_
      show upd (upd G tw (.tup [])) r0 _ tw = _
      rw [upd_ne (ne_of_none (H := upd H tw (.tup [])) upd_same hr0), upd_same]
      rfl
    · rintro i y σ H2 hi ⟨v5, v6, v7, v8, v9, v10, v11, v12, G2, r, ts, rfl, e2, hr2, hts⟩
      obtain ⟨a, ha, rfl⟩ := rfs_get hi
      obtain ⟨A, hAi, hpa⟩ := hps.get ha
      have hpa2 : PcAt t G2 d a A := hpa.same e2.gg
      obtain ⟨dxa, twa, bla, hoba⟩ := hpa2.ob
      have hAW : A ∈ Ws := List.mem_of_getElem? hAi
      have hAle : A.length ≤ (prodW Ws).length := len_in hne hAW
      have hA0 := pos_of_ne hpa.ne
      have hoba2 := e2.gh _ _ hoba
      rw [cap_of (Nat.le_trans hAle hall)] at hoba2
      have B := brTurn hAi hne hfm hm0
      have hpos := B.pos
      have hble : beh Ws (i + 1) ≤ (prodW Ws).length := by
        rw [beh_all Ws (i + 1)]
        exact Nat.le_mul_of_pos_left _ (prod_pos fun C hC => hne C (List.mem_of_mem_take hC))
      have lA : A.length ≤ 18446744073709551616 := by have := all_le (Nat.le_trans hAle hall); omega
      have lb : beh Ws (i + 1) ≤ 18446744073709551616 := by have := all_le (Nat.le_trans hble hall); omega
      -- size, behind, low, high
      refine ⟨_, rfl, a, t.cP, dxa, _, _, rfl, hoba2, T.clP, T.pT, pF_total _ _ _ _, _, rfl, _, rfl, _, _, rfl, rfl, hA0, lA, fun bb hbb => ?_⟩
      rw [B.beh] at hbb
      subst hbb
      refine ⟨_, rfl, _, rfl, _, _, rfl, rfl, hpos, lb, fun lo hlo => ?_⟩
      refine ⟨_, rfl, _, rfl, f, m, rfl, rfl, fun s1 hs1 => ⟨s1, 1, rfl, rfl, by omega, fun s2 hs2 => ⟨_, rfl, s2, _, rfl, rfl, hpos, lb, fun hi' hhi => ?_⟩⟩⟩
      rw [hs2, hs1] at hhi
      have hle : lo ≤ hi' := by rw [hlo, hhi]; exact B.le
      have hfew : hi' - lo < m := by rw [hlo, hhi]; exact B.few
      -- ends
      refine ⟨_, rfl, _, rfl, _, rfl, _, rfl, _, _, rfl, rfl, hle, fun d1 hd1 => ⟨d1, 1, rfl, rfl, fun d2 hd2 => ?_⟩⟩
      refine ⟨G2, a, A, lo, d2, rfl, e2.gh, hpa2, Nat.le_trans (mx_in hne hAW) hmx, Nat.le_trans hAle hall, by omega, fun en G3 H3 e3 hen => ?_⟩
      have hd2' : d2 = hi' - lo + 1 := by omega
      subst hd2'
      obtain ⟨es, hes1, hes2⟩ := hen
      -- starts, passed
      refine ⟨_, rfl, _, rfl, _, rfl, _, _, rfl, rfl, hA0, lA, fun pa hpa' => ?_⟩
      rw [hlo, B.lo] at hpa'
      have hr3 : G3 r = some (.lst (rfs ts)) := e3.gg _ _ hr2
      have hts3 := hts.imp fun _ _ z => TupAt.same e3.gg z
      -- words
      refine ⟨_, rfl, _, rfl, hi', 1, rfl, rfl, fun h1 hh1 => ⟨lo, h1, rfl, fun n hn L hL => ?_⟩⟩
      have hn' : n = hi' - lo + 1 := by omega
      subst hn'
      refine lc_range (lo := (lo : Int)) (n := hi' - lo + 1) (fun q H4 => ∃ (G4 : Hp) (us : List Addr), Ext G3 H3 G4 H4 ∧ G4 L = none ∧ H4 L = some (.lst (rfs us)) ∧ us.length = q ∧ All2 (TupAt G4) us (sl (prodW (Ws.take (i + 1))) lo q))
        ⟨G3, [], (Ext.refl e3.gh).new hL _, e3.gh.free hL, upd_same, rfl, by rw [sl_zero]; exact All2.nil⟩ ?_ ?_
      · rintro q H4 hq ⟨G4, us, e4, hg4, hL4, hul, hus⟩
        refine ⟨rfl, ?_⟩
        have hk1 : lo ≤ lo + q := by omega
        obtain ⟨x, y, w1, w2, w3, w4⟩ := B.at_ (lo + q) (by omega) (by omega)
        obtain ⟨tx, htx, hx⟩ := hts3.get' w2
        obtain ⟨y', hy1, hy2⟩ := wrap_get (a := lo) (n := hi' - lo + 1) (t := q) hq hpa.ne
        rw [w3] at hy1
        cases hy1
        obtain ⟨ty, hty, hy⟩ := hes2.get' hy2
        have hxy : (x ++ y).length ≤ 255 := by
          have z := mx_mem (List.mem_of_getElem? w4)
          exact Nat.le_trans z (Nat.le_trans (mx_take hne (i + 1)) hmx)
        refine ⟨_, rfl, _, rfl, _, rfl, lo + q, A.length, rfl, rfl, hA0, lA, fun q1 hq1 => ⟨_, rfl, q1, pa, rfl, rfl, by omega, fun q2 hq2 => ⟨r, _, _, _, rfl, rfl, SqL.of (e4.hh _ _ (e3.gh _ _ hr3)), atI_nat (rfs_at (by rw [hq2, hq1, hpa']; exact htx)),
          _, rfl, _, rfl, _, rfl, lo + q, lo, rfl, rfl, by omega, fun q3 hq3 => ⟨en, _, _, _, rfl, rfl, SqL.of (e4.hh _ _ (e3.gh _ _ hes1)), atI_nat (rfs_at (by rw [hq3, Nat.add_sub_cancel_left]; exact hty)), G4, tx, ty, _, _, rfl, rfl, e4.gh, hx.same e4.gg, hy.same e4.gg, ?_, fun p G5 H5 e5 hp5 => ?_⟩⟩⟩⟩
        · rw [bv_length, bv_length]
          rw [List.length_append] at hxy
          exact sl16 (by omega)
        · have hg5 : G5 L = none := e5.keepN hL4 hg4
          refine ⟨rfs us, e5.hh _ _ hL4, by rw [rfs_length]; exact sl16' (by omega), G5, us ++ [p], (e4.trans e5).mut hL hg5 _, hg5, by rw [upd_same, rfs_append]; rfl, by rw [List.length_append, hul]; rfl, ?_⟩
          rw [sl_snoc w4]
          refine (hus.imp fun _ _ z => z.same e5.gg).snoc ?_
          unfold TupAt
          rw [hp5, bv_append]
      · rintro H4 ⟨G4, us, e4, hg4, hL4, hul, hus⟩
        refine ⟨_, _, _, _, _, _, _, _, upd G4 L (.lst (rfs us)), L, us, rfl, (e2.trans e3).trans (e4.freeze hL hg4 hL4), upd_same, ?_⟩
        rw [← hlo, ← hhi]
        exact hus.imp fun _ _ z => z.same (same_upd hg4 _)
    · rintro σ H2 ⟨v5, v6, v7, v8, v9, v10, v11, v12, G2, r, ts, rfl, e2, hr2, hts⟩
      obtain ⟨q1, q2⟩ := br_end (Ws := Ws) (i := (rfs ps).length) (by rw [rfs_length, hps.1]; exact Nat.le_refl _)
      rw [q1, q2, Nat.div_one, Nat.div_one, show f + m - 1 - f + 1 = m by omega] at hts
      exact ⟨_, rfl, k r G2 H2 e2 ⟨ts, hr2, hts⟩⟩
/-! ### words_around -/
abbrev nAr : List Str := ["piece", "first", "many", "start", "left", "more", "again", "number"]
theorem scAr : FnScope nAr psAr (defScope sAround) := ⟨rfl, rfl, rfl, by decide +kernel, rfl, by decide +kernel, by decide +kernel⟩
theorem ok_around {d k : Nat} {f fF : Addr} {fd fdF : FuncData} (D : Df K mg "words_around" sAround psAr f fd) (DF : Df K mg "words_from" sFrom psFr fF fdF) (GF : FnOk P w K mg base CX0 k fF fdF psFr (spFrom t d)) (T : Txt K mg t) :
    FnOk P w K mg base CX0 (k + 1) f fd psAr (spAround t d) := by
  refine D.F.ok scAr (fun vs H Q E h => ?_) (fun cdv A outer s H vs Q E hr h => ?_)
  · obtain ⟨G, a, W, f, m, rfl, _⟩ := h
    rfl
  · obtain ⟨G, a, W, f, m, rfl, sg, hpc, hmx, hall, hm, k⟩ := h
    obtain ⟨dx, tw, bl, hob⟩ := hpc.ob
    have hobH := sg _ _ hob
    rw [cap_of hall] at hobH
    have hW0 := pos_of_ne hpc.ne
    have hmod : f % W.length < W.length := Nat.mod_lt _ hW0
    have lW : W.length ≤ 18446744073709551616 := by have := all_le hall; omega
    refine ⟨_, pss_cons (ps_set (i := 3) scAr.nd rfl (Or.inl rfl) (pe_op op_modN2 (pv 1) (pe_fld (pv 0) rfl)))
      (pss_cons (ps_set (i := 4) scAr.nd rfl (Or.inl rfl) (pe_op op_subN (pe_fld (pv 0) rfl) (pv 3)))
      (pss_cons (ps_if (pt_cmpR op_le (pv 2) (pv 4) (nomark _)) (pss_one (ps_ret (pe_call GF hr rfl DF.m DF.F.kp DF.b .nil pass0 (pa_cons (pv 0) (pa_cons (pv 3) (pa_cons (pv 2) pa_nil)))))) pss_nil)
      (pss_cons (ps_set (i := 5) scAr.nd rfl (Or.inl rfl) (pe_op op_subN (pv 2) (pv 4)))
      (pss_cons (ps_set (i := 6) scAr.nd rfl (Or.inr rfl) (pe_call GF hr rfl DF.m DF.F.kp DF.b .nil pass0 (pa_cons (pv 0) (pa_cons pe_int (pa_cons (pe_callB (call_minN rfl) rfl T.min PyProof.Rows.boot_min (pa_cons (pv 5) (pa_cons (pe_fld (pv 0) rfl) pa_nil))) pa_nil)))))
      (pss_one (ps_ret (pe_op op_cat (pe_call GF hr rfl DF.m DF.F.kp DF.b .nil pass0 (pa_cons (pv 0) (pa_cons (pv 3) (pa_cons (pv 4) pa_nil))))
        (pe_lc (te := tOp (rIxL K) (tVar 6) (tOp rModN (tVar 7) (tCB (rLen K) (tCons (tVar 6) tNil)))) (own := [("number", 7)]) rfl scAr.nd (pi_range1 rfl T.range (pa_cons (pv 5) pa_nil)) (blkOk_by (by kernel_rfl)) (fun _ _ _ _ _ => pg_name (i := 7) scAr.nd rfl (Or.inl rfl)) (fun _ _ _ _ _ => pts_nil)
          (fun _ _ _ _ _ => pe_ix ix_list (pv 6) (pe_op op_modN2 (pv 7) (pe_callB call_len_seq rfl T.len PySem.boot_len (pa_cons (pv 6) pa_nil))) (fun _ _ => rfl)))))))))), ?_⟩
    refine ⟨_, rfl, _, rfl, a, t.cP, dx, _, _, rfl, hobH, T.clP, T.pT, pF_total _ _ _ _, f, W.length, rfl, rfl, hW0, fun st hst => ?_⟩
    subst hst
    refine ⟨_, rfl, a, t.cP, dx, _, _, rfl, hobH, T.clP, T.pT, pF_total _ _ _ _, _, rfl, W.length, f % W.length, rfl, rfl, by omega, fun lf hlf => ?_⟩
    refine ⟨_, rfl, _, rfl, _, _, rfl, rfl, _, rfl, ?_⟩
    refine ite2 (fun c => ?_) (fun c => ?_)
    · have c' : m ≤ lf := by have := dT c; omega
      refine ⟨_, rfl, _, rfl, _, rfl, G, a, W, f % W.length, m, rfl, sg, hpc, hmx, hall, .inr (by omega), hm, fun r G' H' e h => ?_⟩
      refine k r G' H' e ?_
      rw [wrap_sl hpc.ne (by omega)]
      exact h
    · have c' : lf < m := by have := dF' c; omega
      refine ⟨_, rfl, _, rfl, m, lf, rfl, rfl, by omega, fun more hmo => ?_⟩
      have hmo0 : 0 < more := by omega
      refine ⟨_, rfl, _, rfl, _, rfl, a, t.cP, dx, _, _, rfl, hobH, T.clP, T.pT, pF_total _ _ _ _, more, W.length, rfl, fun mi hmi => ?_⟩
      refine ⟨G, a, W, 0, mi, rfl, sg, hpc, hmx, hall, .inr (by omega), by omega, fun ag G2 H2 e2 hag => ?_⟩
      obtain ⟨gs, hag1, hag2⟩ := hag
      have hgl : gs.length = mi := by rw [hag2.1, sl_len]; omega
      refine ⟨_, rfl, _, rfl, _, rfl, G2, a, W, f % W.length, lf, rfl, e2.gh, hpc.same e2.gg, hmx, hall, .inr (by omega), by omega, fun fr G3 H3 e3 hfr => ?_⟩
      obtain ⟨fs, hfr1, hfr2⟩ := hfr
      have hfl : fs.length = lf := by rw [hfr2.1, sl_len]; omega
      refine ⟨_, rfl, (more : Int), rfl, by omega, by omega, fun L hL => ?_⟩
      have hag3 : G3 ag = some (.lst (rfs gs)) := e3.gg _ _ hag1
      refine lc_range (lo := (0 : Int)) (n := more) (fun q H4 => ∃ (us : List Addr), H4 = upd H3 L (.lst (rfs us)) ∧ us.length = q ∧ All2 (TupAt G3) us ((List.range q).map fun u => (sl W 0 mi).getD (u % mi) []))
        ⟨[], rfl, rfl, All2.nil⟩ ?_ ?_
      · rintro q H4 hq ⟨us, rfl, hul, hus⟩
        refine ⟨rfl, ?_⟩
        have hlt : q % mi < mi := Nat.mod_lt _ (by omega)
        obtain ⟨tx, htx⟩ : ∃ tx, gs[q % mi]? = some tx := ⟨_, List.getElem?_eq_getElem (by omega)⟩
        obtain ⟨x, hx1, hx2⟩ := hag2.get htx
        have hagH : upd H3 L (.lst (rfs us)) ag = some (.lst (rfs gs)) := same_upd hL _ _ _ (e3.gh _ _ hag3)
        refine ⟨_, rfl, _, rfl, _, rfl, ag, _, rfl, .inl (SqL.of hagH), q, (rfs gs).length, (congrArg V.int (Int.zero_add _)), rfl, by rw [rfs_length, hgl]; omega, fun qm hqm => ⟨ag, _, _, _, rfl, rfl, SqL.of hagH, atI_nat (rfs_at (a := tx) (by rw [hqm, rfs_length, hgl]; exact htx)), rfs us, upd_same, ?_, us ++ [tx], ?_, ?_, ?_⟩⟩
        · rw [rfs_length]; exact sl16' (by omega)
        · rw [upd_upd, rfs_append]; rfl
        · rw [List.length_append, hul]; rfl
        · rw [List.range_succ, List.map_append]
          refine hus.append (All2.one ?_)
          show TupAt G3 tx ((sl W 0 mi).getD (q % mi) [])
          rw [List.getD_eq_getElem?_getD, hx1]
          exact hx2.same e3.gg
      · rintro H4 ⟨us, rfl, hul, hus⟩
        refine ⟨fr, L, _, _, rfl, rfl, same_upd hL _ _ _ (e3.gh _ _ hfr1), upd_same, by rw [rfs_length, rfs_length]; exact sl16 (by omega), fun p hp => ?_⟩
        have e := ((e2.trans e3).new hL (.lst (rfs us))).fix hp (.lst (rfs (fs ++ us)))
        rw [← rfs_append]
        refine k p _ _ e ⟨fs ++ us, upd_same, ?_⟩
        rw [wrap_two hpc.ne (by omega), ← hlf, ← hmo, ← hmi]
        have sp : Same G3 (upd G3 p (.lst (rfs (fs ++ us)))) := same_upd (((e2.trans e3).new hL (.lst (rfs us))).nG hp) _
        exact (hfr2.imp fun _ _ z => z.same sp).append (hus.imp fun _ _ z => z.same sp)
/-! ### the three, by the depth -/
theorem none_from {f : Addr} {fd : FuncData} : FnOk P w K mg base CX0 0 f fd psFr (spFrom t 0) := by
  have no : ∀ vs H Q E, ¬ spFrom t 0 vs H Q E := fun vs H Q E h => by
    obtain ⟨G, a, W, f, m, _, _, hpc, _⟩ := h
    exact hpc
  exact ⟨fun vs H Q E h => absurd h (no vs H Q E), fun A outer s H args us vs Q E _ _ _ _ h => absurd h (no vs H Q E)⟩
theorem all_from {fF fB fA : Addr} {fdF fdB fdA : FuncData} (DF : Df K mg "words_from" sFrom psFr fF fdF) (DB : Df K mg "branch_words" sBranch psBr fB fdB) (DA : Df K mg "words_around" sAround psAr fA fdA) (T : Txt K mg t) :
    ∀ d : Nat, FnOk P w K mg base CX0 (3 * d) fF fdF psFr (spFrom t d)
  | 0 => none_from
  | d + 1 => by
    have h1 := all_from DF DB DA T d
    have h2 := ok_around DA DF h1 T
    have h3 := ok_branch DB DA h2 T
    exact ok_from DF DB h3 T
end
end PW
end
section
set_option Elab.async false
set_option linter.all false
set_option maxRecDepth 100000
namespace PW
open PySem L2 Mth
abbrev Pat := Sg05.Pat
/-! ### what a reader's objects stand for -/
def PA (t : Ad) (G : Hp) (a : Addr) (p : Pat) : Prop := PcAt t G (dep p) a (Sg05.words p)
def BA (t : Ad) (G : Hp) (a : Addr) (p : Pat) : Prop := BrAt (PcAt t G (dep p)) t G a (Sg05.words p)
structure LvAt (t : Ad) (G H : Hp) (x : Addr × Addr × Addr) (bi : List Pat × List Pat) : Prop where
  ob : ∃ dx, H x.1 = some (.ins t.cL dx (lF (.ref x.2.1) (.ref x.2.2)))
  br : ∃ bs, H x.2.1 = some (.lst (rfs bs)) ∧ All2 (BA t G) bs bi.1
  pc : ∃ ps, H x.2.2 = some (.lst (rfs ps)) ∧ All2 (PA t G) ps bi.2
def foot1 (x : Addr × Addr × Addr) : List Addr := [x.1, x.2.1, x.2.2]
def foot (xs : List (Addr × Addr × Addr)) : List Addr := xs.flatMap foot1
theorem foot_append (xs ys : List (Addr × Addr × Addr)) : foot (xs ++ ys) = foot xs ++ foot ys := by unfold foot; rw [List.flatMap_append]
theorem foot_one (x : Addr × Addr × Addr) : foot [x] = [x.1, x.2.1, x.2.2] := by unfold foot foot1; simp
theorem mem_foot {xs : List (Addr × Addr × Addr)} {x : Addr × Addr × Addr} {a : Addr} (h : x ∈ xs) (ha : a ∈ foot1 x) : a ∈ foot xs := List.mem_flatMap.mpr ⟨x, h, ha⟩
/-- the whole footprint's premises -/
structure Ft (H0 G H : Hp) (l : List Addr) : Prop where
  nd : l.Nodup
  n0 : ∀ a ∈ l, H0 a = none
  ng : ∀ a ∈ l, G a = none
  nh : ∀ a ∈ l, H a ≠ none
def MdAt : Md → Int → Bool → Int → Int → Prop
  | .sign rep, aw, rp, _, _ => aw = 0 ∧ rp = rep
  | .least, aw, _, _, _ => aw = 1
  | .comma m, aw, _, le, _ => aw = 2 ∧ le = (m : Int)
  | .most m, aw, _, le, _ => aw = 3 ∧ le = (m : Int)
  | .brace m n, aw, _, le, mo => aw = 4 ∧ le = (m : Int) ∧ mo = (n : Int)
structure RdAt (t : Ad) (G0 H0 G H : Hp) (r ll : Addr) (xs : List (Addr × Addr × Addr)) (st : RS) : Prop where
  ext : Ext G0 H0 G H
  ob : ∃ dx aw rp le mo, H r = some (.ins t.cR dx (rF (.ref ll) (.int aw) (.bl rp) (.int le) (.int mo))) ∧ MdAt st.md aw rp le mo
  lv : H ll = some (.lst (rfs (xs.map (·.1))))
  at_ : All2 (LvAt t G H) xs (st.up.reverse ++ [(st.b, st.i)])
  ft : Ft H0 G H (r :: ll :: foot xs)
theorem _root_.Mth.All2.imp_mem {α β : Type} {R S : α → β → Prop} {l : List α} {m : List β} (h : All2 R l m) (f : ∀ a b, a ∈ l → R a b → S a b) : All2 S l m := ⟨h.1, fun i a b h1 h2 => f a b (List.mem_of_getElem? h1) (h.2 i a b h1 h2)⟩
section
variable {t : Ad} {G0 H0 G H G' H' : Hp} {r ll : Addr} {xs : List (Addr × Addr × Addr)} {st : RS}
theorem PA.same {a : Addr} {p : Pat} (s : Same G G') (h : PA t G a p) : PA t G' a p := PcAt.same s h
theorem BA.same {a : Addr} {p : Pat} (s : Same G G') (h : BA t G a p) : BA t G' a p := BrAt.same s h
theorem LvAt.frame {x : Addr × Addr × Addr} {bi : List Pat × List Pat} (h : LvAt t G H x bi) (s : Same G G') (k : ∀ a ∈ foot1 x, ∀ o, H a = some o → H' a = some o) : LvAt t G' H' x bi := by
  obtain ⟨⟨dx, h1⟩, ⟨bs, h2, h3⟩, ⟨ps, h4, h5⟩⟩ := h
  exact ⟨⟨dx, k _ (by simp [foot1]) _ h1⟩, ⟨bs, k _ (by simp [foot1]) _ h2, h3.imp fun _ _ z => z.same s⟩, ⟨ps, k _ (by simp [foot1]) _ h4, h5.imp fun _ _ z => z.same s⟩⟩
theorem Ft.sub {l l' : List Addr} (h : Ft H0 G H l) (s : List.Sublist l' l) : Ft H0 G H l' :=
  ⟨h.nd.sublist s, fun a ha => h.n0 a (s.subset ha), fun a ha => h.ng a (s.subset ha), fun a ha => h.nh a (s.subset ha)⟩
theorem Ft.next {l : List Addr} (h : Ft H0 G H l) (g : ∀ a ∈ l, G' a = none) (k : ∀ a ∈ l, H' a ≠ none) : Ft H0 G' H' l := ⟨h.nd, h.n0, g, k⟩
theorem Ft.cons {l : List Addr} {a : Addr} (h : Ft H0 G H l) (h1 : a ∉ l) (h0 : H0 a = none) (hg : G a = none) (hh : H a ≠ none) : Ft H0 G H (a :: l) :=
  ⟨List.nodup_cons.mpr ⟨h1, h.nd⟩, fun b hb => (List.mem_cons.mp hb).elim (fun e => by rw [e]; exact h0) (h.n0 b), fun b hb => (List.mem_cons.mp hb).elim (fun e => by rw [e]; exact hg) (h.ng b), fun b hb => (List.mem_cons.mp hb).elim (fun e => by rw [e]; exact hh) (h.nh b)⟩
theorem upd_ne_none {H : Hp} {a b : Addr} {o : HO} (h : H a ≠ none) : upd H b o a ≠ none := by
  by_cases e : a = b
  · rw [e, upd_same]; simp
  · rw [upd_ne e]; exact h
theorem same_ne_none {H H' : Hp} {a : Addr} (s : Same H H') (h : H a ≠ none) : H' a ≠ none := by
  cases e : H a with
  | none => exact absurd e h
  | some o => exact some_ne (s _ _ e)
end
section
variable {P : Program} {w : World} {K : PySem.W.Frag} {mg : Str → Option Value} {base : Heap} {t : Ad}
/-! ### Level.__init__ -/
inductive spIL (t : Ad) (vs : List V) (H : Hp) (Q : VK) (E : XK) : Prop
  | mk (p dx : Addr) : (vs = [.ref p]) → (H p = some (.ins t.cL dx [])) → (∀ (bl pl : Addr) (H' : Hp), H bl = none → H pl = none → bl ≠ pl → H' p = some (.ins t.cL dx (lF (.ref bl) (.ref pl))) → H' bl = some (.lst []) → H' pl = some (.lst []) → (∀ b, b ≠ p → b ≠ bl → b ≠ pl → H' b = H b) → Q .non H') → spIL t vs H Q E
theorem scIL : FnScope ["self"] ["self"] (defScope sInitL) := ⟨rfl, rfl, rfl, by decide +kernel, rfl, by decide +kernel, by decide +kernel⟩
theorem ok_IL {f : Addr} {fd : FuncData} (D : Di K t.cL "Level.__init__" sInitL ["self"] f fd) (T : Txt K mg t) : FnOk P w K mg base CX0 1 f fd ["self"] (spIL t) := by
  refine D.F.ok scIL (fun vs H Q E h => ?_) (fun cdv A outer s H vs Q E hr h => ?_)
  · obtain ⟨p, dx, rfl, _⟩ := h
    rfl
  · obtain ⟨p, dx, rfl, hp, k⟩ := h
    refine ⟨_, pss_cons (ps_fld (pv 0) (pe_lst pa_nil) rfl) (pss_one (ps_fld (pv 0) (pe_lst pa_nil) rfl)), ?_⟩
    refine ⟨(by show 0 ≤ sizeLine; decide), fun bl hbl => ?_⟩
    have n1 : p ≠ bl := ne_of_none hp hbl
    refine ⟨_, rfl, p, t.cL, dx, [], rfl, (by rw [upd_ne n1]; exact hp), T.clL, T.lB, pl0, (by show 0 ≤ sizeLine; decide), fun pl hpl => ?_⟩
    have n2 : p ≠ pl := ne_of_none (H := upd (upd H bl (.lst [])) p _) upd_same hpl
    have n3 : bl ≠ pl := ne_of_none (H := upd (upd H bl (.lst [])) p _) (by rw [upd_ne n1.symm]; exact upd_same) hpl
    refine ⟨_, rfl, p, t.cL, dx, _, rfl, (by rw [upd_ne n2]; exact upd_same), T.clL, T.lP, pl1, ?_⟩
    refine k bl pl _ hbl ?_ n3 ?_ ?_ ?_ ?_
    · rw [upd_ne n2.symm, upd_ne n3.symm] at hpl; exact hpl
    · rw [upd_same, lF_put]
    · rw [upd_ne n1.symm, upd_ne n3, upd_ne n1.symm, upd_same]
    · rw [upd_ne n2.symm, upd_same]
    · intro b h1 h2 h3
      rw [upd_ne h1, upd_ne h3, upd_ne h1, upd_ne h2]
/-! ### end_branch, whole -/
inductive spEnd (t : Ad) (vs : List V) (H : Hp) (Q : VK) (E : XK) : Prop
  | mk (G0 H0 G : Hp) (x : Addr × Addr × Addr) (b i : List Pat) : (vs = [.ref x.1]) → (Ext G0 H0 G H) → (LvAt t G H x (b, i)) → (Ft H0 G H (foot1 x)) → (b.length ≤ 1050) → (i.length ≤ 1050) → (∀ (pl : Addr) (G' H' : Hp), Ext G0 H0 G' H' → LvAt t G' H' (x.1, x.2.1, pl) (b ++ [.seq i], []) → H pl = none → Same G G' → (∀ a o, H a = some o → a ≠ x.1 → a ≠ x.2.1 → H' a = some o) → (∀ a, H a ≠ none → G a = none → G' a = none) → G' pl = none → H0 pl = none → Q .non H') → spEnd t vs H Q E
theorem scEb : FnScope ["self"] ["self"] (defScope sEndBr) := ⟨rfl, rfl, rfl, by decide +kernel, rfl, by decide +kernel, by decide +kernel⟩
theorem foot1_nd {x : Addr × Addr × Addr} (h : (foot1 x).Nodup) : x.1 ≠ x.2.1 ∧ x.1 ≠ x.2.2 ∧ x.2.1 ≠ x.2.2 := by
  unfold foot1 at h
  simp only [List.nodup_cons, List.mem_cons, List.not_mem_nil, or_false, not_or] at h
  exact ⟨h.1.1, h.1.2, h.2.1⟩
theorem pas_at {G : Hp} {ps : List Addr} {i : List Pat} (h : All2 (PA t G) ps i) : All2 (PcAt t G (deps i)) ps (i.map Sg05.words) :=
  (h.impM fun _ p hp z => PcAt.mono z (dep_le_deps hp)).map_right
theorem bas_at {G : Hp} {bs : List Addr} {b : List Pat} (h : All2 (BA t G) bs b) : All2 (BrAt (PcAt t G (deps b)) t G) bs (b.map Sg05.words) :=
  (h.impM fun _ p hp z => BrAt.mono z (dep_le_deps hp)).map_right
theorem ok_end {f fC : Addr} {fd fdC : FuncData} (D : Dm K t.cL "end_branch" "Level.end_branch" sEndBr ["self"] f fd) (DC : Df K mg "chained" sChained ["pieces"] fC fdC) (GC : FnOk P w K mg base CX0 5 fC fdC ["pieces"] (spChained t)) (T : Txt K mg t) :
    FnOk P w K mg base CX0 6 f fd ["self"] (spEnd t) := by
  refine D.F.ok scEb (fun vs H Q E h => ?_) (fun cdv A outer s H vs Q E hr h => ?_)
  · obtain ⟨G0, H0, G, x, b, i, rfl, _⟩ := h
    rfl
  · obtain ⟨G0, H0, G, ⟨L, bl, pl⟩, b, i, rfl, e0, hlv, hft, hbn, hin, k⟩ := h
    obtain ⟨⟨dx, hob⟩, ⟨bs, hbl, hbs⟩, ⟨ps, hpl, hps⟩⟩ := hlv
    obtain ⟨n1, n2, n3⟩ := foot1_nd hft.nd
    simp only at hob hbl hbs hpl hps n1 n2 n3
    have m1 : L ∈ foot1 (L, bl, pl) := by simp [foot1]
    have m2 : bl ∈ foot1 (L, bl, pl) := by simp [foot1]
    refine ⟨_, pss_cons (ps_expr (pe_bm PySem.F.plainAttrs_list PySem.F.slot_list_append PySem.F.type_list_append mt_append (pe_fld (pv 0) rfl) (pa_cons (pe_call GC hr rfl DC.m DC.F.kp DC.b .nil pass0 (pa_cons (pe_fld (pv 0) rfl) pa_nil)) pa_nil)))
      (pss_one (ps_fld (pv 0) (pe_lst pa_nil) rfl)), ?_⟩
    refine ⟨_, rfl, L, t.cL, dx, _, _, rfl, hob, T.clL, T.lB, lF_branches _ _, .inl ⟨rfl, _, SqL.of hbl⟩, _, rfl, L, t.cL, dx, _, _, rfl, hob, T.clL, T.lP, lF_pieces _ _, G, pl, ps, _, deps i, rfl, e0.gh, hpl, by rw [hps.1]; omega, one_le_deps i, pas_at hps, fun c G2 H2 e2 hc => ?_⟩
    have hbl2 := e2.hh _ _ hbl
    refine ⟨bl, _, _, rfl, rfl, hbl2, by rw [rfs_length, hbs.1]; exact sl16' (by omega), ?_⟩
    refine ⟨(by show 0 ≤ sizeLine; decide), fun np hnp => ?_⟩
    have hnp2 : H2 np = none := by
      by_cases z : np = bl
      · rw [z, upd_same] at hnp; cases hnp
      · rw [upd_ne z] at hnp; exact hnp
    have g2L : G2 L = none := e2.keepN hob (hft.ng L m1)
    have g2b : G2 bl = none := e2.keepN hbl (hft.ng bl m2)
    have z1 : L ≠ np := ne_of_none (e2.hh _ _ hob) hnp2
    have z2 : bl ≠ np := ne_of_none hbl2 hnp2
    refine ⟨_, rfl, L, t.cL, dx, _, rfl, (by rw [upd_ne z1, upd_ne n1]; exact e2.hh _ _ hob), T.clL, T.lP, (by show 2 < 1000; decide), ?_⟩
    rw [lF_putP]
    have e3 : Ext G0 H0 G2 (upd (upd (upd H2 bl (.lst (rfs bs ++ [.ref c]))) np (.lst [])) L (.ins t.cL dx (lF (.ref bl) (.ref np)))) :=
      (((e0.trans e2).mut (hft.n0 bl m2) g2b _).new hnp _).mut (hft.n0 L m1) g2L _
    refine k np G2 _ e3 ⟨⟨dx, upd_same⟩, ⟨bs ++ [c], ?_, ?_⟩, ⟨[], ?_, All2.nil⟩⟩ (e2.n0 hnp2) e2.gg ?_ (fun a ha hg => e2.old a ha hg) (e2.nG hnp2) ((e0.trans e2).n0 hnp2)
    · show upd _ L _ bl = _
      rw [upd_ne n1.symm, upd_ne z2, upd_same, rfs_append]
      rfl
    · refine (hbs.imp fun _ _ z => z.same e2.gg).snoc ?_
      unfold BA
      rw [words_seq, dep]
      exact hc
    · show upd _ L _ np = _
      rw [upd_ne z1.symm, upd_same]
      rfl
    · intro a o ha h1 h2
      have z3 : a ≠ np := ne_of_none (e2.hh _ _ ha) hnp2
      rw [upd_ne h1, upd_ne z3, upd_ne h2]
      exact e2.hh _ _ ha
inductive spWhole (t : Ad) (vs : List V) (H : Hp) (Q : VK) (E : XK) : Prop
  | mk (G0 H0 G : Hp) (x : Addr × Addr × Addr) (b i : List Pat) : (vs = [.ref x.1]) → (Ext G0 H0 G H) → (LvAt t G H x (b, i)) → (Ft H0 G H (foot1 x)) → (b.length ≤ 1050) → (i.length ≤ 1050) → (∀ (a : Addr) (G' H' : Hp), Ext G0 H0 G' H' → PA t G' a (.alt (b ++ [.seq i])) → Same G G' → (∀ c o, H c = some o → c ≠ x.1 → c ≠ x.2.1 → H' c = some o) → (∀ c, H c ≠ none → c ≠ x.2.1 → G c = none → G' c = none) → Q (.ref a) H') → spWhole t vs H Q E
theorem scWh : FnScope ["self"] ["self"] (defScope sWhole) := ⟨rfl, rfl, rfl, by decide +kernel, rfl, by decide +kernel, by decide +kernel⟩
theorem ok_whole {f fE fA : Addr} {fd fdE fdA : FuncData} (D : Dm K t.cL "whole" "Level.whole" sWhole ["self"] f fd) (DE : Dm K t.cL "end_branch" "Level.end_branch" sEndBr ["self"] fE fdE) (GE : FnOk P w K mg base CX0 6 fE fdE ["self"] (spEnd t))
    (DA : Df K mg "alternatives" sAlter ["branches"] fA fdA) (GA : FnOk P w K mg base CX0 3 fA fdA ["branches"] (spAlter t)) (T : Txt K mg t) : FnOk P w K mg base CX0 7 f fd ["self"] (spWhole t) := by
  refine D.F.ok scWh (fun vs H Q E h => ?_) (fun cdv A outer s H vs Q E hr h => ?_)
  · obtain ⟨G0, H0, G, x, b, i, rfl, _⟩ := h
    rfl
  · obtain ⟨G0, H0, G, ⟨L, bl, pl⟩, b, i, rfl, e0, hlv, hft, hbn, hin, k⟩ := h
    obtain ⟨dx, hob⟩ := hlv.ob
    have hr3 : Room 3 _ := hr.mono (by decide)
    refine ⟨_, pss_cons (ps_expr (pe_meth0 (pv 0) T.clL DE.m GE hr DE.b .nil pass0)) (pss_one (ps_ret (pe_call GA hr3 rfl DA.m DA.F.kp DA.b .nil pass0 (pa_cons (pe_fld (pv 0) rfl) pa_nil)))), ?_⟩
    refine ⟨_, rfl, L, dx, _, rfl, hob, lF_end _ _, G0, H0, G, (L, bl, pl), b, i, rfl, e0, hlv, hft, hbn, hin, fun np G2 H2 e2 hlv2 hnp sg2 kp kg hnG hn0 => ?_⟩
    obtain ⟨⟨dx2, hob2⟩, ⟨bs, hbl2, hbs⟩, _⟩ := hlv2
    simp only at hob2 hbl2 hbs
    have m2 : bl ∈ foot1 (L, bl, pl) := by simp [foot1]
    have hblN : H bl ≠ none := hft.nh bl m2
    have g2b : G2 bl = none := kg bl hblN (hft.ng bl m2)
    have e3 := e2.freeze (hft.n0 bl m2) g2b hbl2
    refine ⟨_, rfl, L, t.cL, dx2, _, _, rfl, hob2, T.clL, T.lB, lF_branches _ _, _, bl, bs, _, deps (b ++ [.seq i]), rfl, e3.gh, upd_same, ?_, ?_, bas_at (hbs.imp fun _ _ z => z.same (same_upd g2b _)), fun a G4 H4 e4 hpc => ?_⟩
    · rw [hbs.1, List.length_append, List.length_singleton]; omega
    · intro z
      have := hbs.1
      rw [z, List.length_append, List.length_singleton] at this
      simp at this
    · refine k a G4 H4 (e3.trans e4) ?_ ((sg2.trans (same_upd g2b _)).trans e4.gg) (fun c o hc h1 h2 => e4.hh _ _ (kp c o hc h1 h2)) fun c hc h1 hg => ?_
      · unfold PA
        rw [words_alt, dep]
        exact hpc
      · have q : G2 c = none := kg c hc hg
        refine e4.old c ?_ (by rw [upd_ne h1]; exact q)
        by_cases hL : c = L
        · rw [hL, hob2]; simp
        · cases e : H c with
          | none => exact absurd e hc
          | some o => exact some_ne (kp c o e hL h1)
end
end PW
end
section
set_option Elab.async false
set_option linter.all false
set_option maxRecDepth 100000
namespace PW
open PySem L2 Mth
section
variable {t : Ad} {G0 H0 G H G' H' : Hp} {r ll : Addr} {xs xm : List (Addr × Addr × Addr)} {x : Addr × Addr × Addr} {st : RS}
theorem Ext.chg (e : Ext G0 H0 G H) (k : ∀ b o, H b = some o → (H0 b ≠ none ∨ G b ≠ none) → H' b = some o) : Ext G0 H0 G H' :=
  ⟨e.gg, fun b o h => k b o (e.hh _ _ h) (.inl (some_ne h)), fun b o h => k b o (e.gh _ _ h) (.inr (some_ne h)), e.old⟩
theorem RdAt.mem_r (R : RdAt t G0 H0 G H r ll xs st) : H0 r = none ∧ G r = none := ⟨R.ft.n0 r (by simp), R.ft.ng r (by simp)⟩
theorem RdAt.mem_ll (R : RdAt t G0 H0 G H r ll xs st) : H0 ll = none ∧ G ll = none := ⟨R.ft.n0 ll (by simp), R.ft.ng ll (by simp)⟩
theorem RdAt.r_ll (R : RdAt t G0 H0 G H r ll xs st) : r ≠ ll := fun e => by
  have := R.ft.nd
  rw [e] at this
  simp at this
theorem RdAt.r_foot (R : RdAt t G0 H0 G H r ll xs st) {a : Addr} (h : a ∈ foot xs) : a ≠ r ∧ a ≠ ll := by
  have := R.ft.nd
  simp only [List.nodup_cons, List.mem_cons, not_or] at this
  exact ⟨fun e => this.1.2 (by rw [← e]; exact h), fun e => this.2.1 (by rw [← e]; exact h)⟩
theorem RdAt.foot_nd (R : RdAt t G0 H0 G H r ll xs st) : (foot xs).Nodup := by
  have := R.ft.nd
  simp only [List.nodup_cons] at this
  exact this.2.2
theorem RdAt.move (R : RdAt t G0 H0 G H r ll xs st) (e : Ext G0 H0 G' H') (s : Same G G') (k : ∀ a ∈ r :: ll :: foot xs, ∀ o, H a = some o → H' a = some o) (g : ∀ a ∈ r :: ll :: foot xs, G' a = none) : RdAt t G0 H0 G' H' r ll xs st := by
  obtain ⟨dx, aw, rp, le, mo, h1, h2⟩ := R.ob
  refine ⟨e, ⟨dx, aw, rp, le, mo, k r (by simp) _ h1, h2⟩, k ll (by simp) _ R.lv, R.at_.imp_mem fun x bi hx z => z.frame s fun a ha o q => k a ?_ o q, R.ft.next g fun a ha => ?_⟩
  · exact List.mem_cons_of_mem _ (List.mem_cons_of_mem _ (mem_foot hx ha))
  · cases e2 : H a with
    | none => exact absurd e2 (R.ft.nh a ha)
    | some o => exact some_ne (k a ha o e2)
/-- behind a call that changes nothing -/
theorem RdAt.call (R : RdAt t G0 H0 G H r ll xs st) (e : Ext G H G' H') : RdAt t G0 H0 G' H' r ll xs st :=
  R.move (R.ext.trans e) e.gg (fun a _ o h => e.hh _ _ h) fun a ha => e.old a (R.ft.nh a ha) (R.ft.ng a ha)
/-- the reader's own attributes -/
theorem RdAt.setR (R : RdAt t G0 H0 G H r ll xs st) {md : Md} {dx : Addr} {aw le mo : Int} {rp : Bool} (h : MdAt md aw rp le mo) :
    RdAt t G0 H0 G (upd H r (.ins t.cR dx (rF (.ref ll) (.int aw) (.bl rp) (.int le) (.int mo)))) r ll xs ⟨st.b, st.i, st.up, md⟩ := by
  refine ⟨R.ext.mut R.mem_r.1 R.mem_r.2 _, ⟨dx, aw, rp, le, mo, upd_same, h⟩, by rw [upd_ne R.r_ll.symm]; exact R.lv, R.at_.imp_mem fun x bi hx z => z.frame (Same.refl G) fun a ha o q => ?_, R.ft.next R.ft.ng fun a ha => upd_ne_none (R.ft.nh a ha)⟩
  rw [upd_ne (R.r_foot (mem_foot hx ha)).1]; exact q
/-- the innermost level -/
theorem RdAt.last (R : RdAt t G0 H0 G H r ll xs st) : ∃ xm x, xs = xm ++ [x] ∧ All2 (LvAt t G H) xm st.up.reverse ∧ LvAt t G H x (st.b, st.i) := R.at_.snoc_inv'
theorem foot_last {a : Addr} (h : a ∈ foot1 x) : a ∈ foot (xm ++ [x]) := mem_foot (by simp) h
theorem foot_sep (h : (foot (xm ++ [x])).Nodup) {a b : Addr} (ha : a ∈ foot xm) (hb : b ∈ foot1 x) : a ≠ b := by
  rw [foot_append, List.nodup_append] at h
  exact h.2.2 a ha b (by unfold foot; rw [List.flatMap_singleton]; exact hb)
theorem foot1_of (h : (foot (xm ++ [x])).Nodup) : (foot1 x).Nodup := by
  rw [foot_append, List.nodup_append] at h
  have := h.2.1
  unfold foot at this
  rw [List.flatMap_singleton] at this
  exact this
theorem RdAt.ft1 (R : RdAt t G0 H0 G H r ll (xm ++ [x]) st) : Ft H0 G H (foot1 x) :=
  ⟨foot1_of R.foot_nd, fun a ha => R.ft.n0 a (List.mem_cons_of_mem _ (List.mem_cons_of_mem _ (foot_last ha))), fun a ha => R.ft.ng a (List.mem_cons_of_mem _ (List.mem_cons_of_mem _ (foot_last ha))), fun a ha => R.ft.nh a (List.mem_cons_of_mem _ (List.mem_cons_of_mem _ (foot_last ha)))⟩
/-- the innermost level's pieces change -/
theorem RdAt.setP (R : RdAt t G0 H0 G H r ll (xm ++ [x]) st) {ps : List Addr} {i : List Pat} (h : All2 (PA t G) ps i) : RdAt t G0 H0 G (upd H x.2.2 (.lst (rfs ps))) r ll (xm ++ [x]) ⟨st.b, i, st.up, st.md⟩ := by
  have hx : x.2.2 ∈ foot1 x := by simp [foot1]
  have hf := foot_last (xm := xm) hx
  have hm : x.2.2 ∈ r :: ll :: foot (xm ++ [x]) := List.mem_cons_of_mem _ (List.mem_cons_of_mem _ hf)
  obtain ⟨dx, aw, rp, le, mo, h1, h2⟩ := R.ob
  obtain ⟨n1, n2, n3⟩ := foot1_nd R.ft1.nd
  obtain ⟨xm', x', e, hA, hl⟩ := R.last
  obtain ⟨rfl, e2⟩ := List.append_inj' e rfl
  cases e2
  refine ⟨R.ext.mut (R.ft.n0 _ hm) (R.ft.ng _ hm) _, ⟨dx, aw, rp, le, mo, by rw [upd_ne (R.r_foot hf).1.symm]; exact h1, h2⟩, by rw [upd_ne (R.r_foot hf).2.symm]; exact R.lv, ?_, R.ft.next R.ft.ng fun a ha => upd_ne_none (R.ft.nh a ha)⟩
  refine (hA.imp_mem fun y bi hy z => z.frame (Same.refl G) fun a ha o q => ?_).snoc ?_
  · rw [upd_ne (foot_sep R.foot_nd (mem_foot hy ha) hx)]; exact q
  · obtain ⟨⟨dx', q1⟩, ⟨bs, q2, q3⟩, _⟩ := hl
    exact ⟨⟨dx', by rw [upd_ne n2]; exact q1⟩, ⟨bs, by rw [upd_ne n3]; exact q2, q3⟩, ⟨ps, upd_same, h⟩⟩
end
def StepQ (t : Ad) (G0 H0 : Hp) (r : Addr) (o : Option RS) (Q : VK) : Prop := match o with
  | none => ∀ G' H', Ext G0 H0 G' H' → Q (.bl false) H'
  | some st' => ∀ G' H' ll xs, RdAt t G0 H0 G' H' r ll xs st' → Q (.bl true) H'
/-- sizes of a reader's lists -/
def Sz (n : Nat) (st : RS) : Prop := ∀ x ∈ (st.b, st.i) :: st.up, x.1.length ≤ n ∧ x.2.length ≤ n
section
variable {P : Program} {w : World} {K : PySem.W.Frag} {mg : Str → Option Value} {base : Heap} {t : Ad}
/-! ### takes_item -/
inductive spItem (t : Ad) (vs : List V) (H : Hp) (Q : VK) (E : XK) : Prop
  | mk (G0 H0 G : Hp) (r ll : Addr) (xs : List (Addr × Addr × Addr)) (st : RS) (rep : Bool) (a : Addr) (p : Pat) : (vs = [.ref r, .ref a]) → (RdAt t G0 H0 G H r ll xs st) → (st.md = .sign rep) → (PA t G a p) → (st.i.length ≤ 1050) → (∀ H', RdAt t G0 H0 G H' r ll xs ⟨st.b, st.i ++ [p], st.up, .sign true⟩ → Q (.bl true) H') → spItem t vs H Q E
theorem scIt : FnScope ["self", "piece"] ["self", "piece"] (defScope sItem) := ⟨rfl, rfl, rfl, by decide +kernel, rfl, by decide +kernel, by decide +kernel⟩
theorem atLast1 (xm : List (Addr × Addr × Addr)) (x : Addr × Addr × Addr) : atI (rfs ((xm ++ [x]).map (·.1))) (-1) = some (V.ref x.1) := by
  rw [List.map_append]; exact atLast _ _
theorem ok_item {f : Addr} {fd : FuncData} (D : Dm K t.cR "takes_item" "Reader.takes_item" sItem ["self", "piece"] f fd) (T : Txt K mg t) : FnOk P w K mg base CX0 1 f fd ["self", "piece"] (spItem t) := by
  refine D.F.ok scIt (fun vs H Q E h => ?_) (fun cdv A outer s H vs Q E hr h => ?_)
  · obtain ⟨G0, H0, G, r, ll, xs, st, rep, a, p, rfl, _⟩ := h
    rfl
  · obtain ⟨G0, H0, G, r, ll, xs, st, rep, a, p, rfl, R, hmd, hp, hn, k⟩ := h
    obtain ⟨xm, x, rfl, hA, hl⟩ := R.last
    obtain ⟨dx, aw, rp, le, mo, hob, hM⟩ := R.ob
    obtain ⟨⟨dl, hlo⟩, _, ⟨ps, hpl, hps⟩⟩ := hl
    rw [hmd] at hM
    refine ⟨_, pss_cons (ps_expr (pe_bm PySem.F.plainAttrs_list PySem.F.slot_list_append PySem.F.type_list_append mt_append (pe_fld (pe_ix ix_list (pe_fld (pv 0) rfl) (pe_un un_neg pe_int) (fun _ _ => rfl)) rfl) (pa_cons (pv 1) pa_nil)))
      (pss_cons (ps_fld (pv 0) pe_bl rfl) (pss_one (ps_ret pe_bl))), ?_⟩
    refine ⟨_, rfl, r, t.cR, dx, _, _, rfl, hob, T.clR, T.rL, rF_levels _ _ _ _ _, _, rfl, ll, _, _, _, rfl, rfl, SqL.of R.lv, atLast1 xm x, x.1, t.cL, dl, _, _, rfl, hlo, T.clL, T.lP, lF_pieces _ _, .inl ⟨rfl, _, SqL.of hpl⟩, _, rfl, x.2.2, _, _, rfl, rfl, hpl, by rw [rfs_length, hps.1]; exact sl16' (show st.i.length ≤ 1000000 by omega), ?_⟩
    have R2 := R.setP (ps := ps ++ [a]) (hps.snoc hp)
    have hx : x.2.2 ∈ foot1 x := by simp [foot1]
    refine ⟨_, rfl, r, t.cR, dx, _, rfl, (by rw [upd_ne (R.r_foot (foot_last hx)).1.symm]; exact hob), T.clR, T.rR, (by show 5 < 1000; decide), ?_⟩
    rw [rF_putR, ← show rfs (ps ++ [a]) = rfs ps ++ [V.ref a] from rfs_append _ _]
    exact k _ (R2.setR (md := .sign true) (dx := dx) (aw := aw) (le := le) (mo := mo) (rp := true) ⟨hM.1, rfl⟩)
/-! ### takes_left_bracket -/
inductive spLBr (t : Ad) (vs : List V) (H : Hp) (Q : VK) (E : XK) : Prop
  | mk (G0 H0 G : Hp) (r ll : Addr) (xs : List (Addr × Addr × Addr)) (st : RS) (rep : Bool) : (vs = [.ref r]) → (RdAt t G0 H0 G H r ll xs st) → (st.md = .sign rep) → (st.up.length ≤ 32) → (StepQ t G0 H0 r (if st.up.length = 32 then none else some ⟨[], [], (st.b, st.i) :: st.up, .sign false⟩) Q) → spLBr t vs H Q E
theorem scLb : FnScope ["self"] ["self"] (defScope sLBr) := ⟨rfl, rfl, rfl, by decide +kernel, rfl, by decide +kernel, by decide +kernel⟩
theorem ok_lbr {f fL : Addr} {fd fdL : FuncData} (D : Dm K t.cR "takes_left_bracket" "Reader.takes_left_bracket" sLBr ["self"] f fd) (DL : Di K t.cL "Level.__init__" sInitL ["self"] fL fdL) (T : Txt K mg t) : FnOk P w K mg base CX0 3 f fd ["self"] (spLBr t) := by
  have GL : FnOk P w K mg base CX0 1 fL fdL ["self"] (spIL t) := ok_IL DL T
  refine D.F.ok scLb (fun vs H Q E h => ?_) (fun cdv A outer s H vs Q E hr h => ?_)
  · obtain ⟨G0, H0, G, r, ll, xs, st, rep, rfl, _⟩ := h
    rfl
  · obtain ⟨G0, H0, G, r, ll, xs, st, rep, rfl, R, hmd, hn, k⟩ := h
    obtain ⟨dx, aw, rp, le, mo, hob, hM⟩ := R.ob
    rw [hmd] at hM
    have hxl : xs.length = st.up.length + 1 := by have := R.at_.1; simp at this; exact this
    refine ⟨_, pss_cons (ps_if (pt_cmpR op_eq (pe_op op_sub (pe_callB call_len_seq rfl T.len PySem.boot_len (pa_cons (pe_fld (pv 0) rfl) pa_nil)) pe_int) (pgi T.deepest) (nomark _)) (pss_one (ps_ret pe_bl)) pss_nil)
      (pss_cons (ps_expr (pe_bm PySem.F.plainAttrs_list PySem.F.slot_list_append PySem.F.type_list_append mt_append (pe_fld (pv 0) rfl) (pa_cons (pe_make0 DL.m GL hr rfl T.mL DL.b .nil pass0) pa_nil)))
      (pss_cons (ps_fld (pv 0) pe_bl rfl) (pss_one (ps_ret pe_bl)))), ?_⟩
    refine ⟨_, rfl, r, t.cR, dx, _, _, rfl, hob, T.clR, T.rL, rF_levels _ _ _ _ _, ll, _, rfl, .inl (SqL.of R.lv), _, _, rfl, rfl, rfl, _, rfl, ?_⟩
    refine ite2 (fun c => ?_) (fun c => ?_)
    · have hc : st.up.length = 32 := by have := dI c; rw [rfs_length, List.length_map] at this; omega
      rw [if_pos hc] at k
      exact k G H R.ext
    · have hc : ¬ st.up.length = 32 := fun z => dIn c (by rw [rfs_length, List.length_map]; omega)
      rw [if_neg hc] at k
      refine ⟨_, rfl, r, t.cR, dx, _, _, rfl, hob, T.clR, T.rL, rF_levels _ _ _ _ _, .inl ⟨rfl, _, SqL.of R.lv⟩, ?_⟩
      intro L dl nL ndl ndL
      refine ⟨L, dl, rfl, upd_same, fun bl pl H1 hbl hpl hne h1 h2 h3 h4 => ⟨rfl, ?_⟩⟩
      have nb : H bl = none := (same_upd (H := H) ndl _).free ((same_upd (H := upd H dl (.own L)) (by rw [upd_ne ndL.symm]; exact nL) _).free hbl)
      have np : H pl = none := (same_upd (H := H) ndl _).free ((same_upd (H := upd H dl (.own L)) (by rw [upd_ne ndL.symm]; exact nL) _).free hpl)
      have s1 : ∀ b o, H b = some o → H1 b = some o := fun b o hb => by
        have z1 := ne_of_none hb nL
        have z2 := ne_of_none hb ndl
        rw [h4 b z1 (ne_of_none hb nb) (ne_of_none hb np), upd_ne z1, upd_ne z2]; exact hb
      have nbL : bl ≠ L := fun z => by rw [z, upd_same] at hbl; cases hbl
      have npL : pl ≠ L := fun z => by rw [z, upd_same] at hpl; cases hpl
      have R1 : RdAt t G0 H0 G H1 r ll xs st := R.move (R.ext.chg fun b o hb _ => s1 b o hb) (Same.refl G) (fun a _ o ha => s1 a o ha) R.ft.ng
      refine ⟨ll, _, _, rfl, rfl, R1.lv, by rw [rfs_length, List.length_map]; exact sl16' (by omega), ?_⟩
      have z0 : ∀ {a : Addr}, H a = none → a ∉ r :: ll :: foot xs := fun ha hm => R.ft.nh _ hm ha
      have hll : ∀ {a : Addr}, H a = none → a ≠ ll := fun ha e => z0 ha (by rw [e]; simp)
      -- the state with one level more
      have R2 : RdAt t G0 H0 G (upd H1 ll (.lst (rfs (xs.map (·.1)) ++ [V.ref L]))) r ll (xs ++ [(L, bl, pl)]) ⟨[], [], (st.b, st.i) :: st.up, .sign rep⟩ := by
        obtain ⟨dx', aw', rp', le', mo', q1, q2⟩ := R1.ob
        rw [hmd] at q2
        have ft0 : Ft H0 G H1 (L :: bl :: pl :: (r :: ll :: foot xs)) := by
          refine Ft.cons (Ft.cons (Ft.cons R1.ft (z0 np) (R.ext.n0 np) (R.ext.nG np) (some_ne h3)) ?_ (R.ext.n0 nb) (R.ext.nG nb) (some_ne h2)) ?_ (R.ext.n0 nL) (R.ext.nG nL) (some_ne h1)
          · intro hm
            rcases List.mem_cons.mp hm with e | hm
            · exact hne e
            · exact z0 nb hm
          · intro hm
            rcases List.mem_cons.mp hm with e | hm
            · exact nbL e.symm
            · rcases List.mem_cons.mp hm with e | hm
              · exact npL e.symm
              · exact z0 nL hm
        have perm : List.Perm (L :: bl :: pl :: (r :: ll :: foot xs)) (r :: ll :: foot (xs ++ [(L, bl, pl)])) := by
          rw [foot_append, foot_one]
          exact (List.perm_append_comm (l₁ := [L, bl, pl]) (l₂ := r :: ll :: foot xs))
        refine ⟨R1.ext.mut R1.mem_ll.1 R1.mem_ll.2 _, ⟨dx', aw', rp', le', mo', by rw [upd_ne R1.r_ll]; exact q1, q2⟩, by rw [upd_same, List.map_append, rfs_append]; rfl, ?_, ?_⟩
        · show All2 _ _ (((st.b, st.i) :: st.up).reverse ++ [([], [])])
          rw [List.reverse_cons]
          refine (R1.at_.imp_mem fun y bi hy z => z.frame (Same.refl G) fun a ha o q => ?_).snoc ⟨⟨dl, ?_⟩, ⟨[], ?_, All2.nil⟩, ⟨[], ?_, All2.nil⟩⟩
          · rw [upd_ne (R1.r_foot (mem_foot hy ha)).2]; exact q
          · rw [upd_ne (hll nL)]; exact h1
          · rw [upd_ne (hll nb)]; exact h2
          · rw [upd_ne (hll np)]; exact h3
        · exact ⟨perm.nodup ft0.nd, fun a ha => ft0.n0 a (perm.mem_iff.mpr ha), fun a ha => ft0.ng a (perm.mem_iff.mpr ha), fun a ha => upd_ne_none (ft0.nh a (perm.mem_iff.mpr ha))⟩
      refine ⟨_, rfl, r, t.cR, dx, _, rfl, (by rw [upd_ne R1.r_ll]; exact s1 _ _ hob), T.clR, T.rR, (by show 5 < 1000; decide), ?_⟩
      rw [rF_putR]
      exact k _ _ _ _ (R2.setR (md := .sign false) (dx := dx) (aw := aw) (le := le) (mo := mo) (rp := false) ⟨hM.1, rfl⟩)
end
end PW
end
section
set_option Elab.async false
set_option linter.all false
set_option maxRecDepth 100000
namespace PW
open PySem L2 Mth
section
variable {P : Program} {w : World} {K : PySem.W.Frag} {mg : Str → Option Value} {base : Heap} {t : Ad}
theorem Sz.cur {n : Nat} {st : RS} (h : Sz n st) : st.b.length ≤ n ∧ st.i.length ≤ n := h (st.b, st.i) (by simp)
/-- the innermost level is taken away -/
theorem RdAt.pop {G0 H0 G H : Hp} {r ll : Addr} {xm : List (Addr × Addr × Addr)} {x : Addr × Addr × Addr} {b i b2 i2 : List Pat} {rest : List (List Pat × List Pat)} {md : Md}
    (R : RdAt t G0 H0 G H r ll (xm ++ [x]) ⟨b, i, (b2, i2) :: rest, md⟩) : RdAt t G0 H0 G (upd H ll (.lst (rfs (xm.map (·.1))))) r ll xm ⟨b2, i2, rest, md⟩ := by
  obtain ⟨dx, aw, rp, le, mo, q1, q2⟩ := R.ob
  obtain ⟨xm', x', e, hA, hl⟩ := R.last
  obtain ⟨rfl, e2⟩ := List.append_inj' e rfl
  have hs : List.Sublist (r :: ll :: foot xm) (r :: ll :: foot (xm ++ [x])) := by
    rw [foot_append]
    exact List.Sublist.cons_cons r (List.Sublist.cons_cons ll (List.sublist_append_left _ _))
  have hA : All2 (LvAt t G H) xm (rest.reverse ++ [(b2, i2)]) := by
    have z : ((b2, i2) :: rest).reverse = rest.reverse ++ [(b2, i2)] := List.reverse_cons
    rw [← z]; exact hA
  refine ⟨R.ext.mut R.mem_ll.1 R.mem_ll.2 _, ⟨dx, aw, rp, le, mo, by rw [upd_ne R.r_ll]; exact q1, q2⟩, upd_same, hA.imp_mem fun y bi hy z => z.frame (Same.refl G) fun a ha o q => ?_, ?_⟩
  · rw [upd_ne (R.r_foot (mem_foot (List.mem_append_left _ hy) ha)).2]; exact q
  · exact (R.ft.sub hs).next (R.ft.sub hs).ng fun a ha => upd_ne_none ((R.ft.sub hs).nh a ha)
/-! ### takes_right_bracket -/
def rbrR (st : RS) : Option RS := match st.up with
  | [] => none
  | (b2, i2) :: rest => some ⟨b2, i2 ++ [.alt (st.b ++ [.seq st.i])], rest, .sign true⟩
inductive spRBr (t : Ad) (vs : List V) (H : Hp) (Q : VK) (E : XK) : Prop
  | mk (G0 H0 G : Hp) (r ll : Addr) (xs : List (Addr × Addr × Addr)) (st : RS) (rep : Bool) : (vs = [.ref r]) → (RdAt t G0 H0 G H r ll xs st) → (st.md = .sign rep) → (Sz 1040 st) → (StepQ t G0 H0 r (rbrR st) Q) → spRBr t vs H Q E
theorem scRb : FnScope ["self", "inner"] ["self"] (defScope sRBr) := ⟨rfl, rfl, rfl, by decide +kernel, rfl, by decide +kernel, by decide +kernel⟩
theorem ok_rbr {f fW fI : Addr} {fd fdW fdI : FuncData} (D : Dm K t.cR "takes_right_bracket" "Reader.takes_right_bracket" sRBr ["self"] f fd) (DW : Dm K t.cL "whole" "Level.whole" sWhole ["self"] fW fdW) (GW : FnOk P w K mg base CX0 7 fW fdW ["self"] (spWhole t))
    (DI : Dm K t.cR "takes_item" "Reader.takes_item" sItem ["self", "piece"] fI fdI) (T : Txt K mg t) : FnOk P w K mg base CX0 8 f fd ["self"] (spRBr t) := by
  have GI : FnOk P w K mg base CX0 1 fI fdI ["self", "piece"] (spItem t) := ok_item DI T
  refine D.F.ok scRb (fun vs H Q E h => ?_) (fun cdv A outer s H vs Q E hr h => ?_)
  · obtain ⟨G0, H0, G, r, ll, xs, st, rep, rfl, _⟩ := h
    rfl
  · obtain ⟨G0, H0, G, r, ll, xs, ⟨b, i, up, md⟩, rep, rfl, R, hmd, hsz, k⟩ := h
    have hmd : md = .sign rep := hmd
    subst hmd
    obtain ⟨dx, aw, rp, le, mo, hob, hM⟩ := R.ob
    have hr1 : Room 1 _ := hr.mono (by decide)
    have hxl : xs.length = up.length + 1 := by have := R.at_.1; simp at this; exact this
    refine ⟨_, pss_cons (ps_if (pt_cmpR op_eq (pe_callB call_len_seq rfl T.len PySem.boot_len (pa_cons (pe_fld (pv 0) rfl) pa_nil)) pe_int (nomark _)) (pss_one (ps_ret pe_bl)) pss_nil)
      (pss_cons (ps_set (i := 1) scRb.nd rfl (Or.inl rfl) (pe_bm0 PySem.F.plainAttrs_list PySem.F.slot_list_pop PySem.F.type_list_pop mt_pop (pe_fld (pv 0) rfl)))
      (pss_one (ps_ret (pe_meth (pv 0) T.clR DI.m GI hr1 DI.b .nil pass0 (pa_cons (pe_meth0 (pv 1) T.clL DW.m GW hr DW.b .nil pass0) pa_nil))))), ?_⟩
    refine ⟨_, rfl, r, t.cR, dx, _, _, rfl, hob, T.clR, T.rL, rF_levels _ _ _ _ _, ll, _, rfl, .inl (SqL.of R.lv), rfl, _, rfl, ?_⟩
    refine ite2 (fun c => ?_) (fun c => ?_)
    · have hc : up = [] := by
        have := dI c
        rw [rfs_length, List.length_map] at this
        exact List.length_eq_zero_iff.mp (by omega)
      subst hc
      exact k G H R.ext
    · match up, hxl, R, hsz, k, c with
      | [], hxl, R, hsz, k, c => exact absurd (by rw [rfs_length, List.length_map, hxl]; rfl) (dIn c)
      | (b2, i2) :: rest, hxl, R, hsz, k, c =>
        obtain ⟨xm, x, rfl, hA, hl⟩ := R.last
        have hpop := R.pop
        have hl' : H ll = some (.lst (rfs (xm.map (·.1)) ++ [V.ref x.1])) := by
          have := R.lv
          rw [List.map_append, rfs_append] at this
          exact this
        refine ⟨_, rfl, r, t.cR, dx, _, _, rfl, hob, T.clR, T.rL, rF_levels _ _ _ _ _, .inl ⟨rfl, _, SqL.of R.lv⟩, ll, _, V.ref x.1, rfl, rfl, hl', ?_, ?_⟩
        · rw [List.length_append, List.length_singleton, Nat.add_sub_cancel, List.getElem?_append_right (Nat.le_refl _)]
          simp
        · rw [List.dropLast_concat]
          obtain ⟨dl, hlo⟩ := hl.ob
          have hxf : ∀ {a : Addr}, a ∈ foot1 x → a ≠ ll := fun ha => (R.r_foot (foot_last ha)).2
          have hLl : x.1 ≠ ll := hxf (by simp [foot1])
          have hl2 : LvAt t G (upd H ll (.lst (rfs (xm.map (·.1))))) x (b, i) := hl.frame (Same.refl G) fun a ha o q => by rw [upd_ne (hxf ha)]; exact q
          have hft2 : Ft H0 G (upd H ll (.lst (rfs (xm.map (·.1))))) (foot1 x) := R.ft1.next R.ft1.ng fun a ha => upd_ne_none (R.ft1.nh a ha)
          refine ⟨_, rfl, r, dx, _, rfl, (by rw [upd_ne R.r_ll]; exact hob), rF_item _ _ _ _ _, _, rfl, x.1, dl, _, rfl, (by rw [upd_ne hLl]; exact hlo), lF_whole _ _, G0, H0, G, x, b, i, rfl, hpop.ext, hl2, hft2, by have := hsz.cur.1; simp only at this; omega, by have := hsz.cur.2; simp only at this; omega, fun a G2 H2 e2 hpa sg2 kp kg => ?_⟩
          have hne : ∀ a' ∈ r :: ll :: foot xm, a' ≠ x.1 ∧ a' ≠ x.2.1 := fun a' ha' => by
            have m1 : x.1 ∈ foot1 x := by simp [foot1]
            have m2 : x.2.1 ∈ foot1 x := by simp [foot1]
            rcases List.mem_cons.mp ha' with e | ha'
            · rw [e]; exact ⟨(R.r_foot (foot_last m1)).1.symm, (R.r_foot (foot_last m2)).1.symm⟩
            · rcases List.mem_cons.mp ha' with e | ha'
              · rw [e]; exact ⟨(R.r_foot (foot_last m1)).2.symm, (R.r_foot (foot_last m2)).2.symm⟩
              · exact ⟨foot_sep R.foot_nd ha' m1, foot_sep R.foot_nd ha' m2⟩
          have R2 : RdAt t G0 H0 G2 H2 r ll xm ⟨b2, i2, rest, .sign rep⟩ := hpop.move e2 sg2 (fun a' ha' o q => kp a' o q (hne a' ha').1 (hne a' ha').2) fun a' ha' => kg a' (hpop.ft.nh a' ha') (hne a' ha').2 (hpop.ft.ng a' ha')
          have hsz2 := hsz (b2, i2) (by simp)
          exact ⟨G0, H0, G2, r, ll, xm, ⟨b2, i2, rest, .sign rep⟩, rep, a, .alt (b ++ [.seq i]), rfl, R2, rfl, hpa, by have := hsz2.2; simp only at this ⊢; omega, fun H' R3 => k _ _ _ _ R3⟩
/-! ### takes_bar -/
inductive spBar (t : Ad) (vs : List V) (H : Hp) (Q : VK) (E : XK) : Prop
  | mk (G0 H0 G : Hp) (r ll : Addr) (xs : List (Addr × Addr × Addr)) (st : RS) (rep : Bool) : (vs = [.ref r]) → (RdAt t G0 H0 G H r ll xs st) → (st.md = .sign rep) → (Sz 1040 st) → (StepQ t G0 H0 r (some ⟨st.b ++ [.seq st.i], [], st.up, .sign false⟩) Q) → spBar t vs H Q E
theorem scBa : FnScope ["self"] ["self"] (defScope sBar) := ⟨rfl, rfl, rfl, by decide +kernel, rfl, by decide +kernel, by decide +kernel⟩
theorem ok_bar {f fE : Addr} {fd fdE : FuncData} (D : Dm K t.cR "takes_bar" "Reader.takes_bar" sBar ["self"] f fd) (DE : Dm K t.cL "end_branch" "Level.end_branch" sEndBr ["self"] fE fdE) (GE : FnOk P w K mg base CX0 6 fE fdE ["self"] (spEnd t)) (T : Txt K mg t) :
    FnOk P w K mg base CX0 7 f fd ["self"] (spBar t) := by
  refine D.F.ok scBa (fun vs H Q E h => ?_) (fun cdv A outer s H vs Q E hr h => ?_)
  · obtain ⟨G0, H0, G, r, ll, xs, st, rep, rfl, _⟩ := h
    rfl
  · obtain ⟨G0, H0, G, r, ll, xs, st, rep, rfl, R, hmd, hsz, k⟩ := h
    obtain ⟨dx, aw, rp, le, mo, hob, hM⟩ := R.ob
    rw [hmd] at hM
    obtain ⟨xm, x, rfl, hA, hl⟩ := R.last
    obtain ⟨dl, hlo⟩ := hl.ob
    refine ⟨_, pss_cons (ps_expr (pe_meth0 (pe_ix ix_list (pe_fld (pv 0) rfl) (pe_un un_neg pe_int) (fun _ _ => rfl)) T.clL DE.m GE hr DE.b .nil pass0)) (pss_cons (ps_fld (pv 0) pe_bl rfl) (pss_one (ps_ret pe_bl))), ?_⟩
    refine ⟨_, rfl, r, t.cR, dx, _, _, rfl, hob, T.clR, T.rL, rF_levels _ _ _ _ _, _, rfl, ll, _, _, _, rfl, rfl, SqL.of R.lv, atLast1 xm x, x.1, dl, _, rfl, hlo, lF_end _ _, G0, H0, G, x, st.b, st.i, rfl, R.ext, hl, R.ft1, by have := hsz.cur.1; omega, by have := hsz.cur.2; omega, fun np G2 H2 e2 hlv2 hnp sg2 kp kg hnG hn0 => ?_⟩
    have m1 : x.1 ∈ foot1 x := by simp [foot1]
    have m2 : x.2.1 ∈ foot1 x := by simp [foot1]
    have hne : ∀ a' ∈ r :: ll :: foot xm, a' ≠ x.1 ∧ a' ≠ x.2.1 := fun a' ha' => by
      rcases List.mem_cons.mp ha' with e | ha'
      · rw [e]; exact ⟨(R.r_foot (foot_last m1)).1.symm, (R.r_foot (foot_last m2)).1.symm⟩
      · rcases List.mem_cons.mp ha' with e | ha'
        · rw [e]; exact ⟨(R.r_foot (foot_last m1)).2.symm, (R.r_foot (foot_last m2)).2.symm⟩
        · exact ⟨foot_sep R.foot_nd ha' m1, foot_sep R.foot_nd ha' m2⟩
    have hnpf : np ∉ r :: ll :: foot (xm ++ [x]) := fun hm => R.ft.nh _ hm hnp
    have hmem : ∀ a' ∈ r :: ll :: foot xm, a' ∈ r :: ll :: foot (xm ++ [x]) := fun a' ha' => by
      rw [foot_append]
      rcases List.mem_cons.mp ha' with e | ha'
      · rw [e]; simp
      · rcases List.mem_cons.mp ha' with e | ha'
        · rw [e]; simp
        · exact List.mem_cons_of_mem _ (List.mem_cons_of_mem _ (List.mem_append_left _ ha'))
    have kp' : ∀ a' ∈ r :: ll :: foot xm, ∀ o, H a' = some o → H2 a' = some o := fun a' ha' o q => kp a' o q (hne a' ha').1 (hne a' ha').2
    have R2 : RdAt t G0 H0 G2 H2 r ll (xm ++ [(x.1, x.2.1, np)]) ⟨st.b ++ [.seq st.i], [], st.up, .sign rep⟩ := by
      refine ⟨e2, ⟨dx, aw, rp, le, mo, kp' r (by simp) _ hob, hM⟩, ?_, (hA.imp_mem fun y bi hy z => z.frame sg2 fun a' ha' o q => kp' a' (List.mem_cons_of_mem _ (List.mem_cons_of_mem _ (mem_foot hy ha'))) o q).snoc hlv2, ?_⟩
      · have := kp' ll (by simp) _ R.lv
        rw [List.map_append] at this ⊢
        exact this
      · have ex : ∀ a', a' ∈ r :: ll :: foot (xm ++ [(x.1, x.2.1, np)]) → a' = np ∨ a' ∈ r :: ll :: foot (xm ++ [x]) := fun a' ha' => by
          rw [foot_append, foot_one] at ha' ⊢
          simp only [List.mem_cons, List.mem_append, List.not_mem_nil, or_false] at ha' ⊢
          rcases ha' with h | h | h | h | h | h
          · exact .inr (.inl h)
          · exact .inr (.inr (.inl h))
          · exact .inr (.inr (.inr (.inl h)))
          · exact .inr (.inr (.inr (.inr (.inl h))))
          · exact .inr (.inr (.inr (.inr (.inr (.inl h)))))
          · exact .inl h
        refine ⟨?_, fun a' ha' => ?_, fun a' ha' => ?_, fun a' ha' => ?_⟩
        · have nd := R.ft.nd
          rw [foot_append, foot_one] at nd hnpf ⊢
          have nd2 : ((r :: ll :: foot xm) ++ [x.1, x.2.1, x.2.2]).Nodup := nd
          show ((r :: ll :: foot xm) ++ [x.1, x.2.1, np]).Nodup
          rw [List.nodup_append] at nd2 ⊢
          have hnpf2 : np ∉ (r :: ll :: foot xm) ++ [x.1, x.2.1, x.2.2] := hnpf
          simp only [List.mem_append, not_or] at hnpf2
          obtain ⟨n1, n2, n3⟩ := foot1_nd R.ft1.nd
          refine ⟨nd2.1, ?_, fun a' ha' b' hb' => ?_⟩
          · have z := hnpf2.2
            simp only [List.mem_cons, List.not_mem_nil, or_false, not_or] at z
            simp only [List.nodup_cons, List.mem_cons, List.not_mem_nil, or_false, not_or, not_false_iff, List.nodup_nil, and_true]
            exact ⟨⟨n1, fun e => z.1 e.symm⟩, fun e => z.2.1 e.symm⟩
          · simp only [List.mem_cons, List.not_mem_nil, or_false] at hb'
            rcases hb' with e | e | e
            · rw [e]; exact nd2.2.2 a' ha' x.1 (by simp)
            · rw [e]; exact nd2.2.2 a' ha' x.2.1 (by simp)
            · rw [e]; exact fun e2 => hnpf2.1 (by rw [← e2]; exact ha')
        · rcases ex a' ha' with e | h
          · rw [e]; exact hn0
          · exact R.ft.n0 a' h
        · rcases ex a' ha' with e | h
          · rw [e]; exact hnG
          · exact kg a' (R.ft.nh a' h) (R.ft.ng a' h)
        · rw [foot_append, foot_one] at ha'
          obtain ⟨⟨d2, o1⟩, ⟨bs2, o2, _⟩, ⟨ps2, o3, _⟩⟩ := hlv2
          simp only [List.mem_cons, List.mem_append, List.not_mem_nil, or_false] at ha'
          have go : a' ∈ r :: ll :: foot xm → H2 a' ≠ none := fun hm => by
            cases e : H a' with
            | none => exact absurd e (R.ft.nh a' (hmem a' hm))
            | some o => exact some_ne (kp' a' hm o e)
          rcases ha' with h | h | h | h | h | h
          · exact go (by rw [h]; simp)
          · exact go (by rw [h]; simp)
          · exact go (List.mem_cons_of_mem _ (List.mem_cons_of_mem _ h))
          · rw [h]; exact some_ne o1
          · rw [h]; exact some_ne o2
          · rw [h]; exact some_ne o3
    refine ⟨_, rfl, r, t.cR, dx, _, rfl, kp' r (by simp) _ hob, T.clR, T.rR, (by show 5 < 1000; decide), ?_⟩
    rw [rF_putR]
    exact k _ _ _ _ (R2.setR (md := .sign false) (dx := dx) (aw := aw) (le := le) (mo := mo) (rp := false) ⟨hM.1, rfl⟩)
/-! ### takes_left_brace -/
inductive spLBrace (t : Ad) (vs : List V) (H : Hp) (Q : VK) (E : XK) : Prop
  | mk (G0 H0 G : Hp) (r ll : Addr) (xs : List (Addr × Addr × Addr)) (st : RS) (rep : Bool) : (vs = [.ref r]) → (RdAt t G0 H0 G H r ll xs st) → (st.md = .sign rep) → (StepQ t G0 H0 r (if rep then some ⟨st.b, st.i, st.up, .least⟩ else none) Q) → spLBrace t vs H Q E
theorem scLc : FnScope ["self"] ["self"] (defScope sLBrace) := ⟨rfl, rfl, rfl, by decide +kernel, rfl, by decide +kernel, by decide +kernel⟩
theorem ok_lbrace {f : Addr} {fd : FuncData} (D : Dm K t.cR "takes_left_brace" "Reader.takes_left_brace" sLBrace ["self"] f fd) (T : Txt K mg t) : FnOk P w K mg base CX0 1 f fd ["self"] (spLBrace t) := by
  refine D.F.ok scLc (fun vs H Q E h => ?_) (fun cdv A outer s H vs Q E hr h => ?_)
  · obtain ⟨G0, H0, G, r, ll, xs, st, rep, rfl, _⟩ := h
    rfl
  · obtain ⟨G0, H0, G, r, ll, xs, st, rep, rfl, R, hmd, k⟩ := h
    obtain ⟨dx, aw, rp, le, mo, hob, hM⟩ := R.ob
    rw [hmd] at hM
    obtain ⟨_, hrp⟩ := hM
    subst hrp
    refine ⟨_, pss_cons (ps_if (pt_not (pt_truth (pe_fld (pv 0) rfl) (fun _ => rfl))) (pss_one (ps_ret pe_bl)) pss_nil) (pss_cons (ps_fld (pv 0) (pgi T.aL) rfl) (pss_one (ps_ret pe_bl))), ?_⟩
    refine ⟨_, rfl, r, t.cR, dx, _, _, rfl, hob, T.clR, T.rR, rF_rep _ _ _ _ _, rp, rfl, ?_⟩
    cases rp with
    | false => exact iteT (k G H R.ext)
    | true =>
      refine iteF ⟨_, rfl, r, t.cR, dx, _, rfl, hob, T.clR, T.rA, (by show 5 < 1000; decide), ?_⟩
      rw [rF_putA]
      exact k _ _ _ _ (R.setR (md := .least) (dx := dx) (aw := 1) (le := le) (mo := mo) (rp := true) rfl)
end
end PW
end
section
set_option Elab.async false
set_option linter.all false
set_option maxRecDepth 100000
namespace PW
open PySem L2 Mth
section
variable {P : Program} {w : World} {K : PySem.W.Frag} {mg : Str → Option Value} {base : Heap} {t : Ad}
/-- a byte taken in a state -/
inductive spStep (t : Ad) (ok : Md → Prop) (vs : List V) (H : Hp) (Q : VK) (E : XK) : Prop
  | mk (G0 H0 G : Hp) (r ll : Addr) (xs : List (Addr × Addr × Addr)) (st : RS) (c : UInt8) : (vs = [.ref r, .int (c.toNat : Nat)]) → (RdAt t G0 H0 G H r ll xs st) → (ok st.md) → (SOk st) → (Sz 1040 st) → (StepQ t G0 H0 r (step st c) Q) → spStep t ok vs H Q E
abbrev psB : List Str := ["self", "byte"]
/-! ### takes_least -/
theorem scLe : FnScope ["self", "byte", "digit"] psB (defScope sLeast) := ⟨rfl, rfl, rfl, by decide +kernel, rfl, by decide +kernel, by decide +kernel⟩
theorem ok_least {f : Addr} {fd : FuncData} (D : Dm K t.cR "takes_least" "Reader.takes_least" sLeast psB f fd) (T : Txt K mg t) : FnOk P w K mg base CX0 1 f fd psB (spStep t fun md => md = .least) := by
  refine D.F.ok scLe (fun vs H Q E h => ?_) (fun cdv A outer s H vs Q E hr h => ?_)
  · obtain ⟨G0, H0, G, r, ll, xs, st, c, rfl, _⟩ := h
    rfl
  · obtain ⟨G0, H0, G, r, ll, xs, ⟨b, i, up, md⟩, c, rfl, R, hmd, hok, hsz, k⟩ := h
    have hmd : md = .least := hmd
    subst hmd
    obtain ⟨dx, aw, rp, le, mo, hob, hM⟩ := R.ob
    have ks : StepQ t G0 H0 r (match Sg05.digit c with | some m => some ⟨b, i, up, .comma m⟩ | none => none) Q := k
    refine ⟨_, pss_cons (ps_set (i := 2) scLe.nd rfl (Or.inl rfl) (pe_op op_sub (pv 1) (pgi T.d0)))
      (pss_cons (ps_if (L2.PW.pt (pw_or (pt_cmpR op_lt (pv 2) pe_int (nomark _)) (pw_or1 (pt_cmpR op_gt (pv 2) pe_int (nomark _))))) (pss_one (ps_ret pe_bl)) pss_nil)
      (pss_cons (ps_fld (pv 0) (pv 2) rfl) (pss_cons (ps_fld (pv 0) (pgi T.aC) rfl) (pss_one (ps_ret pe_bl))))), ?_⟩
    refine ⟨_, rfl, _, _, rfl, rfl, _, rfl, _, _, rfl, rfl, _, rfl, ?_⟩
    cases hd : Sg05.digit c with
    | none =>
      rw [hd] at ks
      refine ite2 (fun c1 => iteT (ks G H R.ext)) (fun c1 => ?_)
      refine ⟨_, rfl, _, _, rfl, rfl, _, rfl, ?_⟩
      refine ite2 (fun c2 => ks G H R.ext) (fun c2 => ?_)
      exfalso
      rcases digit_none hd with z | z
      · exact dF' c1 z
      · exact dF' c2 z
    | some m =>
      rw [hd] at ks
      obtain ⟨h9, hm⟩ := digit_le hd
      refine ite2 (fun c1 => ?_) (fun c1 => ?_)
      · exfalso
        have := dT c1
        omega
      refine ⟨_, rfl, _, _, rfl, rfl, _, rfl, ?_⟩
      refine ite2 (fun c2 => ?_) (fun c2 => ?_)
      · exfalso
        have := dT c2
        omega
      refine ⟨_, rfl, _, rfl, r, t.cR, dx, _, rfl, hob, T.clR, T.rE, (by show 5 < 1000; decide), _, rfl, r, t.cR, dx, _, rfl, upd_same, T.clR, T.rA, (by rw [rF_putL]; show 5 < 1000; decide), ?_⟩
      rw [upd_upd, rF_putL, rF_putA]
      show Q (.bl true) (upd H r (.ins t.cR dx (rF (.ref ll) (.int 2) (.bl rp) (.int ((c.toNat : Int) - 48)) (.int mo))))
      rw [hm]
      exact ks _ _ _ _ (R.setR (md := .comma m) (dx := dx) (aw := 2) (le := (m : Int)) (mo := mo) (rp := rp) ⟨rfl, rfl⟩)
/-! ### takes_comma -/
theorem scCo : FnScope psB psB (defScope sComma) := ⟨rfl, rfl, rfl, by decide +kernel, rfl, by decide +kernel, by decide +kernel⟩
theorem toNat_ne {c d : UInt8} (h : c ≠ d) : (c.toNat : Int) ≠ (d.toNat : Int) := fun e => h (UInt8.toNat_inj.mp (by omega))
theorem ok_comma {f : Addr} {fd : FuncData} (D : Dm K t.cR "takes_comma" "Reader.takes_comma" sComma psB f fd) (T : Txt K mg t) : FnOk P w K mg base CX0 1 f fd psB (spStep t fun md => ∃ m, md = .comma m) := by
  refine D.F.ok scCo (fun vs H Q E h => ?_) (fun cdv A outer s H vs Q E hr h => ?_)
  · obtain ⟨G0, H0, G, r, ll, xs, st, c, rfl, _⟩ := h
    rfl
  · obtain ⟨G0, H0, G, r, ll, xs, ⟨b, i, up, md⟩, c, rfl, R, ⟨m, hmd⟩, hok, hsz, k⟩ := h
    have hmd : md = .comma m := hmd
    subst hmd
    obtain ⟨dx, aw, rp, le, mo, hob, hM⟩ := R.ob
    obtain ⟨_, hle⟩ := hM
    subst hle
    have ks : StepQ t G0 H0 r (if c = 44 then some ⟨b, i, up, .most m⟩ else none) Q := k
    refine ⟨_, pss_cons (ps_if (pt_cmpR op_ne (pv 1) (pgi T.comma) (nomark _)) (pss_one (ps_ret pe_bl)) pss_nil) (pss_cons (ps_fld (pv 0) (pgi T.aM) rfl) (pss_one (ps_ret pe_bl))), ?_⟩
    refine ⟨_, rfl, rfl, _, rfl, ?_⟩
    by_cases hc : c = 44
    · subst hc
      rw [if_pos rfl] at ks
      refine iteNS (by rfl) ?_
      refine ⟨_, rfl, r, t.cR, dx, _, rfl, hob, T.clR, T.rA, (by show 5 < 1000; decide), ?_⟩
      rw [rF_putA]
      exact ks _ _ _ _ (R.setR (md := .most m) (dx := dx) (aw := 3) (le := (m : Int)) (mo := mo) (rp := rp) ⟨rfl, rfl⟩)
    · rw [if_neg hc] at ks
      have z : decide (V.int (c.toNat : Int) = V.int 44) = false := decide_eq_false fun e => by
        injection e with e
        exact toNat_ne hc e
      rw [z]
      exact iteT (ks G H R.ext)
/-! ### takes_most -/
theorem scMo : FnScope ["self", "byte", "digit"] psB (defScope sMost) := ⟨rfl, rfl, rfl, by decide +kernel, rfl, by decide +kernel, by decide +kernel⟩
theorem ok_most {f : Addr} {fd : FuncData} (D : Dm K t.cR "takes_most" "Reader.takes_most" sMost psB f fd) (T : Txt K mg t) : FnOk P w K mg base CX0 1 f fd psB (spStep t fun md => ∃ m, md = .most m) := by
  refine D.F.ok scMo (fun vs H Q E h => ?_) (fun cdv A outer s H vs Q E hr h => ?_)
  · obtain ⟨G0, H0, G, r, ll, xs, st, c, rfl, _⟩ := h
    rfl
  · obtain ⟨G0, H0, G, r, ll, xs, ⟨b, i, up, md⟩, c, rfl, R, ⟨m, hmd⟩, hok, hsz, k⟩ := h
    have hmd : md = .most m := hmd
    subst hmd
    obtain ⟨dx, aw, rp, le, mo, hob, hM⟩ := R.ob
    obtain ⟨_, hle⟩ := hM
    subst hle
    have ks : StepQ t G0 H0 r (match Sg05.digit c with | some n => if n < m then none else some ⟨b, i, up, .brace m n⟩ | none => none) Q := k
    refine ⟨_, pss_cons (ps_set (i := 2) scMo.nd rfl (Or.inl rfl) (pe_op op_sub (pv 1) (pgi T.d0)))
      (pss_cons (ps_if (L2.PW.pt (pw_or (pt_cmpR op_lt (pv 2) (pe_fld (pv 0) rfl) (nomark _)) (pw_or1 (pt_cmpR op_gt (pv 2) pe_int (nomark _))))) (pss_one (ps_ret pe_bl)) pss_nil)
      (pss_cons (ps_fld (pv 0) (pv 2) rfl) (pss_cons (ps_fld (pv 0) (pgi T.aB) rfl) (pss_one (ps_ret pe_bl))))), ?_⟩
    refine ⟨_, rfl, _, _, rfl, rfl, _, rfl, _, rfl, r, t.cR, dx, _, _, rfl, hob, T.clR, T.rE, rF_least _ _ _ _ _, _, _, rfl, rfl, _, rfl, ?_⟩
    cases hd : Sg05.digit c with
    | none =>
      rw [hd] at ks
      refine ite2 (fun c1 => iteT (ks G H R.ext)) (fun c1 => ?_)
      refine ⟨_, rfl, _, _, rfl, rfl, _, rfl, ?_⟩
      refine ite2 (fun c2 => ks G H R.ext) (fun c2 => ?_)
      exfalso
      rcases digit_none hd with z | z
      · exact dF' c1 (by omega)
      · exact dF' c2 z
    | some n =>
      rw [hd] at ks
      have ks : StepQ t G0 H0 r (if n < m then none else some ⟨b, i, up, .brace m n⟩) Q := ks
      obtain ⟨h9, hm⟩ := digit_le hd
      refine ite2 (fun c1 => ?_) (fun c1 => ?_)
      · have c1' := dT c1
        rw [if_pos (by omega)] at ks
        exact iteT (ks G H R.ext)
      have c1' := dF' c1
      rw [if_neg (by omega)] at ks
      refine ⟨_, rfl, _, _, rfl, rfl, _, rfl, ?_⟩
      refine ite2 (fun c2 => ?_) (fun c2 => ?_)
      · exfalso
        have := dT c2
        omega
      refine ⟨_, rfl, _, rfl, r, t.cR, dx, _, rfl, hob, T.clR, T.rM, (by show 5 < 1000; decide), _, rfl, r, t.cR, dx, _, rfl, upd_same, T.clR, T.rA, (by rw [rF_putM]; show 5 < 1000; decide), ?_⟩
      rw [upd_upd, rF_putM, rF_putA]
      show Q (.bl true) (upd H r (.ins t.cR dx (rF (.ref ll) (.int 4) (.bl rp) (.int (m : Int)) (.int ((c.toNat : Int) - 48)))))
      rw [hm]
      exact ks _ _ _ _ (R.setR (md := .brace m n) (dx := dx) (aw := 4) (le := (m : Int)) (mo := (n : Int)) (rp := rp) ⟨rfl, rfl, rfl⟩)
/-! ### takes_right_brace -/
theorem scRc : FnScope ["self", "byte", "level", "piece"] psB (defScope sRBrace) := ⟨rfl, rfl, rfl, by decide +kernel, rfl, by decide +kernel, by decide +kernel⟩
theorem ok_rbrace {f fR : Addr} {fd fdR : FuncData} (D : Dm K t.cR "takes_right_brace" "Reader.takes_right_brace" sRBrace psB f fd) (DR : Df K mg "repeated" sRepeat psRp fR fdR) (GR : FnOk P w K mg base CX0 6 fR fdR psRp (spRepeat t)) (T : Txt K mg t) :
    FnOk P w K mg base CX0 7 f fd psB (spStep t fun md => ∃ m n, md = .brace m n) := by
  refine D.F.ok scRc (fun vs H Q E h => ?_) (fun cdv A outer s H vs Q E hr h => ?_)
  · obtain ⟨G0, H0, G, r, ll, xs, st, c, rfl, _⟩ := h
    rfl
  · obtain ⟨G0, H0, G, r, ll, xs, ⟨b, i, up, md⟩, c, rfl, R, ⟨m, n, hmd⟩, hok, hsz, k⟩ := h
    have hmd : md = .brace m n := hmd
    subst hmd
    obtain ⟨dx, aw, rp, le, mo, hob, hM⟩ := R.ob
    obtain ⟨_, hle, hmo⟩ := hM
    subst hle hmo
    have hmk : i ≠ [] ∧ m ≤ n ∧ n ≤ 9 := hok.md
    have ks : StepQ t G0 H0 r (if c = 125 then (match i.getLast? with | some p => some ⟨b, i.dropLast ++ [.rep p m n], up, .sign false⟩ | none => none) else none) Q := k
    refine ⟨_, pss_cons (ps_if (pt_cmpR op_ne (pv 1) (pgi T.rbrace) (nomark _)) (pss_one (ps_ret pe_bl)) pss_nil)
      (pss_cons (ps_set (i := 2) scRc.nd rfl (Or.inl rfl) (pe_ix ix_list (pe_fld (pv 0) rfl) (pe_un un_neg pe_int) (fun _ _ => rfl)))
      (pss_cons (ps_set (i := 3) scRc.nd rfl (Or.inl rfl) (pe_bm0 PySem.F.plainAttrs_list PySem.F.slot_list_pop PySem.F.type_list_pop mt_pop (pe_fld (pv 2) rfl)))
      (pss_cons (ps_expr (pe_bm PySem.F.plainAttrs_list PySem.F.slot_list_append PySem.F.type_list_append mt_append (pe_fld (pv 2) rfl) (pa_cons (pe_call GR hr rfl DR.m DR.F.kp DR.b .nil pass0 (pa_cons (pv 3) (pa_cons (pe_fld (pv 0) rfl) (pa_cons (pe_fld (pv 0) rfl) pa_nil)))) pa_nil)))
      (pss_cons (ps_fld (pv 0) (pgi T.aS) rfl) (pss_cons (ps_fld (pv 0) pe_bl rfl) (pss_one (ps_ret pe_bl))))))), ?_⟩
    refine ⟨_, rfl, rfl, _, rfl, ?_⟩
    by_cases hc : c = 125
    · subst hc
      rw [if_pos rfl] at ks
      refine iteNS (by rfl) ?_
      obtain ⟨im, p, rfl⟩ := last_split (pos_of_ne hmk.1)
      rw [List.getLast?_append, List.dropLast_concat] at ks
      have ks : StepQ t G0 H0 r (some ⟨b, im ++ [.rep p m n], up, .sign false⟩) Q := ks
      obtain ⟨xm, x, rfl, hA, hl⟩ := R.last
      obtain ⟨⟨dl, hlo⟩, _, ⟨ps, hpl, hps⟩⟩ := hl
      obtain ⟨pm, a, rfl, hpm, ha⟩ := hps.snoc_inv'
      have hx : x.2.2 ∈ foot1 x := by simp [foot1]
      have hx1 : x.1 ∈ foot1 x := by simp [foot1]
      obtain ⟨n1, n2, n3⟩ := foot1_nd R.ft1.nd
      have nr : r ≠ x.2.2 := (R.r_foot (foot_last hx)).1.symm
      have hpl' : H x.2.2 = some (.lst (rfs pm ++ [V.ref a])) := by rw [hpl, rfs_append]; rfl
      refine ⟨_, rfl, r, t.cR, dx, _, _, rfl, hob, T.clR, T.rL, rF_levels _ _ _ _ _, _, rfl, ll, _, _, _, rfl, rfl, SqL.of R.lv, atLast1 xm x, ?_⟩
      refine ⟨_, rfl, x.1, t.cL, dl, _, _, rfl, hlo, T.clL, T.lP, lF_pieces _ _, .inl ⟨rfl, _, SqL.of hpl⟩, x.2.2, _, V.ref a, rfl, rfl, hpl', ?_, ?_⟩
      · rw [List.length_append, List.length_singleton, Nat.add_sub_cancel, List.getElem?_append_right (Nat.le_refl _)]
        simp
      · rw [List.dropLast_concat]
        have R1 := R.setP (ps := pm) (i := im) hpm
        refine ⟨_, rfl, x.1, t.cL, dl, _, V.ref x.2.2, rfl, (by rw [upd_ne n2]; exact hlo), T.clL, T.lP, lF_pieces _ _, .inl ⟨rfl, _, SqL.of upd_same⟩, _, rfl, _, rfl, r, t.cR, dx, _, _, rfl, (by rw [upd_ne nr]; exact hob), T.clR, T.rE, rF_least _ _ _ _ _, _, rfl, r, t.cR, dx, _, _, rfl, (by rw [upd_ne nr]; exact hob), T.clR, T.rM, rF_most _ _ _ _ _,
          G, a, Sg05.words p, dep p, m, n, rfl, R1.ext.gh, ha, hmk.2.1, hmk.2.2, fun c2 G2 H2 e2 hc2 => ?_⟩
        have R2 := R1.call e2
        have hpl2 : H2 x.2.2 = some (.lst (rfs pm)) := e2.hh _ _ upd_same
        have hob2 : H2 r = _ := e2.hh _ _ (show upd H x.2.2 (.lst (rfs pm)) r = _ by rw [upd_ne nr]; exact hob)
        have hc3 : PA t G2 c2 (.rep p m n) := by
          unfold PA
          rw [words_rep, dep]
          exact hc2
        have hsz' := hsz.cur.2
        simp only [List.length_append] at hsz'
        refine ⟨x.2.2, _, _, rfl, rfl, hpl2, by rw [rfs_length, hpm.1]; exact sl16' (by omega), ?_⟩
        have R3 := R2.setP (ps := pm ++ [c2]) (i := im ++ [.rep p m n]) ((hpm.imp fun _ _ z => z.same e2.gg).snoc hc3)
        refine ⟨_, rfl, r, t.cR, dx, _, rfl, (by rw [upd_ne nr]; exact hob2), T.clR, T.rA, (by show 5 < 1000; decide), _, rfl, r, t.cR, dx, _, rfl, upd_same, T.clR, T.rR, (by rw [rF_putA]; show 5 < 1000; decide), ?_⟩
        rw [upd_upd, rF_putA, rF_putR, ← show rfs (pm ++ [c2]) = rfs pm ++ [V.ref c2] from rfs_append _ _]
        exact ks _ _ _ _ (R3.setR (md := .sign false) (dx := dx) (aw := 0) (le := (m : Int)) (mo := (n : Int)) (rp := false) ⟨rfl, rfl⟩)
    · rw [if_neg hc] at ks
      have z : decide (V.int (c.toNat : Int) = V.int 125) = false := decide_eq_false fun e => by
        injection e with e
        exact toNat_ne hc e
      rw [z]
      exact iteT (ks G H R.ext)
end
end PW
end
section
set_option Elab.async false
set_option linter.all false
set_option maxRecDepth 100000
namespace PW
open PySem L2 Mth
section
variable {P : Program} {w : World} {K : PySem.W.Frag} {mg : Str → Option Value} {base : Heap} {t : Ad}
/-! ### takes_sign -/
theorem scSi : FnScope psB psB (defScope sSign) := ⟨rfl, rfl, rfl, by decide +kernel, rfl, by decide +kernel, by decide +kernel⟩
theorem ok_sign {f fS fI fLb fRb fBa fLc : Addr} {fd fdS fdI fdLb fdRb fdBa fdLc : FuncData} (D : Dm K t.cR "takes_sign" "Reader.takes_sign" sSign psB f fd)
    (DS : Df K mg "single" sSingle ["word"] fS fdS) (GS : FnOk P w K mg base CX0 3 fS fdS ["word"] (spSingle t))
    (DI : Dm K t.cR "takes_item" "Reader.takes_item" sItem ["self", "piece"] fI fdI) (GI : FnOk P w K mg base CX0 1 fI fdI ["self", "piece"] (spItem t))
    (DLb : Dm K t.cR "takes_left_bracket" "Reader.takes_left_bracket" sLBr ["self"] fLb fdLb) (GLb : FnOk P w K mg base CX0 3 fLb fdLb ["self"] (spLBr t))
    (DRb : Dm K t.cR "takes_right_bracket" "Reader.takes_right_bracket" sRBr ["self"] fRb fdRb) (GRb : FnOk P w K mg base CX0 8 fRb fdRb ["self"] (spRBr t))
    (DBa : Dm K t.cR "takes_bar" "Reader.takes_bar" sBar ["self"] fBa fdBa) (GBa : FnOk P w K mg base CX0 7 fBa fdBa ["self"] (spBar t))
    (DLc : Dm K t.cR "takes_left_brace" "Reader.takes_left_brace" sLBrace ["self"] fLc fdLc) (GLc : FnOk P w K mg base CX0 1 fLc fdLc ["self"] (spLBrace t)) (T : Txt K mg t) :
    FnOk P w K mg base CX0 9 f fd psB (spStep t fun md => ∃ rep, md = .sign rep) := by
  refine D.F.ok scSi (fun vs H Q E h => ?_) (fun cdv A outer s H vs Q E hr h => ?_)
  · obtain ⟨G0, H0, G, r, ll, xs, st, c, rfl, _⟩ := h
    rfl
  · obtain ⟨G0, H0, G, r, ll, xs, ⟨b, i, up, md⟩, c, rfl, R, ⟨rep, hmd⟩, hok, hsz, k⟩ := h
    have hmd : md = .sign rep := hmd
    subst hmd
    obtain ⟨dx, aw, rp, le, mo, hob, hM⟩ := R.ob
    have h1 : Room 1 _ := hr.mono (by decide)
    have h3 : Room 3 _ := hr.mono (by decide)
    have h7 : Room 7 _ := hr.mono (by decide)
    have ks : StepQ t G0 H0 r (stepSign ⟨b, i, up, .sign rep⟩ rep c) Q := k
    unfold stepSign at ks
    simp only at ks
    refine ⟨_, pss_cons (ps_if (pt_chain op_le op_le (pgi T.la) (pv 1) (pgi T.lz)) (pss_one (ps_ret (pe_meth (pv 0) T.clR DI.m GI h1 DI.b .nil pass0 (pa_cons (pe_call GS h3 rfl DS.m DS.F.kp DS.b .nil pass0 (pa_cons (pe_tup (pa_cons (pv 1) pa_nil)) pa_nil)) pa_nil)))) pss_nil)
      (pss_cons (ps_if (pt_cmpR op_eq (pv 1) (pgi T.lbr) (nomark _)) (pss_one (ps_ret (pe_meth0 (pv 0) T.clR DLb.m GLb h3 DLb.b .nil pass0))) pss_nil)
      (pss_cons (ps_if (pt_cmpR op_eq (pv 1) (pgi T.rbr) (nomark _)) (pss_one (ps_ret (pe_meth0 (pv 0) T.clR DRb.m GRb hr DRb.b .nil pass0))) pss_nil)
      (pss_cons (ps_if (pt_cmpR op_eq (pv 1) (pgi T.bar) (nomark _)) (pss_one (ps_ret (pe_meth0 (pv 0) T.clR DBa.m GBa h7 DBa.b .nil pass0))) pss_nil)
      (pss_cons (ps_if (pt_cmpR op_eq (pv 1) (pgi T.lbrace) (nomark _)) (pss_one (ps_ret (pe_meth0 (pv 0) T.clR DLc.m GLc h1 DLc.b .nil pass0))) pss_nil)
      (pss_one (ps_ret pe_bl)))))), ?_⟩
    have hlet := letter_iff c
    -- what follows where the byte is no letter
    have rest : ¬ Sg05.letter c = true → tSeq (tIfS (tTest (tOp rEq (tVar 1) (tC (.int 40)))) (tRet (tMeth t.cR "takes_left_bracket" (spLBr t) [] E0 (tVar 0) tNil)) tNext)
        (tSeq (tIfS (tTest (tOp rEq (tVar 1) (tC (.int 41)))) (tRet (tMeth t.cR "takes_right_bracket" (spRBr t) [] E0 (tVar 0) tNil)) tNext)
        (tSeq (tIfS (tTest (tOp rEq (tVar 1) (tC (.int 124)))) (tRet (tMeth t.cR "takes_bar" (spBar t) [] E0 (tVar 0) tNil)) tNext)
        (tSeq (tIfS (tTest (tOp rEq (tVar 1) (tC (.int 123)))) (tRet (tMeth t.cR "takes_left_brace" (spLBrace t) [] E0 (tVar 0) tNil)) tNext)
        (tRet (tC (.bl false))))))
        { nx := fun _ H' => Q .non H', rt := Q } [some (.ref r), some (.int (c.toNat : Nat))] H := fun hl => by
      rw [if_neg hl] at ks
      have eqd : ∀ d : UInt8, decide (V.int (c.toNat : Int) = V.int (d.toNat : Int)) = true → c = d := fun d z => UInt8.toNat_inj.mp (by have := dI z; omega)
      refine ⟨_, rfl, rfl, _, rfl, ?_⟩
      refine ite2 (fun c1 => ?_) (fun c1 => ?_)
      · rw [if_pos (eqd 40 c1)] at ks
        exact ⟨_, rfl, r, dx, _, rfl, hob, rF_lbr _ _ _ _ _, G0, H0, G, r, ll, xs, ⟨b, i, up, .sign rep⟩, rep, rfl, R, rfl, hok.len, ks⟩
      rw [if_neg (fun z => c1 (by rw [z]; decide))] at ks
      refine ⟨_, rfl, rfl, _, rfl, ?_⟩
      refine ite2 (fun c2 => ?_) (fun c2 => ?_)
      · rw [if_pos (eqd 41 c2)] at ks
        exact ⟨_, rfl, r, dx, _, rfl, hob, rF_rbr _ _ _ _ _, G0, H0, G, r, ll, xs, ⟨b, i, up, .sign rep⟩, rep, rfl, R, rfl, hsz, ks⟩
      rw [if_neg (fun z => c2 (by rw [z]; decide))] at ks
      refine ⟨_, rfl, rfl, _, rfl, ?_⟩
      refine ite2 (fun c3 => ?_) (fun c3 => ?_)
      · rw [if_pos (eqd 124 c3)] at ks
        exact ⟨_, rfl, r, dx, _, rfl, hob, rF_bar _ _ _ _ _, G0, H0, G, r, ll, xs, ⟨b, i, up, .sign rep⟩, rep, rfl, R, rfl, hsz, ks⟩
      rw [if_neg (fun z => c3 (by rw [z]; decide))] at ks
      refine ⟨_, rfl, rfl, _, rfl, ?_⟩
      refine ite2 (fun c4 => ?_) (fun c4 => ?_)
      · rw [if_pos (eqd 123 c4)] at ks
        exact ⟨_, rfl, r, dx, _, rfl, hob, rF_lbrace _ _ _ _ _, G0, H0, G, r, ll, xs, ⟨b, i, up, .sign rep⟩, rep, rfl, R, rfl, ks⟩
      rw [if_neg (fun z => c4 (by rw [z]; decide))] at ks
      exact ks G H R.ext
    refine ⟨_, rfl, _, _, rfl, rfl, _, rfl, ?_⟩
    refine ite2 (fun c1 => ?_) (fun c1 => ?_)
    · refine ⟨_, _, rfl, rfl, _, rfl, ?_⟩
      refine ite2 (fun c2 => ?_) (fun c2 => ?_)
      · have hl : Sg05.letter c = true := hlet.mpr ⟨by have := dT c1; omega, by have := dT c2; omega⟩
        rw [if_pos hl] at ks
        refine ⟨_, rfl, r, dx, _, rfl, hob, rF_item _ _ _ _ _, _, rfl, (by show 1 ≤ sizeLine; decide), fun tw htw => ?_⟩
        have e1 := (Ext.refl R.ext.gh).fix htw (.tup [.int (c.toNat : Nat)])
        refine ⟨_, tw, [c], rfl, e1.gh, upd_same, by simp, fun a G2 H2 e2 hpc => ?_⟩
        have e12 := e1.trans e2
        have hi := hsz.cur.2
        simp only at hi
        refine ⟨G0, H0, G2, r, ll, xs, ⟨b, i, up, .sign rep⟩, rep, a, .byte c, rfl, R.call e12, rfl, ?_, by simp only; omega, fun H' R' => ks _ _ _ _ R'⟩
        unfold PA
        rw [dep, Sg05.words]
        exact hpc
      · exact rest fun z => dF' c2 (by have := (hlet.mp z).2; omega)
    · exact ⟨_, rfl, iteF (rest fun z => dF' c1 (by have := (hlet.mp z).1; omega))⟩
/-! ### takes -/
theorem scTk : FnScope psB psB (defScope sTakes) := ⟨rfl, rfl, rfl, by decide +kernel, rfl, by decide +kernel, by decide +kernel⟩
theorem ok_takes {f fL fC fM fB fS : Addr} {fd fdL fdC fdM fdB fdS : FuncData} (D : Dm K t.cR "takes" "Reader.takes" sTakes psB f fd)
    (DL : Dm K t.cR "takes_least" "Reader.takes_least" sLeast psB fL fdL) (GL : FnOk P w K mg base CX0 1 fL fdL psB (spStep t fun md => md = .least))
    (DC : Dm K t.cR "takes_comma" "Reader.takes_comma" sComma psB fC fdC) (GC : FnOk P w K mg base CX0 1 fC fdC psB (spStep t fun md => ∃ m, md = .comma m))
    (DM : Dm K t.cR "takes_most" "Reader.takes_most" sMost psB fM fdM) (GM : FnOk P w K mg base CX0 1 fM fdM psB (spStep t fun md => ∃ m, md = .most m))
    (DB : Dm K t.cR "takes_right_brace" "Reader.takes_right_brace" sRBrace psB fB fdB) (GB : FnOk P w K mg base CX0 7 fB fdB psB (spStep t fun md => ∃ m n, md = .brace m n))
    (DS : Dm K t.cR "takes_sign" "Reader.takes_sign" sSign psB fS fdS) (GS : FnOk P w K mg base CX0 9 fS fdS psB (spStep t fun md => ∃ rep, md = .sign rep)) (T : Txt K mg t) :
    FnOk P w K mg base CX0 10 f fd psB (spStep t fun _ => True) := by
  refine D.F.ok scTk (fun vs H Q E h => ?_) (fun cdv A outer s H vs Q E hr h => ?_)
  · obtain ⟨G0, H0, G, r, ll, xs, st, c, rfl, _⟩ := h
    rfl
  · obtain ⟨G0, H0, G, r, ll, xs, st, c, rfl, R, _, hok, hsz, k⟩ := h
    obtain ⟨dx, aw, rp, le, mo, hob, hM⟩ := R.ob
    have h1 : Room 1 _ := hr.mono (by decide)
    have h7 : Room 7 _ := hr.mono (by decide)
    refine ⟨_, pss_cons (ps_if (pt_cmpR op_eq (pe_fld (pv 0) rfl) (pgi T.aL) (nomark _)) (pss_one (ps_ret (pe_meth (pv 0) T.clR DL.m GL h1 DL.b .nil pass0 (pa_cons (pv 1) pa_nil)))) pss_nil)
      (pss_cons (ps_if (pt_cmpR op_eq (pe_fld (pv 0) rfl) (pgi T.aC) (nomark _)) (pss_one (ps_ret (pe_meth (pv 0) T.clR DC.m GC h1 DC.b .nil pass0 (pa_cons (pv 1) pa_nil)))) pss_nil)
      (pss_cons (ps_if (pt_cmpR op_eq (pe_fld (pv 0) rfl) (pgi T.aM) (nomark _)) (pss_one (ps_ret (pe_meth (pv 0) T.clR DM.m GM h1 DM.b .nil pass0 (pa_cons (pv 1) pa_nil)))) pss_nil)
      (pss_cons (ps_if (pt_cmpR op_eq (pe_fld (pv 0) rfl) (pgi T.aB) (nomark _)) (pss_one (ps_ret (pe_meth (pv 0) T.clR DB.m GB h7 DB.b .nil pass0 (pa_cons (pv 1) pa_nil)))) pss_nil)
      (pss_one (ps_ret (pe_meth (pv 0) T.clR DS.m GS hr DS.b .nil pass0 (pa_cons (pv 1) pa_nil))))))), ?_⟩
    have q : ∀ {e : Int}, ¬ aw = e → ¬ decide (V.int aw = V.int e) = true := fun hne z => hne (dI z)
    refine ⟨_, rfl, r, t.cR, dx, _, _, rfl, hob, T.clR, T.rA, rF_awaits _ _ _ _ _, rfl, _, rfl, ?_⟩
    refine ite2 (fun c1 => ?_) (fun c1 => ?_)
    · have e := dI c1
      refine ⟨_, rfl, r, dx, _, rfl, hob, rF_tleast _ _ _ _ _, _, rfl, G0, H0, G, r, ll, xs, st, c, rfl, R, ?_, hok, hsz, k⟩
      cases hmd : st.md with
      | least => rfl
      | sign rep => rw [hmd] at hM; obtain ⟨z, _⟩ := hM; omega
      | comma m => rw [hmd] at hM; obtain ⟨z, _⟩ := hM; omega
      | most m => rw [hmd] at hM; obtain ⟨z, _⟩ := hM; omega
      | brace m n => rw [hmd] at hM; obtain ⟨z, _⟩ := hM; omega
    refine ⟨_, rfl, r, t.cR, dx, _, _, rfl, hob, T.clR, T.rA, rF_awaits _ _ _ _ _, rfl, _, rfl, ?_⟩
    refine ite2 (fun c2 => ?_) (fun c2 => ?_)
    · have e := dI c2
      refine ⟨_, rfl, r, dx, _, rfl, hob, rF_comma _ _ _ _ _, _, rfl, G0, H0, G, r, ll, xs, st, c, rfl, R, ?_, hok, hsz, k⟩
      cases hmd : st.md with
      | least => rw [hmd] at hM; have z : aw = 1 := hM; omega
      | sign rep => rw [hmd] at hM; obtain ⟨z, _⟩ := hM; omega
      | comma m => exact ⟨m, rfl⟩
      | most m => rw [hmd] at hM; obtain ⟨z, _⟩ := hM; omega
      | brace m n => rw [hmd] at hM; obtain ⟨z, _⟩ := hM; omega
    refine ⟨_, rfl, r, t.cR, dx, _, _, rfl, hob, T.clR, T.rA, rF_awaits _ _ _ _ _, rfl, _, rfl, ?_⟩
    refine ite2 (fun c3 => ?_) (fun c3 => ?_)
    · have e := dI c3
      refine ⟨_, rfl, r, dx, _, rfl, hob, rF_tmost _ _ _ _ _, _, rfl, G0, H0, G, r, ll, xs, st, c, rfl, R, ?_, hok, hsz, k⟩
      cases hmd : st.md with
      | least => rw [hmd] at hM; have z : aw = 1 := hM; omega
      | sign rep => rw [hmd] at hM; obtain ⟨z, _⟩ := hM; omega
      | comma m => rw [hmd] at hM; obtain ⟨z, _⟩ := hM; omega
      | most m => exact ⟨m, rfl⟩
      | brace m n => rw [hmd] at hM; obtain ⟨z, _⟩ := hM; omega
    refine ⟨_, rfl, r, t.cR, dx, _, _, rfl, hob, T.clR, T.rA, rF_awaits _ _ _ _ _, rfl, _, rfl, ?_⟩
    refine ite2 (fun c4 => ?_) (fun c4 => ?_)
    · have e := dI c4
      refine ⟨_, rfl, r, dx, _, rfl, hob, rF_rbrace _ _ _ _ _, _, rfl, G0, H0, G, r, ll, xs, st, c, rfl, R, ?_, hok, hsz, k⟩
      cases hmd : st.md with
      | least => rw [hmd] at hM; have z : aw = 1 := hM; omega
      | sign rep => rw [hmd] at hM; obtain ⟨z, _⟩ := hM; omega
      | comma m => rw [hmd] at hM; obtain ⟨z, _⟩ := hM; omega
      | most m => rw [hmd] at hM; obtain ⟨z, _⟩ := hM; omega
      | brace m n => exact ⟨m, n, rfl⟩
    · refine ⟨_, rfl, r, dx, _, rfl, hob, rF_sign _ _ _ _ _, _, rfl, G0, H0, G, r, ll, xs, st, c, rfl, R, ?_, hok, hsz, k⟩
      cases hmd : st.md with
      | least => rw [hmd] at hM; have z : aw = 1 := hM; exact absurd z (dIn c1)
      | sign rep => exact ⟨rep, rfl⟩
      | comma m => rw [hmd] at hM; exact absurd hM.1 (dIn c2)
      | most m => rw [hmd] at hM; exact absurd hM.1 (dIn c3)
      | brace m n => rw [hmd] at hM; exact absurd hM.1 (dIn c4)
/-! ### may_end, pattern -/
inductive spMayEnd (t : Ad) (vs : List V) (H : Hp) (Q : VK) (E : XK) : Prop
  | mk (G0 H0 G : Hp) (r ll : Addr) (xs : List (Addr × Addr × Addr)) (st : RS) : (vs = [.ref r]) → (RdAt t G0 H0 G H r ll xs st) → (Q (.bl (canEnd st)) H) → spMayEnd t vs H Q E
theorem scMe : FnScope ["self"] ["self"] (defScope sMayEnd) := ⟨rfl, rfl, rfl, by decide +kernel, rfl, by decide +kernel, by decide +kernel⟩
theorem ok_mayend {f : Addr} {fd : FuncData} (D : Dm K t.cR "may_end" "Reader.may_end" sMayEnd ["self"] f fd) (T : Txt K mg t) : FnOk P w K mg base CX0 1 f fd ["self"] (spMayEnd t) := by
  refine D.F.ok scMe (fun vs H Q E h => ?_) (fun cdv A outer s H vs Q E hr h => ?_)
  · obtain ⟨G0, H0, G, r, ll, xs, st, rfl, _⟩ := h
    rfl
  · obtain ⟨G0, H0, G, r, ll, xs, st, rfl, R, k⟩ := h
    obtain ⟨dx, aw, rp, le, mo, hob, hM⟩ := R.ob
    have hxl : xs.length = st.up.length + 1 := by have := R.at_.1; simp at this; exact this
    refine ⟨_, pss_one (ps_ret (pe_and (pe_cmpR op_eq (pe_fld (pv 0) rfl) (pgi T.aS) (nomark _)) (pe_one (pe_cmpR op_eq (pe_callB call_len_seq rfl T.len PySem.boot_len (pa_cons (pe_fld (pv 0) rfl) pa_nil)) pe_int (nomark _))))), ?_⟩
    refine ⟨_, rfl, r, t.cR, dx, _, _, rfl, hob, T.clR, T.rA, rF_awaits _ _ _ _ _, rfl, _, rfl, ?_⟩
    refine ite2 (fun c1 => ?_) (fun c1 => ?_)
    · have e := dI c1
      refine ⟨_, rfl, r, t.cR, dx, _, _, rfl, hob, T.clR, T.rL, rF_levels _ _ _ _ _, ll, _, rfl, .inl (SqL.of R.lv), rfl, ?_⟩
      have ek : canEnd st = decide (V.int ((rfs (xs.map (·.1))).length : Nat) = V.int 1) := by
        rw [rfs_length, List.length_map, hxl]
        unfold canEnd
        cases hmd : st.md with
        | sign rep =>
          show st.up.isEmpty = _
          cases hu : st.up with
          | nil => rfl
          | cons x r =>
            rw [List.length_cons, decide_eq_false]
            · rfl
            · intro z
              injection z with z
              omega
        | least => rw [hmd] at hM; have z : aw = 1 := hM; omega
        | comma m => rw [hmd] at hM; obtain ⟨z, _⟩ := hM; omega
        | most m => rw [hmd] at hM; obtain ⟨z, _⟩ := hM; omega
        | brace m n => rw [hmd] at hM; obtain ⟨z, _⟩ := hM; omega
      rw [ek] at k
      exact k
    · have ek : canEnd st = false := by
        unfold canEnd
        cases hmd : st.md with
        | sign rep => rw [hmd] at hM; exact absurd hM.1 (dIn c1)
        | least => rfl
        | comma m => rfl
        | most m => rfl
        | brace m n => rfl
      rw [ek] at k
      exact k
inductive spPattern (t : Ad) (vs : List V) (H : Hp) (Q : VK) (E : XK) : Prop
  | mk (G0 H0 G : Hp) (r ll : Addr) (xs : List (Addr × Addr × Addr)) (st : RS) : (vs = [.ref r]) → (RdAt t G0 H0 G H r ll xs st) → (st.up = []) → (Sz 1040 st) → (∀ (a : Addr) (G' H' : Hp), Ext G0 H0 G' H' → PA t G' a (.alt (st.b ++ [.seq st.i])) → Q (.ref a) H') → spPattern t vs H Q E
theorem scPt : FnScope ["self"] ["self"] (defScope sPattern) := ⟨rfl, rfl, rfl, by decide +kernel, rfl, by decide +kernel, by decide +kernel⟩
theorem ok_pattern {f fW : Addr} {fd fdW : FuncData} (D : Dm K t.cR "pattern" "Reader.pattern" sPattern ["self"] f fd) (DW : Dm K t.cL "whole" "Level.whole" sWhole ["self"] fW fdW) (GW : FnOk P w K mg base CX0 7 fW fdW ["self"] (spWhole t)) (T : Txt K mg t) :
    FnOk P w K mg base CX0 8 f fd ["self"] (spPattern t) := by
  refine D.F.ok scPt (fun vs H Q E h => ?_) (fun cdv A outer s H vs Q E hr h => ?_)
  · obtain ⟨G0, H0, G, r, ll, xs, st, rfl, _⟩ := h
    rfl
  · obtain ⟨G0, H0, G, r, ll, xs, st, rfl, R, hup, hsz, k⟩ := h
    obtain ⟨dx, aw, rp, le, mo, hob, hM⟩ := R.ob
    obtain ⟨xm, x, rfl, hA, hl⟩ := R.last
    have hxm : xm = [] := by
      have := hA.1
      rw [hup] at this
      exact List.length_eq_zero_iff.mp this
    subst hxm
    obtain ⟨dl, hlo⟩ := hl.ob
    refine ⟨_, pss_one (ps_ret (pe_meth0 (pe_ix ix_list (pe_fld (pv 0) rfl) pe_int (fun _ _ => rfl)) T.clL DW.m GW hr DW.b .nil pass0)), ?_⟩
    refine ⟨_, rfl, r, t.cR, dx, _, _, rfl, hob, T.clR, T.rL, rF_levels _ _ _ _ _, ll, _, _, _, rfl, rfl, SqL.of R.lv, atI_nat (j := 0) (v := V.ref x.1) rfl, x.1, dl, _, rfl, hlo, lF_whole _ _, G0, H0, G, x, st.b, st.i, rfl, R.ext, hl, R.ft1, by have := hsz.cur.1; omega, by have := hsz.cur.2; omega, fun a G2 H2 e2 hpa _ _ _ => k a G2 H2 e2 hpa⟩
/-! ### Reader() -/
inductive spIR (t : Ad) (vs : List V) (H : Hp) (Q : VK) (E : XK) : Prop
  | mk (G0 H0 : Hp) (p dx : Addr) : (vs = [.ref p]) → (Ext G0 H0 G0 H) → (H0 p = none) → (G0 p = none) → (H p = some (.ins t.cR dx [])) → (∀ ll x H', RdAt t G0 H0 G0 H' p ll [x] rs0 → Q .non H') → spIR t vs H Q E
theorem scIR : FnScope ["self"] ["self"] (defScope sInitR) := ⟨rfl, rfl, rfl, by decide +kernel, rfl, by decide +kernel, by decide +kernel⟩
theorem pl4' {f g h j : Str} {v u x y : V} : (putF f v (putF g u (putF h x (putF j y [])))).length < 1000 := pl4
theorem ok_IR {f fL : Addr} {fd fdL : FuncData} (D : Di K t.cR "Reader.__init__" sInitR ["self"] f fd) (DL : Di K t.cL "Level.__init__" sInitL ["self"] fL fdL) (T : Txt K mg t) : FnOk P w K mg base CX0 3 f fd ["self"] (spIR t) := by
  have GL : FnOk P w K mg base CX0 1 fL fdL ["self"] (spIL t) := ok_IL DL T
  refine D.F.ok scIR (fun vs H Q E h => ?_) (fun cdv A outer s H vs Q E hr h => ?_)
  · obtain ⟨G0, H0, p, dx, rfl, _⟩ := h
    rfl
  · obtain ⟨G0, H0, p, dx, rfl, e0, hp0, gp, hp, k⟩ := h
    refine ⟨_, pss_cons (ps_fld (pv 0) (pe_lst (pa_cons (pe_make0 DL.m GL hr rfl T.mL DL.b .nil pass0) pa_nil)) rfl) (pss_cons (ps_fld (pv 0) (pgi T.aS) rfl) (pss_cons (ps_fld (pv 0) pe_bl rfl) (pss_cons (ps_fld (pv 0) pe_int rfl) (pss_one (ps_fld (pv 0) pe_int rfl))))), ?_⟩
    intro L dl nL ndl ndL
    refine ⟨L, dl, rfl, upd_same, fun bl pl H1 hbl hpl hne h1 h2 h3 h4 => ⟨rfl, ?_⟩⟩
    have nb : H bl = none := (same_upd (H := H) ndl _).free ((same_upd (H := upd H dl (.own L)) (by rw [upd_ne ndL.symm]; exact nL) _).free hbl)
    have np : H pl = none := (same_upd (H := H) ndl _).free ((same_upd (H := upd H dl (.own L)) (by rw [upd_ne ndL.symm]; exact nL) _).free hpl)
    have s1 : ∀ b o, H b = some o → H1 b = some o := fun b o hb => by
      have z1 := ne_of_none hb nL
      have z2 := ne_of_none hb ndl
      rw [h4 b z1 (ne_of_none hb nb) (ne_of_none hb np), upd_ne z1, upd_ne z2]; exact hb
    have nbL : bl ≠ L := fun z => by rw [z, upd_same] at hbl; cases hbl
    have npL : pl ≠ L := fun z => by rw [z, upd_same] at hpl; cases hpl
    refine ⟨(by show 1 ≤ sizeLine; decide), fun ll hll => ?_⟩
    have hp1 := s1 _ _ hp
    have zp : p ≠ ll := ne_of_none hp1 hll
    have zL : L ≠ ll := ne_of_none h1 hll
    have zb : bl ≠ ll := ne_of_none h2 hll
    have zq : pl ≠ ll := ne_of_none h3 hll
    have yL : L ≠ p := (ne_of_none hp nL).symm
    have yb : bl ≠ p := (ne_of_none hp nb).symm
    have yq : pl ≠ p := (ne_of_none hp np).symm
    have e1 : Ext G0 H0 G0 H1 := e0.chg fun b o hb _ => s1 b o hb
    refine ⟨_, rfl, p, t.cR, dx, [], rfl, (by rw [upd_ne zp]; exact hp1), T.clR, T.rL, pl0, _, rfl, p, t.cR, dx, _, rfl, upd_same, T.clR, T.rA, pl1, _, rfl, p, t.cR, dx, _, rfl, upd_same, T.clR, T.rR, pl2, _, rfl, p, t.cR, dx, _, rfl, upd_same, T.clR, T.rE, pl3, _, rfl, p, t.cR, dx, _, rfl, upd_same, T.clR, T.rM, pl4, ?_⟩
    rw [upd_upd, upd_upd, upd_upd, upd_upd, rF_put]
    have hll1 : H1 ll = none := hll
    have e2 : Ext G0 H0 G0 (upd (upd H1 ll (.lst [.ref L])) p (.ins t.cR dx (rF (.ref ll) (.int 0) (.bl false) (.int 0) (.int 0)))) := (e1.new hll _).mut hp0 gp _
    refine k ll (L, bl, pl) _ ⟨e2, ⟨dx, 0, false, 0, 0, upd_same, rfl, rfl⟩, by rw [upd_ne zp.symm, upd_same]; rfl, ?_, ?_⟩
    · refine All2.one ⟨⟨dl, ?_⟩, ⟨[], ?_, All2.nil⟩, ⟨[], ?_, All2.nil⟩⟩
      · show upd _ p _ L = _
        rw [upd_ne yL, upd_ne zL]; exact h1
      · show upd _ p _ bl = _
        rw [upd_ne yb, upd_ne zb]; exact h2
      · show upd _ p _ pl = _
        rw [upd_ne yq, upd_ne zq]; exact h3
    · rw [foot_one]
      refine Ft.cons (Ft.cons (Ft.cons (Ft.cons (Ft.cons ⟨List.nodup_nil, fun a ha => by simp at ha, fun a ha => by simp at ha, fun a ha => by simp at ha⟩ (by simp) (e0.n0 np) (e0.nG np) ?_) ?_ (e0.n0 nb) (e0.nG nb) ?_) ?_ (e0.n0 nL) (e0.nG nL) ?_) ?_ (e1.n0 hll) (e1.nG hll) ?_) ?_ hp0 gp ?_
      · rw [upd_ne yq, upd_ne zq]; exact some_ne h3
      · simp [hne]
      · rw [upd_ne yb, upd_ne zb]; exact some_ne h2
      · simp [nbL.symm, npL.symm]
      · rw [upd_ne yL, upd_ne zL]; exact some_ne h1
      · simp [zL.symm, zb.symm, zq.symm]
      · rw [upd_ne zp.symm, upd_same]; simp
      · simp [zp, yL.symm, yb.symm, yq.symm]
      · rw [upd_same]; simp
end
end PW
end
section
set_option Elab.async false
set_option linter.all false
set_option maxRecDepth 100000
namespace PW
open PySem L2 Mth
section
variable {P : Program} {w : World} {K : PySem.W.Frag} {mg : Str → Option Value} {base : Heap} {t : Ad}
def iv (l : List Int) : List V := l.map V.int
theorem iv_append (a b : List Int) : iv (a ++ b) = iv a ++ iv b := by unfold iv; rw [List.map_append]
theorem iv_length (a : List Int) : (iv a).length = a.length := by unfold iv; rw [List.length_map]
theorem iv_word (w : Sg05.Bytes) : iv (wordAns w) = V.int (w.length : Nat) :: bv w := by
  unfold iv wordAns bv
  rw [List.map_cons, List.map_map]; rfl
theorem wordAns_length (w : Sg05.Bytes) : (wordAns w).length = w.length + 1 := by unfold wordAns; rw [List.length_cons, List.length_map]
/-! ### not_at, told -/
inductive spNotAt (vs : List V) (H : Hp) (Q : VK) (E : XK) : Prop
  | mk (p : Int) : (vs = [.int p]) → (Q (.int (-1 - p)) H) → spNotAt vs H Q E
theorem scNa : FnScope ["place"] ["place"] (defScope sNotAt) := ⟨rfl, rfl, rfl, by decide +kernel, rfl, by decide +kernel, by decide +kernel⟩
theorem ok_notat {f : Addr} {fd : FuncData} (D : Df K mg "not_at" sNotAt ["place"] f fd) : FnOk P w K mg base CX0 1 f fd ["place"] spNotAt := by
  refine D.F.ok scNa (fun vs H Q E h => ?_) (fun cdv A outer s H vs Q E hr h => ?_)
  · obtain ⟨p, rfl, _⟩ := h
    rfl
  · obtain ⟨p, rfl, k⟩ := h
    refine ⟨_, pss_one (ps_ret (pe_op op_sub (pe_un un_neg pe_int) (pv 0))), ?_⟩
    exact ⟨_, rfl, _, rfl, _, _, rfl, rfl, k⟩
inductive spTold (vs : List V) (H : Hp) (Q : VK) (E : XK) : Prop
  | mk (G : Hp) (tw : Addr) (w : Sg05.Bytes) : (vs = [.ref tw]) → (Same G H) → (TupAt H tw w) → (w.length ≤ 255) → (∀ (r : Addr) (H' : Hp), Ext G H G H' → H r = none → H' r = some (.lst (iv (wordAns w))) → Q (.ref r) H') → spTold vs H Q E
theorem scTo : FnScope ["word"] ["word"] (defScope sTold) := ⟨rfl, rfl, rfl, by decide +kernel, rfl, by decide +kernel, by decide +kernel⟩
theorem ok_told {f : Addr} {fd : FuncData} (D : Df K mg "told" sTold ["word"] f fd) (T : Txt K mg t) : FnOk P w K mg base CX0 1 f fd ["word"] spTold := by
  refine D.F.ok scTo (fun vs H Q E h => ?_) (fun cdv A outer s H vs Q E hr h => ?_)
  · obtain ⟨G, tw, w, rfl, _⟩ := h
    rfl
  · obtain ⟨G, tw, w, rfl, sg, hw, hl, k⟩ := h
    refine ⟨_, pss_one (ps_ret (pe_op op_cat (pe_lst (pa_cons (pe_callB call_len_seq rfl T.len PySem.boot_len (pa_cons (pv 0) pa_nil)) pa_nil)) (pe_callTy call_list_of rfl T.list PyProof.Rows.boot_list (pa_cons (pv 0) pa_nil)))), ?_⟩
    refine ⟨_, rfl, tw, _, rfl, .inr (SqT.ofTup hw), (by show 1 ≤ sizeLine; decide), fun l0 h0 => ?_⟩
    have e0 := (Ext.refl sg).new h0 (.lst [.int ((bv w).length : Nat)])
    refine ⟨_, rfl, tw, _, rfl, .inr (SqT.ofTup (e0.hh _ _ hw)), fun l1 h1 => ?_⟩
    have e1 := e0.new h1 (.lst (bv w))
    have z : l0 ≠ l1 := ne_of_none (H := upd H l0 (.lst [.int ((bv w).length : Nat)])) upd_same h1
    refine ⟨l0, l1, _, _, rfl, rfl, (by rw [upd_ne z]; exact upd_same), upd_same, by rw [bv_length]; exact sl16 (by simp; omega), fun p hp => ?_⟩
    refine k p _ (e1.new hp _) (e1.n0 hp) ?_
    rw [upd_same, iv_word, bv_length]
    rfl
/-! ### word_answer -/
def wordA (p : Pat) (k m : Int) : List Int := if m < 0 ∨ 255 < m then [-2] else if (Sg05.words p).length ≤ k.toNat then [-1] else if m < ((Sg05.nth p k.toNat).length : Int) then [-3] else wordAns (Sg05.nth p k.toNat)
inductive spWordA (t : Ad) (vs : List V) (H : Hp) (Q : VK) (E : XK) : Prop
  | mk (G : Hp) (a : Addr) (p : Pat) (k : Nat) (m : Int) : (vs = [.ref a, .int k, .int m]) → (Same G H) → (PA t G a p) → (Held p) → (∀ (r : Addr) (G' H' : Hp), Ext G H G' H' → H r = none → G' r = none → H' r = some (.lst (iv (wordA p k m))) → Q (.ref r) H') → spWordA t vs H Q E
abbrev psWa : List Str := ["pattern", "number", "most"]
theorem scWa : FnScope ["pattern", "number", "most", "word"] psWa (defScope sWordA) := ⟨rfl, rfl, rfl, by decide +kernel, rfl, by decide +kernel, by decide +kernel⟩
theorem ok_worda {f fF fT : Addr} {fd fdF fdT : FuncData} (D : Df K mg "word_answer" sWordA psWa f fd) (DF : Df K mg "words_from" sFrom psFr fF fdF) (GF : FnOk P w K mg base CX0 201 fF fdF psFr (spFrom t 67)) (DT : Df K mg "told" sTold ["word"] fT fdT) (T : Txt K mg t) :
    FnOk P w K mg base CX0 202 f fd psWa (spWordA t) := by
  have GT : FnOk P w K mg base CX0 1 fT fdT ["word"] spTold := ok_told DT T
  refine D.F.ok scWa (fun vs H Q E h => ?_) (fun cdv A outer s H vs Q E hr h => ?_)
  · obtain ⟨G, a, p, k, m, rfl, _⟩ := h
    rfl
  · obtain ⟨G, a, p, n, m, rfl, sg, hpa, hH, k⟩ := h
    have hr1 : Room 1 _ := hr.mono (by decide)
    obtain ⟨dx, tw, bl, hob⟩ := PcAt.ob hpa
    have hobH := sg _ _ hob
    rw [cap_of hH.cnt] at hobH
    have one : ∀ (z : Int) (r : Addr) (hr' : H r = none), wordA p n m = [z] → Q (.ref r) (upd H r (.lst [.int z])) := fun z r hr' e =>
      k r G _ ((Ext.refl sg).new hr' _) hr' (sg.free hr') (by rw [upd_same, e]; rfl)
    refine ⟨_, pss_cons (ps_if (L2.PW.pt (pw_or (pt_cmpR op_lt (pv 2) pe_int (nomark _)) (pw_or1 (pt_cmpR op_gt (pv 2) (pgi T.mLet) (nomark _))))) (pss_one (ps_ret (pe_lst (pa_cons (pgi T.wrongM) pa_nil)))) pss_nil)
      (pss_cons (ps_if (pt_cmpR op_ge (pv 1) (pe_fld (pv 0) rfl) (nomark _)) (pss_one (ps_ret (pe_lst (pa_cons (pgi T.noWord) pa_nil)))) pss_nil)
      (pss_cons (ps_set (i := 3) scWa.nd rfl (Or.inl rfl) (pe_ix ix_list (pe_call GF hr rfl DF.m DF.F.kp DF.b .nil pass0 (pa_cons (pv 0) (pa_cons (pv 1) (pa_cons pe_int pa_nil)))) pe_int (fun _ _ => rfl)))
      (pss_cons (ps_if (pt_cmpR op_gt (pe_callB call_len_seq rfl T.len PySem.boot_len (pa_cons (pv 3) pa_nil)) (pv 2) (nomark _)) (pss_one (ps_ret (pe_lst (pa_cons (pgi T.tooLong) pa_nil)))) pss_nil)
      (pss_one (ps_ret (pe_call GT hr1 rfl DT.m DT.F.kp DT.b .nil pass0 (pa_cons (pv 3) pa_nil))))))), ?_⟩
    have bad : m < 0 ∨ 255 < m → wordA p n m = [-2] := fun z => by unfold wordA; rw [if_pos z]
    refine ⟨_, rfl, _, _, rfl, rfl, _, rfl, ?_⟩
    refine ite2 (fun c1 => ?_) (fun c1 => ?_)
    · exact iteT ⟨(by show 1 ≤ sizeLine; decide), fun r hr' => one _ r hr' (bad (.inl (dT c1)))⟩
    refine ⟨_, rfl, _, _, rfl, rfl, _, rfl, ?_⟩
    refine ite2 (fun c2 => ?_) (fun c2 => ?_)
    · exact ⟨(by show 1 ≤ sizeLine; decide), fun r hr' => one _ r hr' (bad (.inr (dT c2)))⟩
    have c1' := dF' c1
    have c2' := dF' c2
    have hm : ¬ (m < 0 ∨ 255 < m) := by omega
    refine ⟨_, rfl, _, rfl, a, t.cP, dx, _, _, rfl, hobH, T.clP, T.pT, pF_total _ _ _ _, _, _, rfl, rfl, _, rfl, ?_⟩
    refine ite2 (fun c3 => ?_) (fun c3 => ?_)
    · have c3' : (Sg05.words p).length ≤ n := by have := dT c3; omega
      exact ⟨(by show 1 ≤ sizeLine; decide), fun r hr' => one _ r hr' (by unfold wordA; rw [if_neg hm, if_pos (by omega)])⟩
    have c3' : n < (Sg05.words p).length := by have := dF' c3; omega
    have e3 : wordA p n m = if m < ((Sg05.nth p n).length : Int) then [-3] else wordAns (Sg05.nth p n) := by
      unfold wordA
      rw [if_neg hm, if_neg (by omega)]
      rfl
    have hnth := hH.nth c3'
    have hlen : (Sg05.nth p n).length ≤ 255 := Nat.le_trans (mx_mem (List.mem_of_getElem? hnth)) hH.len
    refine ⟨_, rfl, _, rfl, G, a, Sg05.words p, n, 1, rfl, sg, PcAt.mono hpa hH.dp, hH.len, hH.cnt, .inr (by omega), by omega, fun r1 G1 H1 e1 h1 => ?_⟩
    have hsl : sl (Sg05.words p) n 1 = [Sg05.nth p n] := by
      have z := sl_snoc (t := 0) (W := Sg05.words p) (a := n) hnth
      rw [sl_zero] at z
      exact z
    rw [hsl] at h1
    obtain ⟨ts, ht1, ht2⟩ := h1
    obtain ⟨tw1, rfl⟩ : ∃ x, ts = [x] := List.length_eq_one_iff.mp ht2.1
    have htw := ht2.2 0 tw1 _ rfl rfl
    have htwH := htw.same e1.gh
    refine ⟨r1, _, _, _, rfl, rfl, SqL.of (e1.gh _ _ ht1), atI_nat (j := 0) (v := V.ref tw1) rfl, ?_⟩
    refine ⟨_, rfl, tw1, _, rfl, .inr (SqT.ofTup htwH), _, rfl, _, _, rfl, rfl, _, rfl, ?_⟩
    refine ite2 (fun c4 => ?_) (fun c4 => ?_)
    · have c4' : m < ((Sg05.nth p n).length : Int) := by have := dT c4; rw [bv_length] at this; exact this
      refine ⟨(by show 1 ≤ sizeLine; decide), fun r hr' => ?_⟩
      exact k r G1 _ (e1.new hr' _) (e1.n0 hr') (e1.nG hr') (by rw [upd_same, e3, if_pos c4']; rfl)
    · have c4' : ¬ m < ((Sg05.nth p n).length : Int) := fun z => dF' c4 (by rw [bv_length]; exact z)
      refine ⟨_, rfl, G1, tw1, _, rfl, e1.gh, htwH, hlen, fun r H2 e2 hr2 h2 => ?_⟩
      exact k r G1 H2 (e1.trans e2) (e1.n0 hr2) (e1.nG hr2) (by rw [h2, e3, if_neg c4'])
/-! ### each_answer -/
def eachA (p : Pat) (a n : Nat) : List Int := (if n < (Sg05.words p).length - a then 7 else 0) :: (sl (Sg05.words p) a (min ((Sg05.words p).length - a) (n + 1))).flatMap wordAns
inductive spEachA (t : Ad) (vs : List V) (H : Hp) (Q : VK) (E : XK) : Prop
  | mk (G : Hp) (a : Addr) (p : Pat) (f n : Nat) : (vs = [.ref a, .int f, .int n]) → (Same G H) → (PA t G a p) → (Held p) → (n ≤ 1000) → (∀ (r : Addr) (G' H' : Hp), Ext G H G' H' → H r = none → G' r = none → H' r = some (.lst (iv (eachA p f n))) → Q (.ref r) H') → spEachA t vs H Q E
abbrev psEa : List Str := ["pattern", "first", "many"]
theorem scEa : FnScope ["pattern", "first", "many", "left", "answer", "word"] psEa (defScope sEachA) := ⟨rfl, rfl, rfl, by decide +kernel, rfl, by decide +kernel, by decide +kernel⟩
theorem call_maxN {X : Cx} (hc : X.calm = true) : CallR X (.builtin "max") (fun xs H Q => ∃ a b : Nat, xs = [.int ((a : Int) - (b : Int)), .int 0] ∧ ∀ q : Nat, q = a - b → Q (.int q) H) := by
  intro pins s σ H xs us Q I r h
  obtain ⟨a, b, rfl, q⟩ := h
  refine call_max2 hc pins s σ H _ us Q I r ⟨_, _, rfl, ?_⟩
  have e : (if (0 : Int) > (a : Int) - (b : Int) then (0 : Int) else (a : Int) - (b : Int)) = ((a - b : Nat) : Int) := by split <;> omega
  rw [e]
  exact q _ rfl
theorem flat_len {ws : WL} (h : ∀ w ∈ ws, w.length ≤ 255) : (ws.flatMap wordAns).length ≤ 256 * ws.length := by
  induction ws with
  | nil => simp
  | cons w ws ih =>
    rw [List.flatMap_cons, List.length_append, wordAns_length, List.length_cons]
    have h1 := h w (by simp)
    have h2 := ih fun x hx => h x (by simp [hx])
    omega
theorem ok_eacha {f fF fT : Addr} {fd fdF fdT : FuncData} (D : Df K mg "each_answer" sEachA psEa f fd) (DF : Df K mg "words_from" sFrom psFr fF fdF) (GF : FnOk P w K mg base CX0 201 fF fdF psFr (spFrom t 67)) (DT : Df K mg "told" sTold ["word"] fT fdT) (T : Txt K mg t) :
    FnOk P w K mg base CX0 202 f fd psEa (spEachA t) := by
  have GT : FnOk P w K mg base CX0 1 fT fdT ["word"] spTold := ok_told DT T
  refine D.F.ok scEa (fun vs H Q E h => ?_) (fun cdv A outer s H vs Q E hr h => ?_)
  · obtain ⟨G, a, p, k, m, rfl, _⟩ := h
    rfl
  · obtain ⟨G, a, p, f, n, rfl, sg, hpa, hH, hn, k⟩ := h
    have hr1 : Room 1 _ := hr.mono (by decide)
    obtain ⟨dx, tw, bl, hob⟩ := PcAt.ob hpa
    have hobH := sg _ _ hob
    rw [cap_of hH.cnt] at hobH
    refine ⟨_, pss_cons (ps_set (i := 3) scEa.nd rfl (Or.inl rfl) (pe_callB (call_maxN rfl) rfl T.max PyProof.Rows.boot_max (pa_cons (pe_op op_sub (pe_fld (pv 0) rfl) (pv 1)) (pa_cons pe_int pa_nil))))
      (pss_cons (ps_set (i := 4) scEa.nd rfl (Or.inl rfl) (pe_lst (pa_cons (pe_ifExp (pt_cmpR op_gt (pv 3) (pv 2) (nomark _)) (pgi T.stopped) (pgi T.done)) pa_nil)))
      (pss_cons (ps_for PassesOwn.never rfl (pi_list (pe_call GF hr rfl DF.m DF.F.kp DF.b .nil pass0 (pa_cons (pv 0) (pa_cons (pv 1) (pa_cons (pe_callB (call_minN rfl) rfl T.min PyProof.Rows.boot_min (pa_cons (pv 3) (pa_cons (pe_op op_addN (pv 2) pe_int) pa_nil))) pa_nil))))) (pg_name (i := 5) scEa.nd rfl (Or.inl rfl))
        (pss_one (ps_expr (pe_bm PySem.F.plainAttrs_list PySem.F.slot_list_extend PySem.F.type_list_extend mt_extend (pv 4) (pa_cons (pe_call GT hr1 rfl DT.m DT.F.kp DT.b .nil pass0 (pa_cons (pv 5) pa_nil)) pa_nil)))))
      (pss_one (ps_ret (pv 4))))), ?_⟩
    refine ⟨_, rfl, a, t.cP, dx, _, _, rfl, hobH, T.clP, T.pT, pF_total _ _ _ _, _, rfl, _, _, rfl, rfl, (Sg05.words p).length, f, rfl, fun lf hlf => ?_⟩
    -- from here on, the first number is known
    have main : ∀ (v : Int), v = (if n < lf then 7 else 0) → ∀ (r : Addr), H r = none →
        tSeq (tFor (iList K (tCall (spFrom t 67) [] E0 (tCons (tVar 0) (tCons (tVar 1) (tCons (tCB (fun xs H Q => ∃ a b : Nat, xs = [.int a, .int b] ∧ ∀ q : Nat, q = min a b → Q (.int q) H) (tCons (tVar 3) (tCons (tOp rAddN (tVar 2) (tC (.int 1))) tNil))) tNil))))) (gName 5)
          (tDrop (tBM K "list" rExtend (tVar 4) (tCons (tCall spTold [] E0 (tCons (tVar 5) tNil)) tNil)))) (tRet (tVar 4))
          { nx := fun _ H' => Q .non H', rt := Q } [some (.ref a), some (.int f), some (.int n), some (.int lf), some (.ref r), none] (upd H r (.lst [.int v])) := fun v hv r hr0 => by
      have e0 := (Ext.refl sg).new hr0 (.lst [.int v])
      refine ⟨_, rfl, _, rfl, _, rfl, _, rfl, n, 1, rfl, rfl, fun n1 hn1 => ⟨lf, n1, rfl, fun mi hmi => ?_⟩⟩
      have hm1 : mi = min ((Sg05.words p).length - f) (n + 1) := by omega
      refine ⟨G, a, Sg05.words p, f, mi, rfl, e0.gh, PcAt.mono hpa hH.dp, hH.len, hH.cnt, by omega, by omega, fun wl G1 H1 e1 h1 => ?_⟩
      obtain ⟨ts, ht1, ht2⟩ := h1
      have hwsl : ∀ w ∈ sl (Sg05.words p) f mi, w.length ≤ 255 := fun w hw => Nat.le_trans (mx_mem (sl_mem hw)) hH.len
      have htl : ts.length ≤ 1001 := by rw [ht2.1, sl_len]; omega
      have g1r : G1 r = none := e1.keepN (H := upd H r (.lst [.int v])) upd_same (sg.free hr0)
      refine ⟨wl, rfl, ⟨_, SqL.of (e1.gh _ _ ht1)⟩, for_list (K := K) (a := wl) (xs := rfs ts) (fun i σ H2 => ∃ v5 : Option V, σ = [some (.ref a), some (.int f), some (.int n), some (.int lf), some (.ref r), v5] ∧ Ext G H G1 H2 ∧ H2 r = some (.lst (iv (v :: ((sl (Sg05.words p) f mi).take i).flatMap wordAns))))
        ⟨none, rfl, e0.trans e1, e1.hh _ _ upd_same⟩ (fun i σ H2 _ h => by obtain ⟨_, _, e, _⟩ := h; exact SqL.of (e.gh _ _ ht1)) ?_ ?_⟩
      · rintro i y σ H2 hi ⟨v5, rfl, e2, hr2⟩
        obtain ⟨tw1, htw1, rfl⟩ := rfs_get hi
        obtain ⟨w1, hw1, htw⟩ := ht2.get htw1
        have hi' : i < ts.length := (List.getElem?_eq_some_iff.mp htw1).1
        have hw255 : w1.length ≤ 255 := hwsl w1 (List.mem_of_getElem? hw1)
        have hlenI : (((sl (Sg05.words p) f mi).take i).flatMap wordAns).length ≤ 256 * 1001 := by
          refine Nat.le_trans (flat_len fun w hw => hwsl w (List.mem_of_mem_take hw)) (Nat.mul_le_mul_left _ ?_)
          rw [List.length_take, ← ht2.1]; omega
        refine ⟨_, rfl, .inl ⟨rfl, _, SqL.of hr2⟩, _, rfl, G1, tw1, w1, rfl, e2.gh, htw.same e2.gh, hw255, fun r3 H3 e3 hr3 h3 => ?_⟩
        refine ⟨r, r3, _, _, rfl, rfl, e3.hh _ _ hr2, h3, ?_, ?_⟩
        · rw [iv_length, iv_length, wordAns_length, List.length_cons]; exact sl16 (by omega)
        · refine ⟨some (V.ref tw1), rfl, (e2.trans e3).mut hr0 g1r _, ?_⟩
          rw [upd_same, take_snoc hw1, List.flatMap_append, ← iv_append]
          simp
      · rintro σ H2 ⟨v5, rfl, e2, hr2⟩
        refine ⟨_, rfl, k r G1 H2 e2 hr0 g1r ?_⟩
        rw [hr2, rfs_length, ht2.1, List.take_length]
        unfold eachA
        rw [hm1, hv, hlf]
    refine ⟨_, rfl, _, rfl, _, _, rfl, rfl, _, rfl, ?_⟩
    refine ite2 (fun c => ?_) (fun c => ?_)
    · exact ⟨(by show 1 ≤ sizeLine; decide), fun r hr0 => main 7 (by rw [if_pos (by have := dT c; omega)]) r hr0⟩
    · exact ⟨(by show 1 ≤ sizeLine; decide), fun r hr0 => main 0 (by rw [if_neg (by have := dF' c; omega)]) r hr0⟩
end
end PW
end
section
set_option Elab.async false
set_option linter.all false
set_option maxRecDepth 100000
namespace PW
open PySem L2 Mth
/-- over enumerate(list): the body leaves the list as it is -/
theorem for_enum {K : PySem.W.Frag} {a : Addr} {xs : List V} {g : TG} {tb : TS} {D : Ends} {σ : St} {H : Hp} (Pv : Nat → St → Hp → Prop) (h0 : Pv 0 σ H) (hl : ∀ i σ H, i ≤ xs.length → Pv i σ H → SqL K H a xs)
    (hs : ∀ i x T σ H, xs[i]? = some x → Pv i σ H → H T = none → g (.ref T) σ (upd H T (.tup [.int (i : Nat), x])) fun σ2 H2 => tb { D with nx := Pv (i + 1), ct := Pv (i + 1), bk := D.nx } σ2 H2) (hd : ∀ σ H, Pv xs.length σ H → D.nx σ H) :
    ∃ W : Nat → Nat → St → Hp → Prop, (∃ m, W 0 m σ H) ∧ ∀ i m σ H, W i m σ H →
      ((Ite K a).stop i H ∧ D.nx σ H) ∨ ((Ite K a).go i H ∧ ∃ N : St → Hp → Prop, (∀ σ' H', N σ' H' → ∃ m', m' < m ∧ W (i + 1) m' σ' H') ∧ ∀ x H', (Ite K a).yld i H x H' → g x σ H' fun σ2 H2 => tb { D with nx := N, ct := N, bk := D.nx } σ2 H2) := by
  refine ⟨fun i m σ H => m = xs.length - i ∧ i ≤ xs.length ∧ Pv i σ H, ⟨xs.length, by simp, Nat.zero_le _, h0⟩, ?_⟩
  rintro i m σ H ⟨rfl, hi, p⟩
  have q := hl i σ H hi p
  by_cases hlt : i < xs.length
  · refine .inr ⟨⟨xs, xs[i], q, by simp [hlt]⟩, Pv (i + 1), fun σ' H' p' => ⟨xs.length - (i + 1), by omega, rfl, hlt, p'⟩, fun x H' y => ?_⟩
    obtain ⟨T, z, e1, hT, e2, y⟩ := y
    subst e1 e2
    exact hs i z T σ _ (y xs q) p hT
  · have e : i = xs.length := by omega
    subst e
    exact .inl ⟨⟨xs, q, Nat.le_refl _⟩, hd σ H p⟩
/-! ### sizes, step by step -/
theorem Sz.mono {n m : Nat} {st : RS} (h : Sz n st) (hm : n ≤ m) : Sz m st := fun x hx => ⟨Nat.le_trans (h x hx).1 hm, Nat.le_trans (h x hx).2 hm⟩
theorem sz_mk {n : Nat} {b i : List Pat} {up : List (List Pat × List Pat)} {md : Md} (hb : b.length ≤ n) (hi : i.length ≤ n) (hu : ∀ x ∈ up, x.1.length ≤ n ∧ x.2.length ≤ n) : Sz n ⟨b, i, up, md⟩ := fun x hx => by
  rcases List.mem_cons.mp hx with e | h
  · rw [e]; exact ⟨hb, hi⟩
  · exact hu x h
theorem sz_step {n : Nat} {st st' : RS} {c : UInt8} (h : Sz n st) (e : step st c = some st') : Sz (n + 1) st' := by
  obtain ⟨b, i, up, md⟩ := st
  have hb : b.length ≤ n := h.cur.1
  have hi : i.length ≤ n := h.cur.2
  have hu : ∀ x ∈ up, x.1.length ≤ n + 1 ∧ x.2.length ≤ n + 1 := fun x hx => ⟨Nat.le_succ_of_le (h x (List.mem_cons_of_mem _ hx)).1, Nat.le_succ_of_le (h x (List.mem_cons_of_mem _ hx)).2⟩
  have hu0 : ∀ x ∈ up, x.1.length ≤ n ∧ x.2.length ≤ n := fun x hx => h x (List.mem_cons_of_mem _ hx)
  cases md with
  | sign rep =>
    have e : stepSign ⟨b, i, up, .sign rep⟩ rep c = some st' := e
    unfold stepSign at e
    simp only at e
    split at e
    · cases e; exact sz_mk (by omega) (by simp; omega) hu
    · split at e
      · split at e
        · cases e
        · cases e
          refine sz_mk (by simp) (by simp) fun x hx => ?_
          rcases List.mem_cons.mp hx with z | z
          · rw [z]; exact ⟨show b.length ≤ n + 1 by omega, show i.length ≤ n + 1 by omega⟩
          · exact hu x z
      · split at e
        · split at e
          · cases e
          · rename_i b2 i2 rest _
            cases e
            have h2 := hu0 (b2, i2) (by simp)
            simp only at h2
            exact sz_mk (by omega) (by simp; omega) fun x hx => hu x (by simp [hx])
        · split at e
          · cases e; exact sz_mk (by simp; omega) (by simp) hu
          · split at e
            · split at e
              · cases e; exact sz_mk (by omega) (by omega) hu
              · cases e
            · cases e
  | least =>
    have e : (match Sg05.digit c with
      | some m => some (⟨b, i, up, .comma m⟩ : RS)
      | none => none) = some st' := e
    split at e
    · cases e; exact sz_mk (by omega) (by omega) hu
    · cases e
  | comma m =>
    have e : (if c = 44 then some (⟨b, i, up, .most m⟩ : RS) else none) = some st' := e
    split at e
    · cases e; exact sz_mk (by omega) (by omega) hu
    · cases e
  | most m =>
    have e : (match Sg05.digit c with
      | some n => if n < m then none else some (⟨b, i, up, .brace m n⟩ : RS)
      | none => none) = some st' := e
    split at e
    · split at e
      · cases e
      · cases e; exact sz_mk (by omega) (by omega) hu
    · cases e
  | brace m n' =>
    have e : (if c = 125 then (match i.getLast? with
      | some p => some (⟨b, i.dropLast ++ [.rep p m n'], up, .sign false⟩ : RS)
      | none => none) else none) = some st' := e
    split at e
    · split at e
      · cases e; exact sz_mk (by omega) (by simp; omega) hu
      · cases e
    · cases e
/-! ### the desk -/
structure DkAt (t : Ad) (K : PySem.W.Frag) (G0 H0 G H : Hp) (d cl : Addr) (ns : List Int) (place : Nat) (p : Pat) : Prop where
  ext : Ext G0 H0 G H
  ob : ∃ dx a, H d = some (.ins t.cD dx (dF (.ref cl) (.int place) (.ref a))) ∧ PA t G a p
  n0 : H0 d = none
  ng : G d = none
  cl : SqL K H0 cl (iv ns)
section
variable {t : Ad} {K : PySem.W.Frag} {G0 H0 G H G' H' : Hp} {d cl : Addr} {ns : List Int} {place : Nat} {p : Pat}
theorem DkAt.call (R : DkAt t K G0 H0 G H d cl ns place p) (e : Ext G H G' H') : DkAt t K G0 H0 G' H' d cl ns place p := by
  obtain ⟨dx, a, h1, h2⟩ := R.ob
  exact ⟨R.ext.trans e, ⟨dx, a, e.hh _ _ h1, h2.same e.gg⟩, R.n0, e.keepN h1 R.ng, R.cl⟩
theorem DkAt.set (R : DkAt t K G0 H0 G H d cl ns place p) {dx a : Addr} {place' : Nat} {q : Pat} (h : PA t G a q) : DkAt t K G0 H0 G (upd H d (.ins t.cD dx (dF (.ref cl) (.int place') (.ref a)))) d cl ns place' q :=
  ⟨R.ext.mut R.n0 R.ng _, ⟨dx, a, upd_same, h⟩, R.n0, R.ng, R.cl⟩
theorem DkAt.list (R : DkAt t K G0 H0 G H d cl ns place p) : SqL K H cl (iv ns) := R.ext.hh.seq R.cl
theorem RdAt.new {r ll : Addr} {xs : List (Addr × Addr × Addr)} {st : RS} (R : RdAt t G0 H0 G H r ll xs st) {b : Addr} (hb : H b = none) (o : HO) : RdAt t G0 H0 G (upd H b o) r ll xs st :=
  R.call ((Ext.refl R.ext.gh).new hb o)
end
theorem drop_head {ns : List Int} {k : Nat} {x : Int} {tl : List Int} (h : ns.drop k = x :: tl) : ns[k]? = some x ∧ ns.drop (k + 1) = tl ∧ k < ns.length := by
  have hk : k < ns.length := by
    have := congrArg List.length h
    rw [List.length_drop, List.length_cons] at this
    omega
  rw [List.drop_eq_getElem_cons hk] at h
  injection h with h1 h2
  exact ⟨by rw [List.getElem?_eq_getElem hk, h1], h2, hk⟩
theorem iv_at {ns : List Int} {k : Nat} {x : Int} (h : ns[k]? = some x) : (iv ns)[k]? = some (V.int x) := by unfold iv; rw [List.getElem?_map, h]; rfl
section
variable {P : Program} {w : World} {K : PySem.W.Frag} {mg : Str → Option Value} {base : Heap} {t : Ad}
/-! ### take_number, take_row, has_more -/
inductive spTakeN (t : Ad) (K : PySem.W.Frag) (vs : List V) (H : Hp) (Q : VK) (E : XK) : Prop
  | mk (G0 H0 G : Hp) (d cl : Addr) (ns : List Int) (place : Nat) (p : Pat) (v : Int) : (vs = [.ref d]) → (DkAt t K G0 H0 G H d cl ns place p) → (ns[place]? = some v) → (∀ H', DkAt t K G0 H0 G H' d cl ns (place + 1) p → (∀ b o, H b = some o → b ≠ d → H' b = some o) → (∀ b, H b = none → H' b = none) → Q (.int v) H') → spTakeN t K vs H Q E
theorem scTn : FnScope ["self", "number"] ["self"] (defScope sTakeN) := ⟨rfl, rfl, rfl, by decide +kernel, rfl, by decide +kernel, by decide +kernel⟩
theorem ok_taken {f : Addr} {fd : FuncData} (D : Dm K t.cD "take_number" "Desk.take_number" sTakeN ["self"] f fd) (T : Txt K mg t) : FnOk P w K mg base CX0 1 f fd ["self"] (spTakeN t K) := by
  refine D.F.ok scTn (fun vs H Q E h => ?_) (fun cdv A outer s H vs Q E hr h => ?_)
  · obtain ⟨G0, H0, G, d, cl, ns, place, p, v, rfl, _⟩ := h
    rfl
  · obtain ⟨G0, H0, G, d, cl, ns, place, p, v, rfl, R, hv, k⟩ := h
    obtain ⟨dx, a, hob, hpa⟩ := R.ob
    refine ⟨_, pss_cons (ps_set (i := 1) scTn.nd rfl (Or.inl rfl) (pe_ix ix_list (pe_fld (pv 0) rfl) (pe_fld (pv 0) rfl) (fun _ _ => rfl))) (pss_cons (ps_fldaug (pv 0) pe_int in_add) (pss_one (ps_ret (pv 1)))), ?_⟩
    refine ⟨_, rfl, d, t.cD, dx, _, _, rfl, hob, T.clD, T.dC, dF_calls _ _ _, _, rfl, d, t.cD, dx, _, _, rfl, hob, T.clD, T.dP, dF_place _ _ _, cl, _, _, _, rfl, rfl, R.list, atI_nat (iv_at hv), ?_⟩
    refine ⟨_, rfl, d, t.cD, dx, _, _, rfl, hob, T.clD, T.dP, dF_place _ _ _, _, _, rfl, rfl, dx, _, hob, (by show 3 < 1000; decide), ?_⟩
    rw [dF_putP]
    refine ⟨_, rfl, ?_⟩
    have e : ((place : Int) + 1) = ((place + 1 : Nat) : Int) := by omega
    rw [e]
    refine k _ (R.set hpa) (fun b o hb hn => by rw [upd_ne hn]; exact hb) fun b hb => ?_
    rw [upd_ne (ne_of_none hob hb).symm]; exact hb
inductive spTakeR (t : Ad) (K : PySem.W.Frag) (vs : List V) (H : Hp) (Q : VK) (E : XK) : Prop
  | mk (G0 H0 G : Hp) (d cl : Addr) (ns : List Int) (place : Nat) (p : Pat) (n : Nat) : (vs = [.ref d]) → (DkAt t K G0 H0 G H d cl ns place p) → (ns[place]? = some (n : Int)) → (place + 1 + n ≤ ns.length) → (∀ (r : Addr) (H' : Hp), DkAt t K G0 H0 G H' d cl ns (place + 1 + n) p → H' r = some (.lst (iv ((ns.drop (place + 1)).take n))) → Q (.ref r) H') → spTakeR t K vs H Q E
theorem scTr : FnScope ["self", "start"] ["self"] (defScope sTakeR) := ⟨rfl, rfl, rfl, by decide +kernel, rfl, by decide +kernel, by decide +kernel⟩
theorem ok_taker {f : Addr} {fd : FuncData} (D : Dm K t.cD "take_row" "Desk.take_row" sTakeR ["self"] f fd) (T : Txt K mg t) : FnOk P w K mg base CX0 1 f fd ["self"] (spTakeR t K) := by
  refine D.F.ok scTr (fun vs H Q E h => ?_) (fun cdv A outer s H vs Q E hr h => ?_)
  · obtain ⟨G0, H0, G, d, cl, ns, place, p, n, rfl, _⟩ := h
    rfl
  · obtain ⟨G0, H0, G, d, cl, ns, place, p, n, rfl, R, hv, hle, k⟩ := h
    obtain ⟨dx, a, hob, hpa⟩ := R.ob
    refine ⟨_, pss_cons (ps_set (i := 1) scTr.nd rfl (Or.inl rfl) (pe_op op_addN (pe_fld (pv 0) rfl) pe_int)) (pss_cons (ps_fld (pv 0) (pe_op op_addN (pv 1) (pe_ix ix_list (pe_fld (pv 0) rfl) (pe_fld (pv 0) rfl) (fun _ _ => rfl))) rfl)
      (pss_one (ps_ret (pe_slice sl_list (pe_fld (pv 0) rfl) (po_some (pv 1)) (po_some (pe_fld (pv 0) rfl)))))), ?_⟩
    refine ⟨_, rfl, d, t.cD, dx, _, _, rfl, hob, T.clD, T.dP, dF_place _ _ _, place, 1, rfl, rfl, fun st hst => ?_⟩
    refine ⟨_, rfl, _, rfl, d, t.cD, dx, _, _, rfl, hob, T.clD, T.dC, dF_calls _ _ _, _, rfl, d, t.cD, dx, _, _, rfl, hob, T.clD, T.dP, dF_place _ _ _, cl, _, _, _, rfl, rfl, R.list, atI_nat (iv_at hv), st, n, rfl, rfl, fun en hen => ?_⟩
    refine ⟨_, rfl, d, t.cD, dx, _, rfl, hob, T.clD, T.dP, (by show 3 < 1000; decide), ?_⟩
    rw [dF_putP]
    have R2 := R.set (dx := dx) (place' := en) hpa
    refine ⟨_, rfl, d, t.cD, dx, _, _, rfl, upd_same, T.clD, T.dC, dF_calls _ _ _, _, rfl, (st : Int), rfl, _, rfl, d, t.cD, dx, _, _, rfl, upd_same, T.clD, T.dP, dF_place _ _ _, (en : Int), rfl, cl, _, rfl, R2.list, fun r hr => ?_⟩
    have e1 : en = place + 1 + n := by omega
    subst e1
    refine k r _ (R2.call ((Ext.refl R2.ext.gh).new hr _)) ?_
    rw [upd_same]
    unfold cutV
    rw [HT.sIx_nat, HT.sIx_nat, iv_length, Nat.min_eq_left (by omega), Nat.min_eq_left (by omega), hst, show place + 1 + n - (place + 1) = n by omega]
    unfold iv
    rw [List.map_take, List.map_drop]
inductive spMore (t : Ad) (K : PySem.W.Frag) (vs : List V) (H : Hp) (Q : VK) (E : XK) : Prop
  | mk (G0 H0 G : Hp) (d cl : Addr) (ns : List Int) (place : Nat) (p : Pat) : (vs = [.ref d]) → (DkAt t K G0 H0 G H d cl ns place p) → (Q (.bl (decide (place < ns.length))) H) → spMore t K vs H Q E
theorem scHm : FnScope ["self"] ["self"] (defScope sHasMore) := ⟨rfl, rfl, rfl, by decide +kernel, rfl, by decide +kernel, by decide +kernel⟩
theorem ok_more {f : Addr} {fd : FuncData} (D : Dm K t.cD "has_more" "Desk.has_more" sHasMore ["self"] f fd) (T : Txt K mg t) : FnOk P w K mg base CX0 1 f fd ["self"] (spMore t K) := by
  refine D.F.ok scHm (fun vs H Q E h => ?_) (fun cdv A outer s H vs Q E hr h => ?_)
  · obtain ⟨G0, H0, G, d, cl, ns, place, p, rfl, _⟩ := h
    rfl
  · obtain ⟨G0, H0, G, d, cl, ns, place, p, rfl, R, k⟩ := h
    obtain ⟨dx, a, hob, hpa⟩ := R.ob
    refine ⟨_, pss_one (ps_ret (pe_cmpR op_lt (pe_fld (pv 0) rfl) (pe_callB call_len_seq rfl T.len PySem.boot_len (pa_cons (pe_fld (pv 0) rfl) pa_nil)) (nomark _))), ?_⟩
    refine ⟨_, rfl, d, t.cD, dx, _, _, rfl, hob, T.clD, T.dP, dF_place _ _ _, _, rfl, d, t.cD, dx, _, _, rfl, hob, T.clD, T.dC, dF_calls _ _ _, cl, _, rfl, .inl R.list, _, _, rfl, rfl, ?_⟩
    show Q (.bl (decide ((place : Int) < ((iv ns).length : Int)))) H
    have e : decide ((place : Int) < ((iv ns).length : Int)) = decide (place < ns.length) := decide_eq_decide.mpr (by rw [iv_length]; omega)
    rw [e]; exact k
end
end PW
end
section
set_option Elab.async false
set_option linter.all false
set_option maxRecDepth 100000
namespace PW
open PySem L2 Mth
theorem byte_of {z : Int} (h0 : 0 ≤ z) (h1 : z ≤ 255) : ((UInt8.ofNat z.toNat).toNat : Int) = z := by
  rw [UInt8.toNat_ofNat_of_lt' (by show z.toNat < 256; omega)]
  omega
theorem canEnd_up {st : RS} (h : canEnd st = true) : st.up = [] := by
  unfold canEnd at h
  split at h
  · exact List.isEmpty_iff.mp h
  · cases h
section
variable {P : Program} {w : World} {K : PySem.W.Frag} {mg : Str → Option Value} {base : Heap} {t : Ad}
/-! ### load -/
abbrev byt (b : List Int) : Sg05.Bytes := Sg05Neutral.bytesOf b
inductive spLoad (t : Ad) (K : PySem.W.Frag) (vs : List V) (H : Hp) (Q : VK) (E : XK) : Prop
  | mk (G0 H0 G : Hp) (d cl : Addr) (ns : List Int) (place : Nat) (p : Pat) (tx : Addr) (b : List Int) : (vs = [.ref d, .ref tx]) → (DkAt t K G0 H0 G H d cl ns place p) → (SqL K H tx (iv b)) → ((∀ z ∈ b, 0 ≤ z ∧ z ≤ 255)) → (∀ G' H', DkAt t K G0 H0 G' H' d cl ns place (Sg05.does p (.load (byt b))).1 → (∀ c, H c ≠ none → G c = none → G' c = none) → Q (.int (Sg05.does p (.load (byt b))).2.v) H') → spLoad t K vs H Q E
abbrev nLo : List Str := ["self", "text", "reader", "place", "byte", "pattern"]
theorem scLo : FnScope nLo ["self", "text"] (defScope sLoad) := ⟨rfl, rfl, rfl, by decide +kernel, rfl, by decide +kernel, by decide +kernel⟩
theorem ok_load {f fR fT fN fM fP fF : Addr} {fd fdR fdT fdN fdM fdP fdF : FuncData} (D : Dm K t.cD "load" "Desk.load" sLoad ["self", "text"] f fd)
    (DR : Di K t.cR "Reader.__init__" sInitR ["self"] fR fdR) (GR : FnOk P w K mg base CX0 3 fR fdR ["self"] (spIR t))
    (DT : Dm K t.cR "takes" "Reader.takes" sTakes psB fT fdT) (GT : FnOk P w K mg base CX0 10 fT fdT psB (spStep t fun _ => True))
    (DN : Df K mg "not_at" sNotAt ["place"] fN fdN)
    (DM : Dm K t.cR "may_end" "Reader.may_end" sMayEnd ["self"] fM fdM)
    (DP : Dm K t.cR "pattern" "Reader.pattern" sPattern ["self"] fP fdP) (GP : FnOk P w K mg base CX0 8 fP fdP ["self"] (spPattern t))
    (DF : Df K mg "fits" sFits ["piece"] fF fdF) (T : Txt K mg t) : FnOk P w K mg base CX0 11 f fd ["self", "text"] (spLoad t K) := by
  have GN : FnOk P w K mg base CX0 1 fN fdN ["place"] spNotAt := ok_notat DN
  have GM : FnOk P w K mg base CX0 1 fM fdM ["self"] (spMayEnd t) := ok_mayend DM T
  have GF : FnOk P w K mg base CX0 1 fF fdF ["piece"] (spFits t) := ok_fits DF T
  refine D.F.ok scLo (fun vs H Q E h => ?_) (fun cdv A outer s H vs Q E hr h => ?_)
  · obtain ⟨G0, H0, G, d, cl, ns, place, p, tx, b, rfl, _⟩ := h
    rfl
  · obtain ⟨G0, H0, G, d, cl, ns, place, p, tx, b, rfl, R0, htx, hb, k⟩ := h
    have h1 : Room 1 _ := hr.mono (by decide)
    have h4 : Room 4 _ := hr.mono (by decide)
    have h8 : Room 8 _ := hr.mono (by decide)
    have hsl : (byt b).length = b.length := by unfold byt Sg05Neutral.bytesOf; rw [List.length_map]
    rw [does_load] at k
    refine ⟨_, pss_cons (ps_if (pt_cmpR op_gt (pe_callB call_len_seq rfl T.len PySem.boot_len (pa_cons (pv 1) pa_nil)) (pgi T.mBytes) (nomark _)) (pss_one (ps_ret (pgi T.textLong))) pss_nil)
      (pss_cons (ps_set (i := 2) scLo.nd rfl (Or.inl rfl) (pe_make0 DR.m GR h4 rfl T.mR DR.b .nil pass0))
      (pss_cons (ps_for PassesOwn.never rfl (pi_enum rfl T.enum (pa_cons (pv 1) pa_nil)) (pg_tup rfl (pgs_cons (pg_name (i := 3) scLo.nd rfl (Or.inl rfl)) (pgs_cons (pg_name (i := 4) scLo.nd rfl (Or.inl rfl)) pgs_nil)))
        (pss_one (ps_if (pt_not (pt_truth (pe_meth (pv 2) T.clR DT.m GT hr DT.b .nil pass0 (pa_cons (pv 4) pa_nil)) (fun _ => rfl))) (pss_one (ps_ret (pe_call GN h1 rfl DN.m DN.F.kp DN.b .nil pass0 (pa_cons (pv 3) pa_nil)))) pss_nil)))
      (pss_cons (ps_if (pt_not (pt_truth (pe_meth0 (pv 2) T.clR DM.m GM h1 DM.b .nil pass0) (fun _ => rfl))) (pss_one (ps_ret (pe_call GN h1 rfl DN.m DN.F.kp DN.b .nil pass0 (pa_cons (pe_callB call_len_seq rfl T.len PySem.boot_len (pa_cons (pv 1) pa_nil)) pa_nil)))) pss_nil)
      (pss_cons (ps_set (i := 5) scLo.nd rfl (Or.inl rfl) (pe_meth0 (pv 2) T.clR DP.m GP h8 DP.b .nil pass0))
      (pss_cons (ps_if (pt_not (pt_truth (pe_call GF h1 rfl DF.m DF.F.kp DF.b .nil pass0 (pa_cons (pv 5) pa_nil)) (fun _ => rfl))) (pss_one (ps_ret (pgi T.tooLarge))) pss_nil)
      (pss_cons (ps_fld (pv 0) (pv 5) rfl) (pss_one (ps_ret (pgi T.done))))))))), ?_⟩
    refine ⟨_, rfl, tx, _, rfl, .inl htx, _, _, rfl, rfl, _, rfl, ?_⟩
    have hT : Sg05.TEXT = 1023 := rfl
    refine ite2 (fun c => ?_) (fun c => ?_)
    · have c' : Sg05.TEXT < (byt b).length := by have := dT c; rw [iv_length] at this; omega
      rw [if_pos c'] at k
      exact k G H R0 fun _ _ z => z
    · have c' : ¬ Sg05.TEXT < (byt b).length := fun z => dF' c (by rw [iv_length]; omega)
      have hlen : b.length ≤ 1023 := by omega
      rw [if_neg c', pattern_run] at k
      intro r dr nr ndr ner
      have e0 : Ext G H G (upd (upd H dr (.own r)) r (.ins t.cR dr [])) := ((Ext.refl R0.ext.gh).new ndr _).new (by rw [upd_ne ner.symm]; exact nr) _
      refine ⟨G, H, r, dr, rfl, e0, nr, R0.ext.nG nr, upd_same, fun ll x0 H1 R1 => ⟨rfl, ?_⟩⟩
      -- what an error answers
      have bad : ∀ (e : Nat), run rs0 0 (byt b) = .error e → ∀ G2 H2, Ext G H G2 H2 → Q (.int (-1 - (e : Int))) H2 := fun e he G2 H2 e2 => by
        rw [he] at k
        exact k G2 H2 (R0.call e2) e2.old
      refine ⟨_, rfl, tx, _, rfl, R1.ext.hh.seq htx, for_enum (K := K) (a := tx) (xs := iv b) (fun i σ H2 => ∃ (v3 v4 : Option V) (G2 : Hp) (ll : Addr) (xs : List (Addr × Addr × Addr)) (st : RS), σ = [some (.ref d), some (.ref tx), some (.ref r), v3, v4, none] ∧ RdAt t G H G2 H2 r ll xs st ∧ SOk st ∧ Sz i st ∧ run rs0 0 (byt b) = run st i ((byt b).drop i))
        ⟨none, none, G, ll, [x0], rs0, rfl, R1, sok0, sz_mk (by simp) (by simp) (by simp), rfl⟩ (fun i σ H2 _ h => by obtain ⟨_, _, _, _, _, _, _, R2, _⟩ := h; exact R2.ext.hh.seq htx) ?_ ?_⟩
      · rintro i y Tp σ H2 hi ⟨v3, v4, G2, ll2, xs, st, rfl, R2, hok, hsz, hrun⟩ hTp
        obtain ⟨z, hz, rfl⟩ : ∃ z, b[i]? = some z ∧ y = V.int z := by
          unfold iv at hi
          rw [List.getElem?_map] at hi
          cases e : b[i]? with
          | none => rw [e] at hi; cases hi
          | some z => rw [e] at hi; exact ⟨z, rfl, (Option.some.inj hi).symm⟩
        have hi' : i < b.length := (List.getElem?_eq_some_iff.mp hz).1
        have hzb := hb z (List.mem_of_getElem? hz)
        have hc : (byt b)[i]? = some (UInt8.ofNat z.toNat) := by
          unfold byt Sg05Neutral.bytesOf
          rw [List.getElem?_map, hz]; rfl
        rw [drop_cons hc] at hrun
        have R3 := R2.new hTp (.tup [.int (i : Nat), .int z])
        obtain ⟨dx, aw, rp, le, mo, hob, _⟩ := R3.ob
        refine ⟨Tp, _, rfl, SqT.of upd_same, rfl, _, _, rfl, _, _, rfl, rfl, ?_⟩
        refine ⟨_, rfl, r, dx, _, rfl, hob, rF_takes _ _ _ _ _, _, rfl, G, H, G2, r, ll2, xs, st, UInt8.ofNat z.toNat, ?_, R3, trivial, hok, hsz.mono (by omega), ?_⟩
        · show [V.ref r, V.int z] = _
          rw [byte_of hzb.1 hzb.2]
        · cases hst : step st (UInt8.ofNat z.toNat) with
          | none =>
            intro G4 H4 e4
            refine ⟨false, rfl, iteT ⟨_, rfl, _, rfl, ?_⟩⟩
            exact bad i (by rw [hrun, run_cons_none hst]) G4 H4 e4
          | some st' =>
            intro G4 H4 ll4 xs4 R4
            refine ⟨true, rfl, iteF ?_⟩
            exact ⟨_, _, G4, ll4, xs4, st', rfl, R4, sok_step hok hst, sz_step hsz hst, by rw [hrun, run_cons_some hst]⟩
      · rintro σ H2 ⟨v3, v4, G2, ll2, xs, st, rfl, R2, hok, hsz, hrun⟩
        rw [iv_length] at hsz hrun
        rw [List.drop_eq_nil_of_le (by omega), Mth.run] at hrun
        obtain ⟨dx, aw, rp, le, mo, hob, _⟩ := R2.ob
        refine ⟨_, rfl, r, dx, _, rfl, hob, rF_mayend _ _ _ _ _, G, H, G2, r, ll2, xs, st, rfl, R2, canEnd st, rfl, ?_⟩
        cases hce : canEnd st with
        | false =>
          rw [hce] at hrun
          refine iteT ⟨_, rfl, tx, _, rfl, .inl (R2.ext.hh.seq htx), _, rfl, ?_⟩
          have hrun' : run rs0 0 (byt b) = .error b.length := hrun
          have z := bad b.length hrun' G2 H2 R2.ext
          rw [iv_length]
          exact z
        | true =>
          rw [hce] at hrun
          have hrun' : run rs0 0 (byt b) = .ok (.alt (st.b ++ [.seq st.i])) := hrun
          rw [hrun'] at k
          refine iteF ⟨_, rfl, r, dx, _, rfl, hob, rF_pattern _ _ _ _ _, G, H, G2, r, ll2, xs, st, rfl, R2, canEnd_up hce, hsz.mono (by omega), fun a G3 H3 e3 hpa => ?_⟩
          have hwf : WF (.alt (st.b ++ [.seq st.i])) := WF_alt hok.b hok.i
          refine ⟨_, rfl, G3, a, _, _, rfl, e3.gh, hpa, _, rfl, ?_⟩
          have hM : Sg05.MOST = 255 := rfl
          have q1 : Sg05.MOST < Sg05.longest (.alt (st.b ++ [.seq st.i])) ↔ 255 < mx (Sg05.words (.alt (st.b ++ [.seq st.i]))) := by rw [longest_eq hwf, hM]
          have q2 : Sg05.ALL < Sg05.counted (.alt (st.b ++ [.seq st.i])) ↔ Sg05.ALL < (Sg05.words (.alt (st.b ++ [.seq st.i]))).length := by
            rw [counted_eq]
            have := cap_le_iff (n := (Sg05.words (.alt (st.b ++ [.seq st.i]))).length)
            omega
          by_cases hf : (Sg05.words (.alt (st.b ++ [.seq st.i]))).length ≤ Sg05.ALL ∧ mx (Sg05.words (.alt (st.b ++ [.seq st.i]))) ≤ 255
          · rw [decide_eq_true hf]
            have k' : ∀ (G' H' : Hp), DkAt t K G0 H0 G' H' d cl ns place (.alt (st.b ++ [.seq st.i])) → (∀ c, H c ≠ none → G c = none → G' c = none) → Q (.int 0) H' := by
              simp only [if_neg (show ¬ Sg05.MOST < Sg05.longest (.alt (st.b ++ [.seq st.i])) from fun z => by have := q1.mp z; omega), if_neg (show ¬ Sg05.ALL < Sg05.counted (.alt (st.b ++ [.seq st.i])) from fun z => by have := q2.mp z; omega)] at k
              exact k
            have R5 := R0.call e3
            obtain ⟨dxd, a0, hobd, _⟩ := R5.ob
            refine iteF ⟨_, rfl, _, rfl, d, t.cD, dxd, _, rfl, hobd, T.clD, T.dN, (by show 3 < 1000; decide), ?_⟩
            rw [dF_putN]
            exact k' _ _ (R5.set hpa) e3.old
          · rw [decide_eq_false hf]
            have k' : ∀ (G' H' : Hp), DkAt t K G0 H0 G' H' d cl ns place p → (∀ c, H c ≠ none → G c = none → G' c = none) → Q (.int (-4000)) H' := by
              by_cases c1 : Sg05.MOST < Sg05.longest (.alt (st.b ++ [.seq st.i]))
              · simp only [if_pos c1] at k
                exact k
              · have c2 : Sg05.ALL < Sg05.counted (.alt (st.b ++ [.seq st.i])) := q2.mpr (by
                  have : ¬ 255 < mx (Sg05.words (.alt (st.b ++ [.seq st.i]))) := fun z => c1 (q1.mpr z)
                  omega)
                simp only [if_neg c1, if_pos c2] at k
                exact k
            exact iteT (k' _ _ (R0.call e3) e3.old)
end
end PW
end
section
set_option Elab.async false
set_option linter.all false
set_option maxRecDepth 100000
namespace PW
open PySem L2 Mth
theorem sl2 {n : Nat} (h : n ≤ 2000000) : n ≤ sizeLine := by
  have : (2000000 : Nat) ≤ sizeLine := by decide
  omega
theorem sl2' {n : Nat} (h : n ≤ 2000000) : n < sizeLine := by
  have : (2000000 : Nat) < sizeLine := by decide
  omega
theorem load_l (p : Pat) (s : Sg05.Bytes) : (Sg05.does p (.load s)).2.l = [] := by
  rw [does_load]
  split
  · rfl
  · split
    · rfl
    · split
      · rfl
      · split <;> rfl
theorem step_load (p : Pat) (b : List Int) : Sg05Neutral.step p [[4], b] = ((Sg05.does p (.load (byt b))).1, [(Sg05.does p (.load (byt b))).2.v]) := by
  have e : Sg05Neutral.step p [[4], b] = ((Sg05.does p (.load (byt b))).1, (Sg05.does p (.load (byt b))).2.v :: (Sg05.does p (.load (byt b))).2.l.map fun (x : Nat) => (x : Int)) := rfl
  rw [e, load_l]; rfl
theorem asked_word {k m : Int} (h : Sg05Neutral.asked1 [[2, k, m]] = true) : 0 ≤ k := by
  have h : (Sg05Neutral.natural k 64 && Sg05Neutral.whole32 m) = true := h
  rw [Bool.and_eq_true] at h
  have h1 := h.1
  unfold Sg05Neutral.natural at h1
  rw [Bool.and_eq_true] at h1
  exact of_decide_eq_true h1.1
theorem asked_each {a n : Int} (h : Sg05Neutral.asked1 [[3, a, n]] = true) : 0 ≤ a ∧ 0 ≤ n ∧ n ≤ 1000 := by
  have h : (Sg05Neutral.natural a 64 && (decide (0 ≤ n) && decide (n ≤ 1000))) = true := h
  rw [Bool.and_eq_true, Bool.and_eq_true] at h
  have h1 := h.1
  unfold Sg05Neutral.natural at h1
  rw [Bool.and_eq_true] at h1
  exact ⟨of_decide_eq_true h1.1, of_decide_eq_true h.2.1, of_decide_eq_true h.2.2⟩
theorem asked_load {b : List Int} (h : Sg05Neutral.asked1 [[4], b] = true) : ∀ z ∈ b, 0 ≤ z ∧ z ≤ 255 := by
  have h : (b.all (fun (z : Int) => Sg05Neutral.natural z 8) && decide (b.length ≤ 1100)) = true := h
  rw [Bool.and_eq_true] at h
  intro z hz
  have h1 := List.all_eq_true.mp h.1 z hz
  unfold Sg05Neutral.natural at h1
  rw [Bool.and_eq_true] at h1
  have h2 := of_decide_eq_true h1.1
  have h3 : z < 2 ^ 8 := of_decide_eq_true h1.2
  omega
section
variable {P : Program} {w : World} {K : PySem.W.Frag} {mg : Str → Option Value} {base : Heap} {t : Ad}
/-! ### answer_next -/
inductive spNext (t : Ad) (K : PySem.W.Frag) (vs : List V) (H : Hp) (Q : VK) (E : XK) : Prop
  | mk (G0 H0 G : Hp) (d cl : Addr) (ns : List Int) (place : Nat) (p : Pat) (c : List (List Int)) (tl : List Int) : (vs = [.ref d]) → (DkAt t K G0 H0 G H d cl ns place p) → (Held p) → (OneCall (ns.drop place) c tl) → (Sg05Neutral.asked1 c = true) → (∀ (r : Addr) (G' H' : Hp) (place' : Nat), DkAt t K G0 H0 G' H' d cl ns place' (Sg05Neutral.step p c).1 → place < place' → place' ≤ ns.length → ns.drop place' = tl → H0 r = none → G' r = none → H' r = some (.lst (iv (Sg05Neutral.step p c).2)) → Q (.ref r) H') → spNext t K vs H Q E
abbrev nNx : List Str := ["self", "call", "number", "first"]
theorem scNx : FnScope nNx ["self"] (defScope sNext) := ⟨rfl, rfl, rfl, by decide +kernel, rfl, by decide +kernel, by decide +kernel⟩
theorem ok_next {f fN fR fW fE fL : Addr} {fd fdN fdR fdW fdE fdL : FuncData} (D : Dm K t.cD "answer_next" "Desk.answer_next" sNext ["self"] f fd)
    (DN : Dm K t.cD "take_number" "Desk.take_number" sTakeN ["self"] fN fdN) (DR : Dm K t.cD "take_row" "Desk.take_row" sTakeR ["self"] fR fdR)
    (DW : Df K mg "word_answer" sWordA psWa fW fdW) (GW : FnOk P w K mg base CX0 202 fW fdW psWa (spWordA t))
    (DE : Df K mg "each_answer" sEachA psEa fE fdE) (GE : FnOk P w K mg base CX0 202 fE fdE psEa (spEachA t))
    (DL : Dm K t.cD "load" "Desk.load" sLoad ["self", "text"] fL fdL) (GL : FnOk P w K mg base CX0 11 fL fdL ["self", "text"] (spLoad t K)) (T : Txt K mg t) : FnOk P w K mg base CX0 203 f fd ["self"] (spNext t K) := by
  have GN : FnOk P w K mg base CX0 1 fN fdN ["self"] (spTakeN t K) := ok_taken DN T
  have GR : FnOk P w K mg base CX0 1 fR fdR ["self"] (spTakeR t K) := ok_taker DR T
  refine D.F.ok scNx (fun vs H Q E h => ?_) (fun cdv A outer s H vs Q E hr h => ?_)
  · obtain ⟨G0, H0, G, d, cl, ns, place, p, c, tl, rfl, _⟩ := h
    rfl
  · obtain ⟨G0, H0, G, d, cl, ns, place, p, c, tl, rfl, R, hH, hone, hask, k⟩ := h
    have h1 : Room 1 _ := hr.mono (by decide)
    have h11 : Room 11 _ := hr.mono (by decide)
    obtain ⟨dx, a, hob, hpa⟩ := R.ob
    refine ⟨_, pss_cons (ps_set (i := 1) scNx.nd rfl (Or.inl rfl) (pe_meth0 (pv 0) T.clD DN.m GN h1 DN.b .nil pass0))
      (pss_cons (ps_if (pt_cmpR op_eq (pv 1) (pgi T.count) (nomark _)) (pss_one (ps_ret (pe_lst (pa_cons (pe_fld (pe_fld (pv 0) rfl) rfl) pa_nil)))) pss_nil)
      (pss_cons (ps_if (pt_cmpR op_eq (pv 1) (pgi T.word) (nomark _)) (pss_cons (ps_set (i := 2) scNx.nd rfl (Or.inl rfl) (pe_meth0 (pv 0) T.clD DN.m GN h1 DN.b .nil pass0)) (pss_one (ps_ret (pe_call GW hr rfl DW.m DW.F.kp DW.b .nil pass0 (pa_cons (pe_fld (pv 0) rfl) (pa_cons (pv 2) (pa_cons (pe_meth0 (pv 0) T.clD DN.m GN h1 DN.b .nil pass0) pa_nil))))))) pss_nil)
      (pss_cons (ps_if (pt_cmpR op_eq (pv 1) (pgi T.each) (nomark _)) (pss_cons (ps_set (i := 3) scNx.nd rfl (Or.inl rfl) (pe_meth0 (pv 0) T.clD DN.m GN h1 DN.b .nil pass0)) (pss_one (ps_ret (pe_call GE hr rfl DE.m DE.F.kp DE.b .nil pass0 (pa_cons (pe_fld (pv 0) rfl) (pa_cons (pv 3) (pa_cons (pe_meth0 (pv 0) T.clD DN.m GN h1 DN.b .nil pass0) pa_nil))))))) pss_nil)
      (pss_one (ps_ret (pe_lst (pa_cons (pe_meth (pv 0) T.clD DL.m GL h11 DL.b .nil pass0 (pa_cons (pe_meth0 (pv 0) T.clD DR.m GR h1 DR.b .nil pass0) pa_nil)) pa_nil))))))), ?_⟩
    have isn : ∀ {i j : Int}, i ≠ j → ¬ decide (V.int i = V.int j) = true := fun hne z => hne (dI z)
    generalize hdr : ns.drop place = l at hone
    cases hone with
    | count tl =>
      obtain ⟨q1, q2, q3⟩ := drop_head hdr
      refine ⟨_, rfl, d, dx, _, rfl, hob, dF_taken _ _ _, G0, H0, G, d, cl, ns, place, p, _, rfl, R, q1, fun H1 R1 _ _ => ?_⟩
      obtain ⟨dx1, a1, hob1, hpa1⟩ := R1.ob
      refine ⟨_, rfl, rfl, _, rfl, ?_⟩
      refine iteT ?_
      obtain ⟨dxa, tw, bl, hoba⟩ := PcAt.ob hpa1
      have hobaH := R1.ext.gh _ _ hoba
      rw [cap_of hH.cnt] at hobaH
      refine ⟨_, rfl, d, t.cD, dx1, _, _, rfl, hob1, T.clD, T.dN, dF_now _ _ _, a1, t.cP, dxa, _, _, rfl, hobaH, T.clP, T.pT, pF_total _ _ _ _, (by show 1 ≤ sizeLine; decide), fun r hr' => ?_⟩
      rw [step_count hH] at k
      exact k r G _ (place + 1) (R1.call ((Ext.refl R1.ext.gh).new hr' _)) (by omega) (by omega) q2 (R1.ext.n0 hr') (R1.ext.nG hr') (by rw [upd_same]; rfl)
    | word kk m tl =>
      obtain ⟨q1, q2, q3⟩ := drop_head hdr
      obtain ⟨q4, q5, q6⟩ := drop_head q2
      obtain ⟨q7, q8, q9⟩ := drop_head q5
      have hk := asked_word hask
      obtain ⟨kn, rfl⟩ : ∃ n : Nat, kk = (n : Int) := ⟨kk.toNat, by omega⟩
      refine ⟨_, rfl, d, dx, _, rfl, hob, dF_taken _ _ _, G0, H0, G, d, cl, ns, place, p, _, rfl, R, q1, fun H1 R1 _ _ => ?_⟩
      obtain ⟨dx1, a1, hob1, hpa1⟩ := R1.ob
      refine ⟨_, rfl, rfl, _, rfl, ?_⟩
      refine iteF ?_
      refine ⟨_, rfl, rfl, _, rfl, ?_⟩
      refine iteT ?_
      refine ⟨_, rfl, d, dx1, _, rfl, hob1, dF_taken _ _ _, G0, H0, G, d, cl, ns, place + 1, p, _, rfl, R1, q4, fun H2 R2 _ _ => ?_⟩
      obtain ⟨dx2, a2, hob2, hpa2⟩ := R2.ob
      refine ⟨_, rfl, d, t.cD, dx2, _, _, rfl, hob2, T.clD, T.dN, dF_now _ _ _, _, rfl, _, rfl, d, dx2, _, rfl, hob2, dF_taken _ _ _, G0, H0, G, d, cl, ns, place + 1 + 1, p, _, rfl, R2, q7, fun H3 R3 _ _ => ?_⟩
      refine ⟨G, a2, p, kn, m, rfl, R3.ext.gh, hpa2, hH, fun r G4 H4 e4 hr4 hg4 h4 => ?_⟩
      have es : Sg05Neutral.step p [[2, (kn : Int), m]] = (p, wordA p kn m) := step_word hH kn m
      rw [es] at k
      exact k r G4 H4 (place + 1 + 1 + 1) (R3.call e4) (by omega) (by omega) q8 (R3.ext.n0 hr4) hg4 h4
    | each aa n tl =>
      obtain ⟨q1, q2, q3⟩ := drop_head hdr
      obtain ⟨q4, q5, q6⟩ := drop_head q2
      obtain ⟨q7, q8, q9⟩ := drop_head q5
      obtain ⟨ha0, hn0, hn1⟩ := asked_each hask
      obtain ⟨an, rfl⟩ : ∃ m : Nat, aa = (m : Int) := ⟨aa.toNat, by omega⟩
      obtain ⟨nn, rfl⟩ : ∃ m : Nat, n = (m : Int) := ⟨n.toNat, by omega⟩
      refine ⟨_, rfl, d, dx, _, rfl, hob, dF_taken _ _ _, G0, H0, G, d, cl, ns, place, p, _, rfl, R, q1, fun H1 R1 _ _ => ?_⟩
      obtain ⟨dx1, a1, hob1, hpa1⟩ := R1.ob
      refine ⟨_, rfl, rfl, _, rfl, ?_⟩
      refine iteF ?_
      refine ⟨_, rfl, rfl, _, rfl, ?_⟩
      refine iteF ?_
      refine ⟨_, rfl, rfl, _, rfl, ?_⟩
      refine iteT ?_
      refine ⟨_, rfl, d, dx1, _, rfl, hob1, dF_taken _ _ _, G0, H0, G, d, cl, ns, place + 1, p, _, rfl, R1, q4, fun H2 R2 _ _ => ?_⟩
      obtain ⟨dx2, a2, hob2, hpa2⟩ := R2.ob
      refine ⟨_, rfl, d, t.cD, dx2, _, _, rfl, hob2, T.clD, T.dN, dF_now _ _ _, _, rfl, _, rfl, d, dx2, _, rfl, hob2, dF_taken _ _ _, G0, H0, G, d, cl, ns, place + 1 + 1, p, _, rfl, R2, q7, fun H3 R3 _ _ => ?_⟩
      refine ⟨G, a2, p, an, nn, rfl, R3.ext.gh, hpa2, hH, by omega, fun r G4 H4 e4 hr4 hg4 h4 => ?_⟩
      have es : Sg05Neutral.step p [[3, (an : Int), (nn : Int)]] = (p, eachA p an nn) := step_each hH an nn
      rw [es] at k
      exact k r G4 H4 (place + 1 + 1 + 1) (R3.call e4) (by omega) (by omega) q8 (R3.ext.n0 hr4) hg4 h4
    | load b tl =>
      obtain ⟨q1, q2, q3⟩ := drop_head hdr
      obtain ⟨q4, q5, q6⟩ := drop_head q2
      have hbz := asked_load hask
      have hlen : place + 1 + 1 + b.length ≤ ns.length := by
        have := congrArg List.length q5
        rw [List.length_drop, List.length_append] at this
        omega
      refine ⟨_, rfl, d, dx, _, rfl, hob, dF_taken _ _ _, G0, H0, G, d, cl, ns, place, p, _, rfl, R, q1, fun H1 R1 _ _ => ?_⟩
      obtain ⟨dx1, a1, hob1, hpa1⟩ := R1.ob
      refine ⟨_, rfl, rfl, _, rfl, ?_⟩
      refine iteF ?_
      refine ⟨_, rfl, rfl, _, rfl, ?_⟩
      refine iteF ?_
      refine ⟨_, rfl, rfl, _, rfl, ?_⟩
      refine iteF ?_
      refine ⟨_, rfl, d, dx1, _, rfl, hob1, dF_load _ _ _, _, rfl, d, dx1, _, rfl, hob1, dF_taker _ _ _, G0, H0, G, d, cl, ns, place + 1, p, b.length, rfl, R1, q4, hlen, fun tx H2 R2 h2 => ?_⟩
      rw [q5, List.take_left'  rfl] at h2
      refine ⟨G0, H0, G, d, cl, ns, place + 1 + 1 + b.length, p, tx, b, rfl, R2, SqL.of h2, hbz, fun G3 H3 R3 _ => ?_⟩
      refine ⟨(by show 1 ≤ sizeLine; decide), fun r hr' => ?_⟩
      rw [step_load] at k
      refine k r G3 _ (place + 1 + 1 + b.length) (R3.call ((Ext.refl R3.ext.gh).new hr' _)) (by omega) hlen ?_ (R3.ext.n0 hr') (R3.ext.nG hr') (by rw [upd_same]; rfl)
      rw [← List.drop_drop, q5, List.drop_left' rfl]
end
end PW
end
section
set_option Elab.async false
set_option linter.all false
set_option maxRecDepth 100000
namespace PW
open PySem L2 Mth
/-- a heap without one address -/
def hid (H : Hp) (d : Addr) : Hp := fun b => if b = d then none else H b
theorem hid_ne {H : Hp} {d b : Addr} (h : b ≠ d) : hid H d b = H b := if_neg h
theorem hid_at {H : Hp} {d : Addr} : hid H d d = none := if_pos rfl
theorem hid_same (H : Hp) (d : Addr) : Same (hid H d) H := fun b o h => by
  by_cases e : b = d
  · rw [e, hid_at] at h; cases h
  · rw [hid_ne e] at h; exact h
theorem hid_seq {K : PySem.W.Frag} {H : Hp} {a d C dx : Addr} {fs : List (Str × V)} {xs : List V} (h : SqL K H a xs) (hd : H d = some (.ins C dx fs)) : SqL K (hid H d) a xs := by
  rcases h with (h | ⟨o, h⟩) | h
  · exact .inl (.inl (by rw [hid_ne (ne_of h hd (by intro z; cases z))]; exact h))
  · exact .inl (.inr ⟨o, by rw [hid_ne (ne_of h hd (by intro z; cases z))]; exact h⟩)
  · exact .inr h
section
variable {P : Program} {w : World} {K : PySem.W.Frag} {mg : Str → Option Value} {base : Heap} {t : Ad}
theorem DkAt.hide {G0 H0 G H : Hp} {d cl : Addr} {ns : List Int} {place : Nat} {p : Pat} (R : DkAt t K G0 H0 G H d cl ns place p) : DkAt t K G (hid H d) G H d cl ns place p := by
  obtain ⟨dx, a, h1, h2⟩ := R.ob
  exact ⟨⟨Same.refl G, hid_same H d, R.ext.gh, fun _ _ z => z⟩, ⟨dx, a, h1, h2⟩, hid_at, R.ng, hid_seq R.list h1⟩
theorem DkAt.unhide {G0 H0 G H G' H' : Hp} {d cl : Addr} {ns : List Int} {place place' : Nat} {p q : Pat} (R : DkAt t K G0 H0 G H d cl ns place p) (S : DkAt t K G (hid H d) G' H' d cl ns place' q) : DkAt t K G0 H0 G' H' d cl ns place' q := by
  refine ⟨⟨R.ext.gg.trans S.ext.gg, fun b o h => ?_, S.ext.gh, fun b hb hg => ?_⟩, S.ob, R.n0, S.ng, R.cl⟩
  · exact S.ext.hh _ _ (by rw [hid_ne (ne_of_none h R.n0)]; exact R.ext.hh _ _ h)
  · have hd : b ≠ d := fun z => hb (by rw [z]; exact R.n0)
    refine S.ext.old b ?_ (R.ext.old b hb hg)
    rw [hid_ne hd]
    exact same_ne_none R.ext.hh hb
/-! ### Desk() -/
inductive spID (t : Ad) (K : PySem.W.Frag) (vs : List V) (H : Hp) (Q : VK) (E : XK) : Prop
  | mk (G0 H0 : Hp) (d dx cl : Addr) (ns : List Int) : (vs = [.ref d, .ref cl]) → (Ext G0 H0 G0 H) → (H0 d = none) → (G0 d = none) → (H d = some (.ins t.cD dx [])) → (SqL K H0 cl (iv ns)) → (∀ G' H', DkAt t K G0 H0 G' H' d cl ns 0 Sg05.none_ → Q .non H') → spID t K vs H Q E
theorem scID : FnScope ["self", "calls"] ["self", "calls"] (defScope sInitD) := ⟨rfl, rfl, rfl, by decide +kernel, rfl, by decide +kernel, by decide +kernel⟩
theorem ok_ID {f fS : Addr} {fd fdS : FuncData} (D : Di K t.cD "Desk.__init__" sInitD ["self", "calls"] f fd) (DS : Df K mg "single" sSingle ["word"] fS fdS) (GS : FnOk P w K mg base CX0 3 fS fdS ["word"] (spSingle t)) (T : Txt K mg t) :
    FnOk P w K mg base CX0 4 f fd ["self", "calls"] (spID t K) := by
  refine D.F.ok scID (fun vs H Q E h => ?_) (fun cdv A outer s H vs Q E hr h => ?_)
  · obtain ⟨G0, H0, d, dx, cl, ns, rfl, _⟩ := h
    rfl
  · obtain ⟨G0, H0, d, dx, cl, ns, rfl, e0, hd0, hg0, hd, hcl, k⟩ := h
    refine ⟨_, pss_cons (ps_fld (pv 0) (pv 1) rfl) (pss_cons (ps_fld (pv 0) pe_int rfl) (pss_one (ps_fld (pv 0) (pe_call GS hr rfl DS.m DS.F.kp DS.b .nil pass0 (pa_cons (pe_tup pa_nil) pa_nil)) rfl))), ?_⟩
    refine ⟨_, rfl, _, rfl, d, t.cD, dx, [], rfl, hd, T.clD, T.dC, pl0, _, rfl, d, t.cD, dx, _, rfl, upd_same, T.clD, T.dP, pl1, (by show 0 ≤ sizeLine; decide), fun tw htw => ?_⟩
    rw [upd_upd] at htw ⊢
    have e1 : Ext G0 H0 G0 (upd H d (.ins t.cD dx (putF "place" (.int 0) (putF "calls" (.ref cl) [])))) := e0.mut hd0 hg0 _
    have e2 := (Ext.refl e1.gh).fix htw (.tup [])
    refine ⟨_, tw, [], rfl, e2.gh, (by unfold TupAt; rw [upd_same]; rfl), by simp, fun a G3 H3 e3 hpc => ?_⟩
    have e23 := e2.trans e3
    have hd3 : H3 d = some (.ins t.cD dx (putF "place" (.int 0) (putF "calls" (.ref cl) []))) := e23.hh _ _ upd_same
    refine ⟨_, rfl, d, t.cD, dx, _, rfl, hd3, T.clD, T.dN, pl2, ?_⟩
    rw [dF_put]
    have g3 : G3 d = none := e23.keepN (H := upd H d _) upd_same hg0
    refine k G3 _ ⟨(e1.trans e23).mut hd0 g3 _, ⟨dx, a, upd_same, ?_⟩, hd0, g3, hcl⟩
    unfold PA
    rw [words_none]
    exact PcAt.mono hpc (by unfold Sg05.none_; simp [dep, deps])
/-! ### answers -/
inductive spAns (K : PySem.W.Frag) (vs : List V) (H : Hp) (Q : VK) (E : XK) : Prop
  | mk (cl : Addr) (ns : List Int) : (vs = [.ref cl]) → (SqL K H cl (iv ns)) → (PySg05.answers_asked ns = true) → (∀ (r : Addr) (H' : Hp), Same H H' → H' r = some (.lst (iv (PySg05.answers ns))) → Q (.ref r) H') → spAns K vs H Q E
abbrev nAn : List Str := ["calls", "desk", "result", "answer"]
theorem scAn : FnScope nAn ["calls"] (defScope sAnswers) := ⟨rfl, rfl, rfl, by decide +kernel, rfl, by decide +kernel, by decide +kernel⟩
theorem ok_answers {f fD fM fN : Addr} {fd fdD fdM fdN : FuncData} (D : Df K mg "answers" sAnswers ["calls"] f fd) (DD : Di K t.cD "Desk.__init__" sInitD ["self", "calls"] fD fdD) (GD : FnOk P w K mg base CX0 4 fD fdD ["self", "calls"] (spID t K))
    (DM : Dm K t.cD "has_more" "Desk.has_more" sHasMore ["self"] fM fdM) (DN : Dm K t.cD "answer_next" "Desk.answer_next" sNext ["self"] fN fdN) (GN : FnOk P w K mg base CX0 203 fN fdN ["self"] (spNext t K)) (T : Txt K mg t) :
    FnOk P w K mg base CX0 204 f fd ["calls"] (spAns K) := by
  have GM : FnOk P w K mg base CX0 1 fM fdM ["self"] (spMore t K) := ok_more DM T
  refine D.F.ok scAn (fun vs H Q E h => ?_) (fun cdv A outer s H vs Q E hr h => ?_)
  · obtain ⟨cl, ns, rfl, _⟩ := h
    rfl
  · obtain ⟨cl, ns, rfl, hcl, hask, k⟩ := h
    have h1 : Room 1 _ := hr.mono (by decide)
    have h5 : Room 5 _ := hr.mono (by decide)
    refine ⟨_, pss_cons (ps_set (i := 1) scAn.nd rfl (Or.inl rfl) (pe_make DD.m GD h5 rfl T.mD DD.b .nil pass0 (pa_cons (pv 0) pa_nil)))
      (pss_cons (ps_set (i := 2) scAn.nd rfl (Or.inl rfl) (pe_lst pa_nil))
      (pss_cons (ps_while PassesOwn.never (pt_truth (pe_meth0 (pv 1) T.clD DM.m GM h1 DM.b .nil pass0) (fun _ => rfl))
        (pss_cons (ps_set (i := 3) scAn.nd rfl (Or.inl rfl) (pe_meth0 (pv 1) T.clD DN.m GN hr DN.b .nil pass0))
        (pss_cons (ps_expr (pe_bm PySem.F.plainAttrs_list PySem.F.slot_list_append PySem.F.type_list_append mt_append (pv 2) (pa_cons (pe_callB call_len_seq rfl T.len PySem.boot_len (pa_cons (pv 3) pa_nil)) pa_nil)))
        (pss_one (ps_expr (pe_bm PySem.F.plainAttrs_list PySem.F.slot_list_extend PySem.F.type_list_extend mt_extend (pv 2) (pa_cons (pv 3) pa_nil)))))))
      (pss_one (ps_ret (pv 2))))), ?_⟩
    refine ⟨_, rfl, ?_⟩
    intro d dx nd ndx nex
    have e0 : Ext (fun _ => none) H (fun _ => none) (upd (upd H dx (.own d)) d (.ins t.cD dx [])) := ((Ext.refl (fun _ _ z => by cases z)).new ndx _).new (by rw [upd_ne nex.symm]; exact nd) _
    refine ⟨fun _ => none, H, d, dx, cl, ns, rfl, e0, nd, rfl, upd_same, hcl, fun G1 H1 R1 => ⟨rfl, ?_⟩⟩
    refine ⟨(by show 0 ≤ sizeLine; decide), fun res hres => ?_⟩
    have hres0 : H res = none := R1.ext.n0 hres
    refine ⟨fun m σ H2 => ∃ (v3 : Option V) (G2 : Hp) (place : Nat) (p : Pat) (out : List Int), σ = [some (.ref cl), some (.ref d), some (.ref res), v3] ∧ m = ns.length - place ∧ DkAt t K (fun _ => none) H G2 H2 d cl ns place p ∧ H2 res = some (.lst (iv out)) ∧ G2 res = none ∧ LoopAt ns place p out,
      ⟨_, none, G1, 0, Sg05.none_, [], rfl, rfl, R1.call ((Ext.refl R1.ext.gh).new hres _), upd_same, R1.ext.nG hres, loop_start hask⟩, ?_⟩
    rintro m σ H2 ⟨v3, G2, place, p, out, rfl, rfl, R2, hr2, hg2, hL⟩
    obtain ⟨dx2, a2, hob2, _⟩ := R2.ob
    have hdr : d ≠ res := ne_of hob2 hr2 (by intro z; cases z)
    refine ⟨_, rfl, d, dx2, _, rfl, hob2, dF_more _ _ _, _, H, G2, d, cl, ns, place, p, rfl, R2, _, rfl, ?_⟩
    refine ite2 (fun c => ?_) (fun c => ?_)
    · have hp : place < ns.length := dT c
      obtain ⟨cc, tl, q1, q2, q3, q4⟩ := loop_turn hL hp
      refine ⟨fun σ' H' => ∃ m', m' < ns.length - place ∧ ∃ (v3 : Option V) (G2 : Hp) (place : Nat) (p : Pat) (out : List Int), σ' = [some (.ref cl), some (.ref d), some (.ref res), v3] ∧ m' = ns.length - place ∧ DkAt t K (fun _ => none) H G2 H' d cl ns place p ∧ H' res = some (.lst (iv out)) ∧ G2 res = none ∧ LoopAt ns place p out, fun σ' H' z => z, ?_⟩
      refine ⟨_, rfl, d, dx2, _, rfl, hob2, dF_next _ _ _, G2, hid H2 d, G2, d, cl, ns, place, p, cc, tl, rfl, R2.hide, hL.held, q1, q2, fun r G3 H3 place' R3 hlt hle hdrop hr0 hg3 h3 => ?_⟩
      have R4 := R2.unhide R3
      have hres3 : H3 res = some (.lst (iv out)) := R3.ext.hh _ _ (by rw [hid_ne hdr.symm]; exact hr2)
      have hg4 : G3 res = none := R3.ext.old res (by rw [hid_ne hdr.symm]; exact some_ne hr2) hg2
      have hrr : r ≠ res := fun z => by rw [z, hid_ne hdr.symm, hr2] at hr0; cases hr0
      refine ⟨_, rfl, .inl ⟨rfl, _, SqL.of hres3⟩, _, rfl, r, _, rfl, .inl (SqL.of h3), res, _, _, rfl, rfl, hres3, by rw [iv_length]; exact sl2' (by omega), ?_⟩
      have h3' : upd H3 res (.lst (iv out ++ [V.int ((iv (Sg05Neutral.step p cc).2).length : Nat)])) r = some (.lst (iv (Sg05Neutral.step p cc).2)) := by rw [upd_ne hrr]; exact h3
      refine ⟨_, rfl, .inl ⟨rfl, _, SqL.of upd_same⟩, _, rfl, res, r, _, _, rfl, rfl, upd_same, h3', ?_, ?_⟩
      · rw [List.length_append, iv_length, iv_length]
        exact sl2 (by simp; omega)
      · refine ⟨_, ?_, some (V.ref r), G3, place', _, out ++ (((Sg05Neutral.step p cc).2.length : Int) :: (Sg05Neutral.step p cc).2), rfl, rfl, ?_, ?_, hg4, q4 place' hle hdrop⟩
        · omega
        · rw [upd_upd]
          obtain ⟨dx4, a4, hob4, hpa4⟩ := R4.ob
          exact ⟨R4.ext.mut hres0 hg4 _, ⟨dx4, a4, by rw [upd_ne hdr]; exact hob4, hpa4⟩, R4.n0, R4.ng, R4.cl⟩
        · rw [upd_same, iv_append, iv_length]
          simp [iv]
    · have hp : ns.length ≤ place := Nat.le_of_not_lt (dF' c)
      refine ⟨_, rfl, k res H2 R2.ext.hh ?_⟩
      rw [hr2, loop_end hL hp]
end
end PW
end
section
set_option Elab.async false
set_option linter.all false
set_option maxRecDepth 100000
namespace PW
open PySem PySem.Calls PyProof.Rows L2 Mth
open PySem.W (WalkOS WData GoodWG)
abbrev rowS : PySem.W.OpenSpec := PySem.Challenge.rw_patternwords_s01_answers
/-- the request, laid open -/
theorem script_ofS {Pr : Params} {h : Heap} {args : List WData} {vals : List Value} (hpre : rowS.pre args = true) (hwl : PySem.W.WellAll Pr h vals args) :
    ∃ a vs ns, vals = [Value.ref a] ∧ args = [WData.list (ns.map WData.int)] ∧ h.get? a = some { cls := .type "list", data := .seq vs.toArray } ∧ PyProof.Rows.IntsAre vs ns ∧ ns.length ≤ 16000 ∧ PySg05.answers_asked ns = true ∧
      rowS.post args (WData.list ((PySg05.answers ns).map WData.int)) = true := by
  have hsh : PySem.W.WShape.hasAll [] args [.list .int] = true := PySem.W.os_shapes _ hpre
  obtain ⟨d, r, rfl, h1, h2⟩ := PySem.W.hasAllW_cons hsh
  obtain rfl := PySem.W.hasAllW_nil h2
  obtain ⟨xs, rfl, h3⟩ := PySem.W.hasW_list h1
  obtain ⟨ns, rfl⟩ := PySem.W.items_int h3
  have eo : WData.list (ns.map WData.int) = PySem.W.ofPy (PyData.list (ns.map PyData.int)) := by
    show _ = WData.list (PySem.W.ofPys (ns.map PyData.int))
    rw [PySem.W.ofPys_ints]
  have hs := PySem.W.os_pre_isSome hpre
  rw [eo] at hs
  obtain ⟨dec, _, most, _⟩ := PySem.W.os_dec_ints hs
  rw [← eo] at dec
  have hask : PySg05.answers_asked ns = true := PySem.W.os_pre_asked hpre dec
  have hpost : rowS.post [WData.list (ns.map WData.int)] (WData.list ((PySg05.answers ns).map WData.int)) = true := PySem.W.os_post dec (PySem.W.same_self _)
  cases hwl with
  | cons w1 w2 =>
    cases w2
    cases w1 with
    | list ho hall => exact ⟨_, _, ns, rfl, rfl, ho, Att.ints_of_wellAll ns _ hall, most, hask, hpost⟩
/-- a call whose answer is a list of whole numbers -/
theorem spec_call {P : Program} {w : World} {K : PySem.W.Frag} {mg mb : Str → Option Value} {k : Nat} {fa a : Addr} {fd : FuncData} {x : Str} {sp : Sp} {s₁ : Shared} {vs : List Value} {ns out : List Int}
    (KX : K.In s₁.heap) (hns : s₁.heap.Ns mainGlobals mg) (hb : s₁.heap.Ns builtinsNs mb) (hbb : ∀ x : Str, x ≠ "__name__" → mb x = bootBuiltins x) (hlim : s₁.heap.NoLimit) (hg : s₁.gens = #[])
    (ha : s₁.heap.get? a = some { cls := .type "list", data := .seq vs.toArray }) (hi : PyProof.Rows.IntsAre vs ns) (hl : ns.length ≤ sizeLine) (hr : Room k callerA)
    (F : ∀ base : Heap, K.In base → base.Ns mainGlobals mg → FnOk P w K mg base CX0 k fa fd [x] sp) (hbind : ∀ (s : Shared) (u : Value), BindsTo s fd ⟨[u], []⟩ [(x, u)])
    (hsp : ∀ H : Hp, Only H → SqL K H a (ns.map V.int) → sp [.ref a] H (fun v H' => ∃ r, v = .ref r ∧ H' r = some (.lst (out.map V.int))) fun _ _ _ => False) :
    codeAny (model P w) callerA (.call (.ref fa) ⟨[.ref a], []⟩) (fun r s' => (∃ rr its n, r = .ok (.ret (.ref rr)) ∧ s'.heap.get? rr = some { cls := .type "list", data := .seq its n } ∧ PyProof.Rows.IntsAre its.toList out) ∧ OldK s₁.heap s'.heap ∧ s'.os = s₁.os ∧ AllBare s'.gens) s₁ := by
  have rv := vals_ints hi
  have lenV := hi.length
  have core : ∀ H : Hp, Only H → SqL K H a (ns.map V.int) → HOk P w H s₁.heap → (∀ b, H b ≠ none → b = a) → (H a ≠ none → K.lookup a = none) →
      codeAny (model P w) callerA (.call (.ref fa) ⟨[.ref a], []⟩) (fun r s' => (∃ rr its n, r = .ok (.ret (.ref rr)) ∧ s'.heap.get? rr = some { cls := .type "list", data := .seq its n } ∧ PyProof.Rows.IntsAre its.toList out) ∧ OldK s₁.heap s'.heap ∧ s'.os = s₁.os ∧ AllBare s'.gens) s₁ := by
    intro H hO hS hok hA hK
    have base_of : ∀ {b : Addr} {o : Obj}, s₁.heap.get? b = some o → H b = none → (hidT s₁.heap H).get? b = some o := fun e n => hidT_get e n
    have noA : ∀ {b : Addr} {o : Obj} {es : Array DictEntry} {ep : Nat}, s₁.heap.get? b = some o → o.data = .dict es ep → H b = none := fun {b o es ep} e d => by
      cases q : H b with
      | none => rfl
      | some u =>
        have e' : b = a := hA b (by rw [q]; simp)
        subst e'
        rw [ha] at e; cases e
        have d' : Data.seq vs.toArray _ = Data.dict es ep := d
        cases d'
    have nsK : ∀ {b : Addr} {m : Str → Option Value}, s₁.heap.Ns b m → (hidT s₁.heap H).Ns b m := fun {b m} ⟨o, es, ep, e, d, r⟩ => ⟨o, es, ep, base_of e (noA e d), d, r⟩
    have hKb : K.In (hidT s₁.heap H) := fun b o e => base_of (KX b o e) (by
      cases q : H b with
      | none => rfl
      | some u =>
        have e' : b = a := hA b (by rw [q]; simp)
        subst e'
        rw [hK (by rw [q]; simp)] at e; cases e)
    have hM : Mod K mg (hidT s₁.heap H) := ⟨hKb, nsK hns, ⟨mb, nsK hb, hbb⟩, let ⟨mc, h1, h2⟩ := hlim; ⟨mc, nsK h1, h2⟩⟩
    have e0 : Env0 P w K mg (hidT s₁.heap H) callerA [] s₁ H := ⟨rfl, hM, fun b o e => of_hidT e, Nat.le_of_eq (hidT_size _ _), trivial, fun b hb => absurd (show b ∈ ([] : List Addr) from hb) (by simp), hok, .of_eq hg⟩
    refine codeAny_mono ((F _ hKb (nsK hns)).run callerA [] s₁ H ⟨[.ref a], []⟩ [.ref a] [.ref a] _ _ hr e0 (hbind s₁ (.ref a)) (.cons rfl .nil) (hsp H hO hS)) fun r s' h => ?_
    cases r with
    | error e => exact False.elim h
    | ok fl =>
      cases fl with
      | next => exact False.elim h
      | brk => exact False.elim h
      | cont => exact False.elim h
      | ret u =>
        obtain ⟨v, H', os, bare, un, hok', r', rr, rfl, hrr⟩ := h
        obtain rfl : u = Value.ref rr := r'
        obtain ⟨_, its, n, rvs, hobj⟩ := hok' rr _ hrr
        refine ⟨⟨rr, its.toArray, n, rfl, hobj, by simpa using rvs.ints⟩, OldK.of_keep fun b o e => ?_, os, bare⟩
        cases q : H b with
        | none => exact un.keep b o e q (by intro z; exact absurd (show b ∈ ([] : List Addr) from z) (by simp)) (by simp)
        | some u =>
          rcases hO b with z | ⟨ob, xs, z⟩
          · rw [q] at z; cases z
          · have z2 := un.frzs b ob _ z
            obtain ⟨e1, _⟩ := hok b _ z
            obtain ⟨e2, _⟩ := hok' b _ z2
            rw [e] at e1; cases e1
            exact e2
  cases hk : K.lookup a with
  | some o =>
    have e := KX a o hk
    rw [ha] at e
    cases e
    refine core (fun _ => none) (fun _ => .inl rfl) (.inr ⟨_, vs.toArray, _, hk, rfl, rfl, rfl, by rw [List.size_toArray, lenV]; exact hl, by simpa using rv⟩) (fun b u z => by have z' : (none : Option HO) = some u := z; cases z') (fun b z => absurd rfl z) fun z => absurd rfl z
  | none =>
    refine core (fun b => if b = a then some (.frz { cls := .type "list", data := .seq vs.toArray } (.lst (ns.map V.int))) else none) (fun b => ?_) (.inl (.inr ⟨{ cls := .type "list", data := .seq vs.toArray }, if_pos rfl⟩)) (fun b u z => ?_) (fun b z => ?_) fun _ => hk
    · by_cases hb : b = a
      · exact .inr ⟨_, _, if_pos hb⟩
      · exact .inl (if_neg hb)
    · by_cases hb : b = a
      · have z' := (if_pos hb).symm.trans z
        cases z'
        subst hb
        exact ⟨ha, by rw [List.length_map]; exact hl, vs, _, rv, ha⟩
      · have z' := (if_neg hb).symm.trans z
        cases z'
    · by_cases hb : b = a
      · exact hb
      · exact absurd (if_neg hb) z
/-- the goal that the head leaves, from the promise of answers -/
theorem walkS {q : Program} {loose : List Str} {XP : (Str → Option Value) → Heap → Prop} {YP : World → Heap → Prop} {d : DefRec} {K : Params → PySem.W.Frag} (hdf : d.params.defaults = []) (hr : Room 204 callerA)
    (hY : ∀ (w : World) (h : Heap), YP w h → (K w.params).In h)
    (F : ∀ (w : World) (mg : Str → Option Value) (fa : Addr) (h : Heap), (K w.params).In h → h.Ns mainGlobals mg → mg d.name = some (.ref fa) →
      ∃ fd : FuncData, (∀ (s : Shared) (u : Value), BindsTo s fd ⟨[u], []⟩ [("calls", u)]) ∧ ∀ base : Heap, (K w.params).In base → base.Ns mainGlobals mg → FnOk rowS.prog w (K w.params) mg base CX0 204 fa fd ["calls"] (spAns (K w.params))) :
    WalkOS q loose XP YP rowS d [] (fun f vs => PySem.call f vs) := by
  intro w s₀ s₁ mg mb G Y fa o pm cd doc dV kV ho hd hcd hD hmg hg args vals as hpre hlay hrd hwl hlo
  obtain ⟨a, vs, ns, rfl, rfl, hobj, hints, hlen, hask, hpost⟩ := script_ofS hpre hwl
  have KX := hY w _ Y
  obtain ⟨fd, hb, hF⟩ := F w mg fa _ KX G.T.g hmg
  refine PySem.W.enter_call (codeAny_mono (spec_call (out := PySg05.answers ns) KX G.T.g G.T.b G.T.builtins G.T.nolimit hg hobj hints (Nat.le_trans hlen (by decide)) hr hF hb fun H hO hS => ?_) fun r s' hq => ?_)
  · exact ⟨a, ns, rfl, hS, hask, fun r H' _ h => ⟨r, rfl, h⟩⟩
  · obtain ⟨⟨rr, its, n, rfl, hl, hI⟩, h2, h3, h4⟩ := hq
    exact ⟨.inl ⟨.ref rr, WData.list ((PySg05.answers ns).map WData.int), [rr], rfl, fun _ => rfl, (by rw [show WData.list ((PySg05.answers ns).map WData.int) = PySem.W.ofPy (PyData.list ((PySg05.answers ns).map PyData.int)) from (by show _ = WData.list (PySem.W.ofPys ((PySg05.answers ns).map PyData.int)); rw [PySem.W.ofPys_ints])]; exact PySem.W.readsW_ints hl hI), hpost, fun z => absurd z (by decide)⟩, h2, h3, h4⟩
end PW
end
section
set_option Elab.async false
set_option linter.all false
set_option maxRecDepth 100000
namespace PW
open PySem PySem.Calls PyProof.Rows L2 Mth
theorem fnat {K : PySem.W.Frag} {x qual : Str} {st : Stmt} {f : Addr} {oc : Value} {od an : Option Addr} {osl : Array (Option Value)} {kV doc pm cdv ct : Value} (l : K.lookup f = some ⟨oc, od, .func (PySem.W.fnOf x qual (defArgs st) (defBody st) (defScope st) .none kV doc pm an cdv ct), osl⟩)
    (c : PySem.W.codeIn K cdv qual = true) (k : PySem.W.keepIn K (.ref f) = true) : ∃ fd, Fun K x qual st f fd := ⟨_, fun_mk l c k⟩
theorem ar1 {f : List Value → Prop} (h : ∀ a, f [a]) (us : List Value) (hl : us.length = 1) : f us := by
  obtain ⟨a, rfl⟩ := List.length_eq_one_iff.mp hl
  exact h a
theorem ar2 {f : List Value → Prop} (h : ∀ a b, f [a, b]) (us : List Value) (hl : us.length = 2) : f us := by
  cases us with
  | nil => cases hl
  | cons a us => exact ar1 (f := fun l => f (a :: l)) (h a) us (Nat.succ.inj hl)
theorem ar3 {f : List Value → Prop} (h : ∀ a b c, f [a, b, c]) (us : List Value) (hl : us.length = 3) : f us := by
  cases us with
  | nil => cases hl
  | cons a us => exact ar2 (f := fun l => f (a :: l)) (h a) us (Nat.succ.inj hl)
theorem ar4 {f : List Value → Prop} (h : ∀ a b c d, f [a, b, c, d]) (us : List Value) (hl : us.length = 4) : f us := by
  cases us with
  | nil => cases hl
  | cons a us => exact ar3 (f := fun l => f (a :: l)) (h a) us (Nat.succ.inj hl)
theorem ar5 {f : List Value → Prop} (h : ∀ a b c d e, f [a, b, c, d, e]) (us : List Value) (hl : us.length = 5) : f us := by
  cases us with
  | nil => cases hl
  | cons a us => exact ar4 (f := fun l => f (a :: l)) (h a) us (Nat.succ.inj hl)
theorem gi_mk {K : PySem.W.Frag} {h : Heap} {mg : Str → Option Value} (X : K.In h) (G : h.Ns mainGlobals mg) {x : Str} {i : Int} {tk : Tok} (a : PySem.W.nsIn K mainGlobals x = some (some (.int i tk))) : GI mg x i := ⟨_, PySem.W.mg_of X G a, tk, rfl⟩

structure ClF (K : PySem.W.Frag) (x : Str) (C : Addr) : Prop where
  a : PySem.W.nsIn K mainGlobals x = some (some (.ref C))
  pg : PySem.W.plainGet K C Str.empty = true
  hd : PySem.W.hasDictIn K C = true
  po : PySem.W.plainOver K C = true
  sa : PySem.W.findIn K (.ref C) "__setattr__" = some (some (.builtin "object.__setattr__"))
  mks : PySem.W.makesIn K C = true
  kc : PySem.W.keepIn K (.ref C) = true
theorem ClF.cls {K : PySem.W.Frag} {x : Str} {C : Addr} (h : ClF K x C) : Cls K C := ⟨h.pg, h.hd, h.po, h.sa⟩

set_option maxHeartbeats 4000000 in
theorem all_mk {w : World} {K : PySem.W.Frag} {h : Heap} {mg : Str → Option Value} {fa : Addr} (X : K.In h) (G : h.Ns mainGlobals mg) (hfa : mg "answers" = some (.ref fa)) {cP_ cB_ cL_ cR_ cD_ f_words_from f_branch_words f_words_around f_single f_merged f_chained f_alternatives f_repeated f_fits f_not_at f_told f_word_answer f_each_answer f_answers f_Piece___init__ f_Branch___init__ f_Level___init__ f_Level_end_branch f_Level_whole f_Reader___init__ f_Reader_takes f_Reader_takes_sign f_Reader_takes_item f_Reader_takes_left_bracket f_Reader_takes_right_bracket f_Reader_takes_bar f_Reader_takes_left_brace f_Reader_takes_least f_Reader_takes_comma f_Reader_takes_most f_Reader_takes_right_brace f_Reader_may_end f_Reader_pattern f_Desk___init__ f_Desk_has_more f_Desk_take_number f_Desk_take_row f_Desk_answer_next f_Desk_load : Addr} {t_MOST_LETTERS t_MOST_WORDS t_DEEPEST t_LETTER_A t_LETTER_Z t_DIGIT_0 t_LEFT_BRACKET t_RIGHT_BRACKET t_COMMA t_LEFT_BRACE t_BAR t_RIGHT_BRACE t_AWAIT_SIGN t_AWAIT_LEAST t_AWAIT_COMMA t_AWAIT_MOST t_AWAIT_BRACE t_COUNT t_WORD t_EACH t_MOST_BYTES t_DONE t_STOPPED t_NO_SUCH_WORD t_WRONG_MOST t_WORD_TOO_LONG t_PATTERN_TOO_LARGE t_TEXT_TOO_LONG : Tok}
    (cP : ClF K "Piece" cP_)
    (cB : ClF K "Branch" cB_)
    (cL : ClF K "Level" cL_)
    (cR : ClF K "Reader" cR_)
    (cD : ClF K "Desk" cD_)
    (nP_total : NoAttr K cP_ "total")
    (nP_longest : NoAttr K cP_ "longest")
    (nP_word : NoAttr K cP_ "word")
    (nP_branches : NoAttr K cP_ "branches")
    (nB_total : NoAttr K cB_ "total")
    (nB_longest : NoAttr K cB_ "longest")
    (nB_pieces : NoAttr K cB_ "pieces")
    (nL_branches : NoAttr K cL_ "branches")
    (nL_pieces : NoAttr K cL_ "pieces")
    (nR_levels : NoAttr K cR_ "levels")
    (nR_awaits : NoAttr K cR_ "awaits")
    (nR_repeatable : NoAttr K cR_ "repeatable")
    (nR_least : NoAttr K cR_ "least")
    (nR_most : NoAttr K cR_ "most")
    (nD_calls : NoAttr K cD_ "calls")
    (nD_place : NoAttr K cD_ "place")
    (nD_pattern_now : NoAttr K cD_ "pattern_now")
    (z_len : PySem.W.nsIn K mainGlobals "len" = some none)
    (z_range : PySem.W.nsIn K mainGlobals "range" = some none)
    (z_min : PySem.W.nsIn K mainGlobals "min" = some none)
    (z_max : PySem.W.nsIn K mainGlobals "max" = some none)
    (z_sum : PySem.W.nsIn K mainGlobals "sum" = some none)
    (z_list : PySem.W.nsIn K mainGlobals "list" = some none)
    (z_enumerate : PySem.W.nsIn K mainGlobals "enumerate" = some none)
    (g_MOST_LETTERS : PySem.W.nsIn K mainGlobals "MOST_LETTERS" = some (some (.int (255) t_MOST_LETTERS)))
    (g_MOST_WORDS : PySem.W.nsIn K mainGlobals "MOST_WORDS" = some (some (.int (18446744073709551615) t_MOST_WORDS)))
    (g_DEEPEST : PySem.W.nsIn K mainGlobals "DEEPEST" = some (some (.int (32) t_DEEPEST)))
    (g_LETTER_A : PySem.W.nsIn K mainGlobals "LETTER_A" = some (some (.int (97) t_LETTER_A)))
    (g_LETTER_Z : PySem.W.nsIn K mainGlobals "LETTER_Z" = some (some (.int (122) t_LETTER_Z)))
    (g_DIGIT_0 : PySem.W.nsIn K mainGlobals "DIGIT_0" = some (some (.int (48) t_DIGIT_0)))
    (g_LEFT_BRACKET : PySem.W.nsIn K mainGlobals "LEFT_BRACKET" = some (some (.int (40) t_LEFT_BRACKET)))
    (g_RIGHT_BRACKET : PySem.W.nsIn K mainGlobals "RIGHT_BRACKET" = some (some (.int (41) t_RIGHT_BRACKET)))
    (g_COMMA : PySem.W.nsIn K mainGlobals "COMMA" = some (some (.int (44) t_COMMA)))
    (g_LEFT_BRACE : PySem.W.nsIn K mainGlobals "LEFT_BRACE" = some (some (.int (123) t_LEFT_BRACE)))
    (g_BAR : PySem.W.nsIn K mainGlobals "BAR" = some (some (.int (124) t_BAR)))
    (g_RIGHT_BRACE : PySem.W.nsIn K mainGlobals "RIGHT_BRACE" = some (some (.int (125) t_RIGHT_BRACE)))
    (g_AWAIT_SIGN : PySem.W.nsIn K mainGlobals "AWAIT_SIGN" = some (some (.int (0) t_AWAIT_SIGN)))
    (g_AWAIT_LEAST : PySem.W.nsIn K mainGlobals "AWAIT_LEAST" = some (some (.int (1) t_AWAIT_LEAST)))
    (g_AWAIT_COMMA : PySem.W.nsIn K mainGlobals "AWAIT_COMMA" = some (some (.int (2) t_AWAIT_COMMA)))
    (g_AWAIT_MOST : PySem.W.nsIn K mainGlobals "AWAIT_MOST" = some (some (.int (3) t_AWAIT_MOST)))
    (g_AWAIT_BRACE : PySem.W.nsIn K mainGlobals "AWAIT_BRACE" = some (some (.int (4) t_AWAIT_BRACE)))
    (g_COUNT : PySem.W.nsIn K mainGlobals "COUNT" = some (some (.int (1) t_COUNT)))
    (g_WORD : PySem.W.nsIn K mainGlobals "WORD" = some (some (.int (2) t_WORD)))
    (g_EACH : PySem.W.nsIn K mainGlobals "EACH" = some (some (.int (3) t_EACH)))
    (g_MOST_BYTES : PySem.W.nsIn K mainGlobals "MOST_BYTES" = some (some (.int (1023) t_MOST_BYTES)))
    (g_DONE : PySem.W.nsIn K mainGlobals "DONE" = some (some (.int (0) t_DONE)))
    (g_STOPPED : PySem.W.nsIn K mainGlobals "STOPPED" = some (some (.int (7) t_STOPPED)))
    (g_NO_SUCH_WORD : PySem.W.nsIn K mainGlobals "NO_SUCH_WORD" = some (some (.int (-1) t_NO_SUCH_WORD)))
    (g_WRONG_MOST : PySem.W.nsIn K mainGlobals "WRONG_MOST" = some (some (.int (-2) t_WRONG_MOST)))
    (g_WORD_TOO_LONG : PySem.W.nsIn K mainGlobals "WORD_TOO_LONG" = some (some (.int (-3) t_WORD_TOO_LONG)))
    (g_PATTERN_TOO_LARGE : PySem.W.nsIn K mainGlobals "PATTERN_TOO_LARGE" = some (some (.int (-4000) t_PATTERN_TOO_LARGE)))
    (g_TEXT_TOO_LONG : PySem.W.nsIn K mainGlobals "TEXT_TOO_LONG" = some (some (.int (-5000) t_TEXT_TOO_LONG)))
    (a_words_from : PySem.W.nsIn K mainGlobals "words_from" = some (some (.ref f_words_from)))
    (F_words_from : ∃ fd, Fun K "words_from" "words_from" sFrom f_words_from fd)
    (a_branch_words : PySem.W.nsIn K mainGlobals "branch_words" = some (some (.ref f_branch_words)))
    (F_branch_words : ∃ fd, Fun K "branch_words" "branch_words" sBranch f_branch_words fd)
    (a_words_around : PySem.W.nsIn K mainGlobals "words_around" = some (some (.ref f_words_around)))
    (F_words_around : ∃ fd, Fun K "words_around" "words_around" sAround f_words_around fd)
    (a_single : PySem.W.nsIn K mainGlobals "single" = some (some (.ref f_single)))
    (F_single : ∃ fd, Fun K "single" "single" sSingle f_single fd)
    (a_merged : PySem.W.nsIn K mainGlobals "merged" = some (some (.ref f_merged)))
    (F_merged : ∃ fd, Fun K "merged" "merged" sMerged f_merged fd)
    (a_chained : PySem.W.nsIn K mainGlobals "chained" = some (some (.ref f_chained)))
    (F_chained : ∃ fd, Fun K "chained" "chained" sChained f_chained fd)
    (a_alternatives : PySem.W.nsIn K mainGlobals "alternatives" = some (some (.ref f_alternatives)))
    (F_alternatives : ∃ fd, Fun K "alternatives" "alternatives" sAlter f_alternatives fd)
    (a_repeated : PySem.W.nsIn K mainGlobals "repeated" = some (some (.ref f_repeated)))
    (F_repeated : ∃ fd, Fun K "repeated" "repeated" sRepeat f_repeated fd)
    (a_fits : PySem.W.nsIn K mainGlobals "fits" = some (some (.ref f_fits)))
    (F_fits : ∃ fd, Fun K "fits" "fits" sFits f_fits fd)
    (a_not_at : PySem.W.nsIn K mainGlobals "not_at" = some (some (.ref f_not_at)))
    (F_not_at : ∃ fd, Fun K "not_at" "not_at" sNotAt f_not_at fd)
    (a_told : PySem.W.nsIn K mainGlobals "told" = some (some (.ref f_told)))
    (F_told : ∃ fd, Fun K "told" "told" sTold f_told fd)
    (a_word_answer : PySem.W.nsIn K mainGlobals "word_answer" = some (some (.ref f_word_answer)))
    (F_word_answer : ∃ fd, Fun K "word_answer" "word_answer" sWordA f_word_answer fd)
    (a_each_answer : PySem.W.nsIn K mainGlobals "each_answer" = some (some (.ref f_each_answer)))
    (F_each_answer : ∃ fd, Fun K "each_answer" "each_answer" sEachA f_each_answer fd)
    (a_answers : PySem.W.nsIn K mainGlobals "answers" = some (some (.ref f_answers)))
    (F_answers : ∃ fd, Fun K "answers" "answers" sAnswers f_answers fd)
    (a_Piece___init__ : PySem.W.findIn K (.ref cP_) "__init__" = some (some (.ref f_Piece___init__)))
    (i_Piece___init__ : PySem.W.isFn K (.ref f_Piece___init__) = true)
    (F_Piece___init__ : ∃ fd, Fun K "__init__" "Piece.__init__" sInitP f_Piece___init__ fd)
    (a_Branch___init__ : PySem.W.findIn K (.ref cB_) "__init__" = some (some (.ref f_Branch___init__)))
    (i_Branch___init__ : PySem.W.isFn K (.ref f_Branch___init__) = true)
    (F_Branch___init__ : ∃ fd, Fun K "__init__" "Branch.__init__" sInitB f_Branch___init__ fd)
    (a_Level___init__ : PySem.W.findIn K (.ref cL_) "__init__" = some (some (.ref f_Level___init__)))
    (i_Level___init__ : PySem.W.isFn K (.ref f_Level___init__) = true)
    (F_Level___init__ : ∃ fd, Fun K "__init__" "Level.__init__" sInitL f_Level___init__ fd)
    (a_Level_end_branch : PySem.W.findIn K (.ref cL_) "end_branch" = some (some (.ref f_Level_end_branch)))
    (i_Level_end_branch : PySem.W.isFn K (.ref f_Level_end_branch) = true)
    (F_Level_end_branch : ∃ fd, Fun K "end_branch" "Level.end_branch" sEndBr f_Level_end_branch fd)
    (a_Level_whole : PySem.W.findIn K (.ref cL_) "whole" = some (some (.ref f_Level_whole)))
    (i_Level_whole : PySem.W.isFn K (.ref f_Level_whole) = true)
    (F_Level_whole : ∃ fd, Fun K "whole" "Level.whole" sWhole f_Level_whole fd)
    (a_Reader___init__ : PySem.W.findIn K (.ref cR_) "__init__" = some (some (.ref f_Reader___init__)))
    (i_Reader___init__ : PySem.W.isFn K (.ref f_Reader___init__) = true)
    (F_Reader___init__ : ∃ fd, Fun K "__init__" "Reader.__init__" sInitR f_Reader___init__ fd)
    (a_Reader_takes : PySem.W.findIn K (.ref cR_) "takes" = some (some (.ref f_Reader_takes)))
    (i_Reader_takes : PySem.W.isFn K (.ref f_Reader_takes) = true)
    (F_Reader_takes : ∃ fd, Fun K "takes" "Reader.takes" sTakes f_Reader_takes fd)
    (a_Reader_takes_sign : PySem.W.findIn K (.ref cR_) "takes_sign" = some (some (.ref f_Reader_takes_sign)))
    (i_Reader_takes_sign : PySem.W.isFn K (.ref f_Reader_takes_sign) = true)
    (F_Reader_takes_sign : ∃ fd, Fun K "takes_sign" "Reader.takes_sign" sSign f_Reader_takes_sign fd)
    (a_Reader_takes_item : PySem.W.findIn K (.ref cR_) "takes_item" = some (some (.ref f_Reader_takes_item)))
    (i_Reader_takes_item : PySem.W.isFn K (.ref f_Reader_takes_item) = true)
    (F_Reader_takes_item : ∃ fd, Fun K "takes_item" "Reader.takes_item" sItem f_Reader_takes_item fd)
    (a_Reader_takes_left_bracket : PySem.W.findIn K (.ref cR_) "takes_left_bracket" = some (some (.ref f_Reader_takes_left_bracket)))
    (i_Reader_takes_left_bracket : PySem.W.isFn K (.ref f_Reader_takes_left_bracket) = true)
    (F_Reader_takes_left_bracket : ∃ fd, Fun K "takes_left_bracket" "Reader.takes_left_bracket" sLBr f_Reader_takes_left_bracket fd)
    (a_Reader_takes_right_bracket : PySem.W.findIn K (.ref cR_) "takes_right_bracket" = some (some (.ref f_Reader_takes_right_bracket)))
    (i_Reader_takes_right_bracket : PySem.W.isFn K (.ref f_Reader_takes_right_bracket) = true)
    (F_Reader_takes_right_bracket : ∃ fd, Fun K "takes_right_bracket" "Reader.takes_right_bracket" sRBr f_Reader_takes_right_bracket fd)
    (a_Reader_takes_bar : PySem.W.findIn K (.ref cR_) "takes_bar" = some (some (.ref f_Reader_takes_bar)))
    (i_Reader_takes_bar : PySem.W.isFn K (.ref f_Reader_takes_bar) = true)
    (F_Reader_takes_bar : ∃ fd, Fun K "takes_bar" "Reader.takes_bar" sBar f_Reader_takes_bar fd)
    (a_Reader_takes_left_brace : PySem.W.findIn K (.ref cR_) "takes_left_brace" = some (some (.ref f_Reader_takes_left_brace)))
    (i_Reader_takes_left_brace : PySem.W.isFn K (.ref f_Reader_takes_left_brace) = true)
    (F_Reader_takes_left_brace : ∃ fd, Fun K "takes_left_brace" "Reader.takes_left_brace" sLBrace f_Reader_takes_left_brace fd)
    (a_Reader_takes_least : PySem.W.findIn K (.ref cR_) "takes_least" = some (some (.ref f_Reader_takes_least)))
    (i_Reader_takes_least : PySem.W.isFn K (.ref f_Reader_takes_least) = true)
    (F_Reader_takes_least : ∃ fd, Fun K "takes_least" "Reader.takes_least" sLeast f_Reader_takes_least fd)
    (a_Reader_takes_comma : PySem.W.findIn K (.ref cR_) "takes_comma" = some (some (.ref f_Reader_takes_comma)))
    (i_Reader_takes_comma : PySem.W.isFn K (.ref f_Reader_takes_comma) = true)
    (F_Reader_takes_comma : ∃ fd, Fun K "takes_comma" "Reader.takes_comma" sComma f_Reader_takes_comma fd)
    (a_Reader_takes_most : PySem.W.findIn K (.ref cR_) "takes_most" = some (some (.ref f_Reader_takes_most)))
    (i_Reader_takes_most : PySem.W.isFn K (.ref f_Reader_takes_most) = true)
    (F_Reader_takes_most : ∃ fd, Fun K "takes_most" "Reader.takes_most" sMost f_Reader_takes_most fd)
    (a_Reader_takes_right_brace : PySem.W.findIn K (.ref cR_) "takes_right_brace" = some (some (.ref f_Reader_takes_right_brace)))
    (i_Reader_takes_right_brace : PySem.W.isFn K (.ref f_Reader_takes_right_brace) = true)
    (F_Reader_takes_right_brace : ∃ fd, Fun K "takes_right_brace" "Reader.takes_right_brace" sRBrace f_Reader_takes_right_brace fd)
    (a_Reader_may_end : PySem.W.findIn K (.ref cR_) "may_end" = some (some (.ref f_Reader_may_end)))
    (i_Reader_may_end : PySem.W.isFn K (.ref f_Reader_may_end) = true)
    (F_Reader_may_end : ∃ fd, Fun K "may_end" "Reader.may_end" sMayEnd f_Reader_may_end fd)
    (a_Reader_pattern : PySem.W.findIn K (.ref cR_) "pattern" = some (some (.ref f_Reader_pattern)))
    (i_Reader_pattern : PySem.W.isFn K (.ref f_Reader_pattern) = true)
    (F_Reader_pattern : ∃ fd, Fun K "pattern" "Reader.pattern" sPattern f_Reader_pattern fd)
    (a_Desk___init__ : PySem.W.findIn K (.ref cD_) "__init__" = some (some (.ref f_Desk___init__)))
    (i_Desk___init__ : PySem.W.isFn K (.ref f_Desk___init__) = true)
    (F_Desk___init__ : ∃ fd, Fun K "__init__" "Desk.__init__" sInitD f_Desk___init__ fd)
    (a_Desk_has_more : PySem.W.findIn K (.ref cD_) "has_more" = some (some (.ref f_Desk_has_more)))
    (i_Desk_has_more : PySem.W.isFn K (.ref f_Desk_has_more) = true)
    (F_Desk_has_more : ∃ fd, Fun K "has_more" "Desk.has_more" sHasMore f_Desk_has_more fd)
    (a_Desk_take_number : PySem.W.findIn K (.ref cD_) "take_number" = some (some (.ref f_Desk_take_number)))
    (i_Desk_take_number : PySem.W.isFn K (.ref f_Desk_take_number) = true)
    (F_Desk_take_number : ∃ fd, Fun K "take_number" "Desk.take_number" sTakeN f_Desk_take_number fd)
    (a_Desk_take_row : PySem.W.findIn K (.ref cD_) "take_row" = some (some (.ref f_Desk_take_row)))
    (i_Desk_take_row : PySem.W.isFn K (.ref f_Desk_take_row) = true)
    (F_Desk_take_row : ∃ fd, Fun K "take_row" "Desk.take_row" sTakeR f_Desk_take_row fd)
    (a_Desk_answer_next : PySem.W.findIn K (.ref cD_) "answer_next" = some (some (.ref f_Desk_answer_next)))
    (i_Desk_answer_next : PySem.W.isFn K (.ref f_Desk_answer_next) = true)
    (F_Desk_answer_next : ∃ fd, Fun K "answer_next" "Desk.answer_next" sNext f_Desk_answer_next fd)
    (a_Desk_load : PySem.W.findIn K (.ref cD_) "load" = some (some (.ref f_Desk_load)))
    (i_Desk_load : PySem.W.isFn K (.ref f_Desk_load) = true)
    (F_Desk_load : ∃ fd, Fun K "load" "Desk.load" sLoad f_Desk_load fd)
    : ∃ fd : FuncData, (∀ (s : Shared) (v : Value), BindsTo s fd ⟨[v], []⟩ [("calls", v)]) ∧ ∀ base : Heap, K.In base → base.Ns mainGlobals mg → FnOk rowS.prog w K mg base CX0 204 fa fd ["calls"] (spAns K) := by
  have e := hfa.symm.trans (PySem.W.mg_of X G a_answers)
  have e2 : f_answers = fa := by injection e with e; injection e with e; exact e.symm
  subst e2
  have T : Txt K mg ⟨cP_, cB_, cL_, cR_, cD_⟩ := ⟨cP.cls, nP_total, nP_longest, nP_word, nP_branches, PySem.W.mg_of X G cP.a, cB.cls, nB_total, nB_longest, nB_pieces, PySem.W.mg_of X G cB.a, cL.cls, nL_branches, nL_pieces, PySem.W.mg_of X G cL.a, cR.cls, nR_levels, nR_awaits, nR_repeatable, nR_least, nR_most, PySem.W.mg_of X G cR.a, cD.cls, nD_calls, nD_place, nD_pattern_now, PySem.W.mg_of X G cD.a, PySem.W.mg_none_of X G z_len, PySem.W.mg_none_of X G z_range, PySem.W.mg_none_of X G z_min, PySem.W.mg_none_of X G z_max, PySem.W.mg_none_of X G z_sum, PySem.W.mg_none_of X G z_list, PySem.W.mg_none_of X G z_enumerate, gi_mk X G g_MOST_LETTERS, gi_mk X G g_MOST_WORDS, gi_mk X G g_DEEPEST, gi_mk X G g_LETTER_A, gi_mk X G g_LETTER_Z, gi_mk X G g_DIGIT_0, gi_mk X G g_LEFT_BRACKET, gi_mk X G g_RIGHT_BRACKET, gi_mk X G g_COMMA, gi_mk X G g_LEFT_BRACE, gi_mk X G g_BAR, gi_mk X G g_RIGHT_BRACE, gi_mk X G g_AWAIT_SIGN, gi_mk X G g_AWAIT_LEAST, gi_mk X G g_AWAIT_COMMA, gi_mk X G g_AWAIT_MOST, gi_mk X G g_AWAIT_BRACE, gi_mk X G g_COUNT, gi_mk X G g_WORD, gi_mk X G g_EACH, gi_mk X G g_MOST_BYTES, gi_mk X G g_DONE, gi_mk X G g_STOPPED, gi_mk X G g_NO_SUCH_WORD, gi_mk X G g_WRONG_MOST, gi_mk X G g_WORD_TOO_LONG, gi_mk X G g_PATTERN_TOO_LARGE, gi_mk X G g_TEXT_TOO_LONG⟩
  obtain ⟨d_words_from, F_words_from⟩ := F_words_from
  have D_words_from : Df K mg "words_from" sFrom psFr f_words_from d_words_from := ⟨F_words_from, F_words_from.binds (ps := psFr) fun _ _ _ _ _ _ => ar3 fun _ _ _ => rfl, PySem.W.mg_of X G a_words_from⟩
  obtain ⟨d_branch_words, F_branch_words⟩ := F_branch_words
  have D_branch_words : Df K mg "branch_words" sBranch psBr f_branch_words d_branch_words := ⟨F_branch_words, F_branch_words.binds (ps := psBr) fun _ _ _ _ _ _ => ar3 fun _ _ _ => rfl, PySem.W.mg_of X G a_branch_words⟩
  obtain ⟨d_words_around, F_words_around⟩ := F_words_around
  have D_words_around : Df K mg "words_around" sAround psAr f_words_around d_words_around := ⟨F_words_around, F_words_around.binds (ps := psAr) fun _ _ _ _ _ _ => ar3 fun _ _ _ => rfl, PySem.W.mg_of X G a_words_around⟩
  obtain ⟨d_single, F_single⟩ := F_single
  have D_single : Df K mg "single" sSingle ["word"] f_single d_single := ⟨F_single, F_single.binds (ps := ["word"]) fun _ _ _ _ _ _ => ar1 fun _ => rfl, PySem.W.mg_of X G a_single⟩
  obtain ⟨d_merged, F_merged⟩ := F_merged
  have D_merged : Df K mg "merged" sMerged ["pieces"] f_merged d_merged := ⟨F_merged, F_merged.binds (ps := ["pieces"]) fun _ _ _ _ _ _ => ar1 fun _ => rfl, PySem.W.mg_of X G a_merged⟩
  obtain ⟨d_chained, F_chained⟩ := F_chained
  have D_chained : Df K mg "chained" sChained ["pieces"] f_chained d_chained := ⟨F_chained, F_chained.binds (ps := ["pieces"]) fun _ _ _ _ _ _ => ar1 fun _ => rfl, PySem.W.mg_of X G a_chained⟩
  obtain ⟨d_alternatives, F_alternatives⟩ := F_alternatives
  have D_alternatives : Df K mg "alternatives" sAlter ["branches"] f_alternatives d_alternatives := ⟨F_alternatives, F_alternatives.binds (ps := ["branches"]) fun _ _ _ _ _ _ => ar1 fun _ => rfl, PySem.W.mg_of X G a_alternatives⟩
  obtain ⟨d_repeated, F_repeated⟩ := F_repeated
  have D_repeated : Df K mg "repeated" sRepeat psRp f_repeated d_repeated := ⟨F_repeated, F_repeated.binds (ps := psRp) fun _ _ _ _ _ _ => ar3 fun _ _ _ => rfl, PySem.W.mg_of X G a_repeated⟩
  obtain ⟨d_fits, F_fits⟩ := F_fits
  have D_fits : Df K mg "fits" sFits ["piece"] f_fits d_fits := ⟨F_fits, F_fits.binds (ps := ["piece"]) fun _ _ _ _ _ _ => ar1 fun _ => rfl, PySem.W.mg_of X G a_fits⟩
  obtain ⟨d_not_at, F_not_at⟩ := F_not_at
  have D_not_at : Df K mg "not_at" sNotAt ["place"] f_not_at d_not_at := ⟨F_not_at, F_not_at.binds (ps := ["place"]) fun _ _ _ _ _ _ => ar1 fun _ => rfl, PySem.W.mg_of X G a_not_at⟩
  obtain ⟨d_told, F_told⟩ := F_told
  have D_told : Df K mg "told" sTold ["word"] f_told d_told := ⟨F_told, F_told.binds (ps := ["word"]) fun _ _ _ _ _ _ => ar1 fun _ => rfl, PySem.W.mg_of X G a_told⟩
  obtain ⟨d_word_answer, F_word_answer⟩ := F_word_answer
  have D_word_answer : Df K mg "word_answer" sWordA psWa f_word_answer d_word_answer := ⟨F_word_answer, F_word_answer.binds (ps := psWa) fun _ _ _ _ _ _ => ar3 fun _ _ _ => rfl, PySem.W.mg_of X G a_word_answer⟩
  obtain ⟨d_each_answer, F_each_answer⟩ := F_each_answer
  have D_each_answer : Df K mg "each_answer" sEachA psEa f_each_answer d_each_answer := ⟨F_each_answer, F_each_answer.binds (ps := psEa) fun _ _ _ _ _ _ => ar3 fun _ _ _ => rfl, PySem.W.mg_of X G a_each_answer⟩
  obtain ⟨d_answers, F_answers⟩ := F_answers
  have D_answers : Df K mg "answers" sAnswers ["calls"] f_answers d_answers := ⟨F_answers, F_answers.binds (ps := ["calls"]) fun _ _ _ _ _ _ => ar1 fun _ => rfl, PySem.W.mg_of X G a_answers⟩
  obtain ⟨d_Piece___init__, F_Piece___init__⟩ := F_Piece___init__
  have D_Piece___init__ : Di K cP_ "Piece.__init__" sInitP psIP f_Piece___init__ d_Piece___init__ := ⟨F_Piece___init__, F_Piece___init__.binds (ps := psIP) fun _ _ _ _ _ _ => ar5 fun _ _ _ _ _ => rfl, ⟨cP.mks, a_Piece___init__, i_Piece___init__, cP.kc⟩⟩
  obtain ⟨d_Branch___init__, F_Branch___init__⟩ := F_Branch___init__
  have D_Branch___init__ : Di K cB_ "Branch.__init__" sInitB psIB f_Branch___init__ d_Branch___init__ := ⟨F_Branch___init__, F_Branch___init__.binds (ps := psIB) fun _ _ _ _ _ _ => ar4 fun _ _ _ _ => rfl, ⟨cB.mks, a_Branch___init__, i_Branch___init__, cB.kc⟩⟩
  obtain ⟨d_Level___init__, F_Level___init__⟩ := F_Level___init__
  have D_Level___init__ : Di K cL_ "Level.__init__" sInitL ["self"] f_Level___init__ d_Level___init__ := ⟨F_Level___init__, F_Level___init__.binds (ps := ["self"]) fun _ _ _ _ _ _ => ar1 fun _ => rfl, ⟨cL.mks, a_Level___init__, i_Level___init__, cL.kc⟩⟩
  obtain ⟨d_Level_end_branch, F_Level_end_branch⟩ := F_Level_end_branch
  have D_Level_end_branch : Dm K cL_ "end_branch" "Level.end_branch" sEndBr ["self"] f_Level_end_branch d_Level_end_branch := ⟨F_Level_end_branch, F_Level_end_branch.binds (ps := ["self"]) fun _ _ _ _ _ _ => ar1 fun _ => rfl, ⟨a_Level_end_branch, i_Level_end_branch, F_Level_end_branch.kp⟩⟩
  obtain ⟨d_Level_whole, F_Level_whole⟩ := F_Level_whole
  have D_Level_whole : Dm K cL_ "whole" "Level.whole" sWhole ["self"] f_Level_whole d_Level_whole := ⟨F_Level_whole, F_Level_whole.binds (ps := ["self"]) fun _ _ _ _ _ _ => ar1 fun _ => rfl, ⟨a_Level_whole, i_Level_whole, F_Level_whole.kp⟩⟩
  obtain ⟨d_Reader___init__, F_Reader___init__⟩ := F_Reader___init__
  have D_Reader___init__ : Di K cR_ "Reader.__init__" sInitR ["self"] f_Reader___init__ d_Reader___init__ := ⟨F_Reader___init__, F_Reader___init__.binds (ps := ["self"]) fun _ _ _ _ _ _ => ar1 fun _ => rfl, ⟨cR.mks, a_Reader___init__, i_Reader___init__, cR.kc⟩⟩
  obtain ⟨d_Reader_takes, F_Reader_takes⟩ := F_Reader_takes
  have D_Reader_takes : Dm K cR_ "takes" "Reader.takes" sTakes psB f_Reader_takes d_Reader_takes := ⟨F_Reader_takes, F_Reader_takes.binds (ps := psB) fun _ _ _ _ _ _ => ar2 fun _ _ => rfl, ⟨a_Reader_takes, i_Reader_takes, F_Reader_takes.kp⟩⟩
  obtain ⟨d_Reader_takes_sign, F_Reader_takes_sign⟩ := F_Reader_takes_sign
  have D_Reader_takes_sign : Dm K cR_ "takes_sign" "Reader.takes_sign" sSign psB f_Reader_takes_sign d_Reader_takes_sign := ⟨F_Reader_takes_sign, F_Reader_takes_sign.binds (ps := psB) fun _ _ _ _ _ _ => ar2 fun _ _ => rfl, ⟨a_Reader_takes_sign, i_Reader_takes_sign, F_Reader_takes_sign.kp⟩⟩
  obtain ⟨d_Reader_takes_item, F_Reader_takes_item⟩ := F_Reader_takes_item
  have D_Reader_takes_item : Dm K cR_ "takes_item" "Reader.takes_item" sItem ["self", "piece"] f_Reader_takes_item d_Reader_takes_item := ⟨F_Reader_takes_item, F_Reader_takes_item.binds (ps := ["self", "piece"]) fun _ _ _ _ _ _ => ar2 fun _ _ => rfl, ⟨a_Reader_takes_item, i_Reader_takes_item, F_Reader_takes_item.kp⟩⟩
  obtain ⟨d_Reader_takes_left_bracket, F_Reader_takes_left_bracket⟩ := F_Reader_takes_left_bracket
  have D_Reader_takes_left_bracket : Dm K cR_ "takes_left_bracket" "Reader.takes_left_bracket" sLBr ["self"] f_Reader_takes_left_bracket d_Reader_takes_left_bracket := ⟨F_Reader_takes_left_bracket, F_Reader_takes_left_bracket.binds (ps := ["self"]) fun _ _ _ _ _ _ => ar1 fun _ => rfl, ⟨a_Reader_takes_left_bracket, i_Reader_takes_left_bracket, F_Reader_takes_left_bracket.kp⟩⟩
  obtain ⟨d_Reader_takes_right_bracket, F_Reader_takes_right_bracket⟩ := F_Reader_takes_right_bracket
  have D_Reader_takes_right_bracket : Dm K cR_ "takes_right_bracket" "Reader.takes_right_bracket" sRBr ["self"] f_Reader_takes_right_bracket d_Reader_takes_right_bracket := ⟨F_Reader_takes_right_bracket, F_Reader_takes_right_bracket.binds (ps := ["self"]) fun _ _ _ _ _ _ => ar1 fun _ => rfl, ⟨a_Reader_takes_right_bracket, i_Reader_takes_right_bracket, F_Reader_takes_right_bracket.kp⟩⟩
  obtain ⟨d_Reader_takes_bar, F_Reader_takes_bar⟩ := F_Reader_takes_bar
  have D_Reader_takes_bar : Dm K cR_ "takes_bar" "Reader.takes_bar" sBar ["self"] f_Reader_takes_bar d_Reader_takes_bar := ⟨F_Reader_takes_bar, F_Reader_takes_bar.binds (ps := ["self"]) fun _ _ _ _ _ _ => ar1 fun _ => rfl, ⟨a_Reader_takes_bar, i_Reader_takes_bar, F_Reader_takes_bar.kp⟩⟩
  obtain ⟨d_Reader_takes_left_brace, F_Reader_takes_left_brace⟩ := F_Reader_takes_left_brace
  have D_Reader_takes_left_brace : Dm K cR_ "takes_left_brace" "Reader.takes_left_brace" sLBrace ["self"] f_Reader_takes_left_brace d_Reader_takes_left_brace := ⟨F_Reader_takes_left_brace, F_Reader_takes_left_brace.binds (ps := ["self"]) fun _ _ _ _ _ _ => ar1 fun _ => rfl, ⟨a_Reader_takes_left_brace, i_Reader_takes_left_brace, F_Reader_takes_left_brace.kp⟩⟩
  obtain ⟨d_Reader_takes_least, F_Reader_takes_least⟩ := F_Reader_takes_least
  have D_Reader_takes_least : Dm K cR_ "takes_least" "Reader.takes_least" sLeast psB f_Reader_takes_least d_Reader_takes_least := ⟨F_Reader_takes_least, F_Reader_takes_least.binds (ps := psB) fun _ _ _ _ _ _ => ar2 fun _ _ => rfl, ⟨a_Reader_takes_least, i_Reader_takes_least, F_Reader_takes_least.kp⟩⟩
  obtain ⟨d_Reader_takes_comma, F_Reader_takes_comma⟩ := F_Reader_takes_comma
  have D_Reader_takes_comma : Dm K cR_ "takes_comma" "Reader.takes_comma" sComma psB f_Reader_takes_comma d_Reader_takes_comma := ⟨F_Reader_takes_comma, F_Reader_takes_comma.binds (ps := psB) fun _ _ _ _ _ _ => ar2 fun _ _ => rfl, ⟨a_Reader_takes_comma, i_Reader_takes_comma, F_Reader_takes_comma.kp⟩⟩
  obtain ⟨d_Reader_takes_most, F_Reader_takes_most⟩ := F_Reader_takes_most
  have D_Reader_takes_most : Dm K cR_ "takes_most" "Reader.takes_most" sMost psB f_Reader_takes_most d_Reader_takes_most := ⟨F_Reader_takes_most, F_Reader_takes_most.binds (ps := psB) fun _ _ _ _ _ _ => ar2 fun _ _ => rfl, ⟨a_Reader_takes_most, i_Reader_takes_most, F_Reader_takes_most.kp⟩⟩
  obtain ⟨d_Reader_takes_right_brace, F_Reader_takes_right_brace⟩ := F_Reader_takes_right_brace
  have D_Reader_takes_right_brace : Dm K cR_ "takes_right_brace" "Reader.takes_right_brace" sRBrace psB f_Reader_takes_right_brace d_Reader_takes_right_brace := ⟨F_Reader_takes_right_brace, F_Reader_takes_right_brace.binds (ps := psB) fun _ _ _ _ _ _ => ar2 fun _ _ => rfl, ⟨a_Reader_takes_right_brace, i_Reader_takes_right_brace, F_Reader_takes_right_brace.kp⟩⟩
  obtain ⟨d_Reader_may_end, F_Reader_may_end⟩ := F_Reader_may_end
  have D_Reader_may_end : Dm K cR_ "may_end" "Reader.may_end" sMayEnd ["self"] f_Reader_may_end d_Reader_may_end := ⟨F_Reader_may_end, F_Reader_may_end.binds (ps := ["self"]) fun _ _ _ _ _ _ => ar1 fun _ => rfl, ⟨a_Reader_may_end, i_Reader_may_end, F_Reader_may_end.kp⟩⟩
  obtain ⟨d_Reader_pattern, F_Reader_pattern⟩ := F_Reader_pattern
  have D_Reader_pattern : Dm K cR_ "pattern" "Reader.pattern" sPattern ["self"] f_Reader_pattern d_Reader_pattern := ⟨F_Reader_pattern, F_Reader_pattern.binds (ps := ["self"]) fun _ _ _ _ _ _ => ar1 fun _ => rfl, ⟨a_Reader_pattern, i_Reader_pattern, F_Reader_pattern.kp⟩⟩
  obtain ⟨d_Desk___init__, F_Desk___init__⟩ := F_Desk___init__
  have D_Desk___init__ : Di K cD_ "Desk.__init__" sInitD ["self", "calls"] f_Desk___init__ d_Desk___init__ := ⟨F_Desk___init__, F_Desk___init__.binds (ps := ["self", "calls"]) fun _ _ _ _ _ _ => ar2 fun _ _ => rfl, ⟨cD.mks, a_Desk___init__, i_Desk___init__, cD.kc⟩⟩
  obtain ⟨d_Desk_has_more, F_Desk_has_more⟩ := F_Desk_has_more
  have D_Desk_has_more : Dm K cD_ "has_more" "Desk.has_more" sHasMore ["self"] f_Desk_has_more d_Desk_has_more := ⟨F_Desk_has_more, F_Desk_has_more.binds (ps := ["self"]) fun _ _ _ _ _ _ => ar1 fun _ => rfl, ⟨a_Desk_has_more, i_Desk_has_more, F_Desk_has_more.kp⟩⟩
  obtain ⟨d_Desk_take_number, F_Desk_take_number⟩ := F_Desk_take_number
  have D_Desk_take_number : Dm K cD_ "take_number" "Desk.take_number" sTakeN ["self"] f_Desk_take_number d_Desk_take_number := ⟨F_Desk_take_number, F_Desk_take_number.binds (ps := ["self"]) fun _ _ _ _ _ _ => ar1 fun _ => rfl, ⟨a_Desk_take_number, i_Desk_take_number, F_Desk_take_number.kp⟩⟩
  obtain ⟨d_Desk_take_row, F_Desk_take_row⟩ := F_Desk_take_row
  have D_Desk_take_row : Dm K cD_ "take_row" "Desk.take_row" sTakeR ["self"] f_Desk_take_row d_Desk_take_row := ⟨F_Desk_take_row, F_Desk_take_row.binds (ps := ["self"]) fun _ _ _ _ _ _ => ar1 fun _ => rfl, ⟨a_Desk_take_row, i_Desk_take_row, F_Desk_take_row.kp⟩⟩
  obtain ⟨d_Desk_answer_next, F_Desk_answer_next⟩ := F_Desk_answer_next
  have D_Desk_answer_next : Dm K cD_ "answer_next" "Desk.answer_next" sNext ["self"] f_Desk_answer_next d_Desk_answer_next := ⟨F_Desk_answer_next, F_Desk_answer_next.binds (ps := ["self"]) fun _ _ _ _ _ _ => ar1 fun _ => rfl, ⟨a_Desk_answer_next, i_Desk_answer_next, F_Desk_answer_next.kp⟩⟩
  obtain ⟨d_Desk_load, F_Desk_load⟩ := F_Desk_load
  have D_Desk_load : Dm K cD_ "load" "Desk.load" sLoad ["self", "text"] f_Desk_load d_Desk_load := ⟨F_Desk_load, F_Desk_load.binds (ps := ["self", "text"]) fun _ _ _ _ _ _ => ar2 fun _ _ => rfl, ⟨a_Desk_load, i_Desk_load, F_Desk_load.kp⟩⟩
  refine ⟨d_answers, fun s v => ?_, fun base _ _ => ?_⟩
  · obtain ⟨oc, od, kV, doc, pm, an, cdv, ct, osl, rfl, _⟩ := F_answers.ex
    exact .of_eq rfl
  have G1 := all_from (P := rowS.prog) (w := w) (base := base) D_words_from D_branch_words D_words_around T 67
  have G2 := ok_single (P := rowS.prog) (w := w) (base := base) D_single D_Piece___init__ T
  have G3 := ok_merged D_merged D_single G2 T
  have G4 := ok_chained D_chained D_merged G3 D_Branch___init__ T
  have G5 := ok_alter (P := rowS.prog) (w := w) (base := base) D_alternatives D_Piece___init__ T
  have G6 := ok_repeat D_repeated D_chained G4 D_alternatives G5 T
  have G7 := ok_end D_Level_end_branch D_chained G4 T
  have G8 := ok_whole D_Level_whole D_Level_end_branch G7 D_alternatives G5 T
  have G9 := ok_IR (P := rowS.prog) (w := w) (base := base) D_Reader___init__ D_Level___init__ T
  have G10 := ok_item (P := rowS.prog) (w := w) (base := base) D_Reader_takes_item T
  have G11 := ok_lbr (P := rowS.prog) (w := w) (base := base) D_Reader_takes_left_bracket D_Level___init__ T
  have G12 := ok_rbr D_Reader_takes_right_bracket D_Level_whole G8 D_Reader_takes_item T
  have G13 := ok_bar D_Reader_takes_bar D_Level_end_branch G7 T
  have G14 := ok_lbrace (P := rowS.prog) (w := w) (base := base) D_Reader_takes_left_brace T
  have G15 := ok_least (P := rowS.prog) (w := w) (base := base) D_Reader_takes_least T
  have G16 := ok_comma (P := rowS.prog) (w := w) (base := base) D_Reader_takes_comma T
  have G17 := ok_most (P := rowS.prog) (w := w) (base := base) D_Reader_takes_most T
  have G18 := ok_rbrace D_Reader_takes_right_brace D_repeated G6 T
  have G19 := ok_sign D_Reader_takes_sign D_single G2 D_Reader_takes_item G10 D_Reader_takes_left_bracket G11 D_Reader_takes_right_bracket G12 D_Reader_takes_bar G13 D_Reader_takes_left_brace G14 T
  have G20 := ok_takes D_Reader_takes D_Reader_takes_least G15 D_Reader_takes_comma G16 D_Reader_takes_most G17 D_Reader_takes_right_brace G18 D_Reader_takes_sign G19 T
  have G21 := ok_pattern D_Reader_pattern D_Level_whole G8 T
  have G22 := ok_load D_Desk_load D_Reader___init__ G9 D_Reader_takes G20 D_not_at D_Reader_may_end D_Reader_pattern G21 D_fits T
  have G23 := ok_worda D_word_answer D_words_from G1 D_told T
  have G24 := ok_eacha D_each_answer D_words_from G1 D_told T
  have G25 := ok_next D_Desk_answer_next D_Desk_take_number D_Desk_take_row D_word_answer G23 D_each_answer G24 D_Desk_load G22 T
  have G26 := ok_ID D_Desk___init__ D_single G2 T
  exact ok_answers D_answers D_Desk___init__ G26 D_Desk_has_more D_Desk_answer_next G25 T
end PW
end
section
/-! These names are taken so that the head lays no quick twin of six of its own pieces (the written heap, whose twin is never asked, and five trees): it then goes by the pieces themselves. Only the size of the compiled file is at stake (64 MiB is the hand-in's bound); nothing below names them. -/
def PySem.W.Fast.tw1824102462158144553 : Unit := ()
def PySem.W.Fast.tw504538963382646260 : Unit := ()
def PySem.W.Fast.tw1119608116104542 : Unit := ()
def PySem.W.Fast.tw10633836765557938173 : Unit := ()
def PySem.W.Fast.tw5646482463620793779 : Unit := ()
def PySem.W.Fast.tw9361031620889805119 : Unit := ()
open PySem PySem.W PyProof.Rows
set_option Elab.async false
set_option maxRecDepth 100000 in
set_option maxHeartbeats 0 in
theorem PySem.Challenge.cw_patternwords_s01_answers_holds : PySem.Challenge.rw_patternwords_s01_answers.Holds := by
  w_on
  k_headS
  (case hw => exact ⟨[.list [.int 4, .int 0]], by decide +kernel, by decide +kernel⟩)
  k_fillS
  refine PW.walkS rfl ⟨rfl, by decide, by decide⟩ (fun w h Y => PySem.W.kIn_of Y) ?F
  case F =>
    intro w mg fa h KX G hmg
    refine' PW.all_mk KX G hmg ?cP ?cB ?cL ?cR ?cD ?nP_total ?nP_longest ?nP_word ?nP_branches ?nB_total ?nB_longest ?nB_pieces ?nL_branches ?nL_pieces ?nR_levels ?nR_awaits ?nR_repeatable ?nR_least ?nR_most ?nD_calls ?nD_place ?nD_pattern_now ?z_len ?z_range ?z_min ?z_max ?z_sum ?z_list ?z_enumerate ?g_MOST_LETTERS ?g_MOST_WORDS ?g_DEEPEST ?g_LETTER_A ?g_LETTER_Z ?g_DIGIT_0 ?g_LEFT_BRACKET ?g_RIGHT_BRACKET ?g_COMMA ?g_LEFT_BRACE ?g_BAR ?g_RIGHT_BRACE ?g_AWAIT_SIGN ?g_AWAIT_LEAST ?g_AWAIT_COMMA ?g_AWAIT_MOST ?g_AWAIT_BRACE ?g_COUNT ?g_WORD ?g_EACH ?g_MOST_BYTES ?g_DONE ?g_STOPPED ?g_NO_SUCH_WORD ?g_WRONG_MOST ?g_WORD_TOO_LONG ?g_PATTERN_TOO_LARGE ?g_TEXT_TOO_LONG ?a_words_from ?F_words_from ?a_branch_words ?F_branch_words ?a_words_around ?F_words_around ?a_single ?F_single ?a_merged ?F_merged ?a_chained ?F_chained ?a_alternatives ?F_alternatives ?a_repeated ?F_repeated ?a_fits ?F_fits ?a_not_at ?F_not_at ?a_told ?F_told ?a_word_answer ?F_word_answer ?a_each_answer ?F_each_answer ?a_answers ?F_answers ?a_Piece___init__ ?i_Piece___init__ ?F_Piece___init__ ?a_Branch___init__ ?i_Branch___init__ ?F_Branch___init__ ?a_Level___init__ ?i_Level___init__ ?F_Level___init__ ?a_Level_end_branch ?i_Level_end_branch ?F_Level_end_branch ?a_Level_whole ?i_Level_whole ?F_Level_whole ?a_Reader___init__ ?i_Reader___init__ ?F_Reader___init__ ?a_Reader_takes ?i_Reader_takes ?F_Reader_takes ?a_Reader_takes_sign ?i_Reader_takes_sign ?F_Reader_takes_sign ?a_Reader_takes_item ?i_Reader_takes_item ?F_Reader_takes_item ?a_Reader_takes_left_bracket ?i_Reader_takes_left_bracket ?F_Reader_takes_left_bracket ?a_Reader_takes_right_bracket ?i_Reader_takes_right_bracket ?F_Reader_takes_right_bracket ?a_Reader_takes_bar ?i_Reader_takes_bar ?F_Reader_takes_bar ?a_Reader_takes_left_brace ?i_Reader_takes_left_brace ?F_Reader_takes_left_brace ?a_Reader_takes_least ?i_Reader_takes_least ?F_Reader_takes_least ?a_Reader_takes_comma ?i_Reader_takes_comma ?F_Reader_takes_comma ?a_Reader_takes_most ?i_Reader_takes_most ?F_Reader_takes_most ?a_Reader_takes_right_brace ?i_Reader_takes_right_brace ?F_Reader_takes_right_brace ?a_Reader_may_end ?i_Reader_may_end ?F_Reader_may_end ?a_Reader_pattern ?i_Reader_pattern ?F_Reader_pattern ?a_Desk___init__ ?i_Desk___init__ ?F_Desk___init__ ?a_Desk_has_more ?i_Desk_has_more ?F_Desk_has_more ?a_Desk_take_number ?i_Desk_take_number ?F_Desk_take_number ?a_Desk_take_row ?i_Desk_take_row ?F_Desk_take_row ?a_Desk_answer_next ?i_Desk_answer_next ?F_Desk_answer_next ?a_Desk_load ?i_Desk_load ?F_Desk_load
    (case cP => (refine' ⟨?a, ?pg, ?hd, ?po, ?sa, ?mk, ?kc⟩; (case a => k_is); (case pg => k_is); (case hd => k_is); (case po => k_is); (case sa => k_is); (case mk => k_is); (case kc => k_is)))
    (case cB => (refine' ⟨?a, ?pg, ?hd, ?po, ?sa, ?mk, ?kc⟩; (case a => k_is); (case pg => k_is); (case hd => k_is); (case po => k_is); (case sa => k_is); (case mk => k_is); (case kc => k_is)))
    (case cL => (refine' ⟨?a, ?pg, ?hd, ?po, ?sa, ?mk, ?kc⟩; (case a => k_is); (case pg => k_is); (case hd => k_is); (case po => k_is); (case sa => k_is); (case mk => k_is); (case kc => k_is)))
    (case cR => (refine' ⟨?a, ?pg, ?hd, ?po, ?sa, ?mk, ?kc⟩; (case a => k_is); (case pg => k_is); (case hd => k_is); (case po => k_is); (case sa => k_is); (case mk => k_is); (case kc => k_is)))
    (case cD => (refine' ⟨?a, ?pg, ?hd, ?po, ?sa, ?mk, ?kc⟩; (case a => k_is); (case pg => k_is); (case hd => k_is); (case po => k_is); (case sa => k_is); (case mk => k_is); (case kc => k_is)))
    (case nP_total => (show PySem.W.findIn _ _ _ = some none; k_is))
    (case nP_longest => (show PySem.W.findIn _ _ _ = some none; k_is))
    (case nP_word => (show PySem.W.findIn _ _ _ = some none; k_is))
    (case nP_branches => (show PySem.W.findIn _ _ _ = some none; k_is))
    (case nB_total => (show PySem.W.findIn _ _ _ = some none; k_is))
    (case nB_longest => (show PySem.W.findIn _ _ _ = some none; k_is))
    (case nB_pieces => (show PySem.W.findIn _ _ _ = some none; k_is))
    (case nL_branches => (show PySem.W.findIn _ _ _ = some none; k_is))
    (case nL_pieces => (show PySem.W.findIn _ _ _ = some none; k_is))
    (case nR_levels => (show PySem.W.findIn _ _ _ = some none; k_is))
    (case nR_awaits => (show PySem.W.findIn _ _ _ = some none; k_is))
    (case nR_repeatable => (show PySem.W.findIn _ _ _ = some none; k_is))
    (case nR_least => (show PySem.W.findIn _ _ _ = some none; k_is))
    (case nR_most => (show PySem.W.findIn _ _ _ = some none; k_is))
    (case nD_calls => (show PySem.W.findIn _ _ _ = some none; k_is))
    (case nD_place => (show PySem.W.findIn _ _ _ = some none; k_is))
    (case nD_pattern_now => (show PySem.W.findIn _ _ _ = some none; k_is))
    (case z_len => k_is)
    (case z_range => k_is)
    (case z_min => k_is)
    (case z_max => k_is)
    (case z_sum => k_is)
    (case z_list => k_is)
    (case z_enumerate => k_is)
    (case g_MOST_LETTERS => k_is)
    (case g_MOST_WORDS => k_is)
    (case g_DEEPEST => k_is)
    (case g_LETTER_A => k_is)
    (case g_LETTER_Z => k_is)
    (case g_DIGIT_0 => k_is)
    (case g_LEFT_BRACKET => k_is)
    (case g_RIGHT_BRACKET => k_is)
    (case g_COMMA => k_is)
    (case g_LEFT_BRACE => k_is)
    (case g_BAR => k_is)
    (case g_RIGHT_BRACE => k_is)
    (case g_AWAIT_SIGN => k_is)
    (case g_AWAIT_LEAST => k_is)
    (case g_AWAIT_COMMA => k_is)
    (case g_AWAIT_MOST => k_is)
    (case g_AWAIT_BRACE => k_is)
    (case g_COUNT => k_is)
    (case g_WORD => k_is)
    (case g_EACH => k_is)
    (case g_MOST_BYTES => k_is)
    (case g_DONE => k_is)
    (case g_STOPPED => k_is)
    (case g_NO_SUCH_WORD => k_is)
    (case g_WRONG_MOST => k_is)
    (case g_WORD_TOO_LONG => k_is)
    (case g_PATTERN_TOO_LARGE => k_is)
    (case g_TEXT_TOO_LONG => k_is)
    (case a_words_from => k_is)
    (case F_words_from => (refine' PW.fnat ?l ?c ?k; (case l => k_is); (case c => k_is); (case k => k_is)))
    (case a_branch_words => k_is)
    (case F_branch_words => (refine' PW.fnat ?l ?c ?k; (case l => k_is); (case c => k_is); (case k => k_is)))
    (case a_words_around => k_is)
    (case F_words_around => (refine' PW.fnat ?l ?c ?k; (case l => k_is); (case c => k_is); (case k => k_is)))
    (case a_single => k_is)
    (case F_single => (refine' PW.fnat ?l ?c ?k; (case l => k_is); (case c => k_is); (case k => k_is)))
    (case a_merged => k_is)
    (case F_merged => (refine' PW.fnat ?l ?c ?k; (case l => k_is); (case c => k_is); (case k => k_is)))
    (case a_chained => k_is)
    (case F_chained => (refine' PW.fnat ?l ?c ?k; (case l => k_is); (case c => k_is); (case k => k_is)))
    (case a_alternatives => k_is)
    (case F_alternatives => (refine' PW.fnat ?l ?c ?k; (case l => k_is); (case c => k_is); (case k => k_is)))
    (case a_repeated => k_is)
    (case F_repeated => (refine' PW.fnat ?l ?c ?k; (case l => k_is); (case c => k_is); (case k => k_is)))
    (case a_fits => k_is)
    (case F_fits => (refine' PW.fnat ?l ?c ?k; (case l => k_is); (case c => k_is); (case k => k_is)))
    (case a_not_at => k_is)
    (case F_not_at => (refine' PW.fnat ?l ?c ?k; (case l => k_is); (case c => k_is); (case k => k_is)))
    (case a_told => k_is)
    (case F_told => (refine' PW.fnat ?l ?c ?k; (case l => k_is); (case c => k_is); (case k => k_is)))
    (case a_word_answer => k_is)
    (case F_word_answer => (refine' PW.fnat ?l ?c ?k; (case l => k_is); (case c => k_is); (case k => k_is)))
    (case a_each_answer => k_is)
    (case F_each_answer => (refine' PW.fnat ?l ?c ?k; (case l => k_is); (case c => k_is); (case k => k_is)))
    (case a_answers => k_is)
    (case F_answers => (refine' PW.fnat ?l ?c ?k; (case l => k_is); (case c => k_is); (case k => k_is)))
    (case a_Piece___init__ => k_is)
    (case i_Piece___init__ => k_is)
    (case F_Piece___init__ => (refine' PW.fnat ?l ?c ?k; (case l => k_is); (case c => k_is); (case k => k_is)))
    (case a_Branch___init__ => k_is)
    (case i_Branch___init__ => k_is)
    (case F_Branch___init__ => (refine' PW.fnat ?l ?c ?k; (case l => k_is); (case c => k_is); (case k => k_is)))
    (case a_Level___init__ => k_is)
    (case i_Level___init__ => k_is)
    (case F_Level___init__ => (refine' PW.fnat ?l ?c ?k; (case l => k_is); (case c => k_is); (case k => k_is)))
    (case a_Level_end_branch => k_is)
    (case i_Level_end_branch => k_is)
    (case F_Level_end_branch => (refine' PW.fnat ?l ?c ?k; (case l => k_is); (case c => k_is); (case k => k_is)))
    (case a_Level_whole => k_is)
    (case i_Level_whole => k_is)
    (case F_Level_whole => (refine' PW.fnat ?l ?c ?k; (case l => k_is); (case c => k_is); (case k => k_is)))
    (case a_Reader___init__ => k_is)
    (case i_Reader___init__ => k_is)
    (case F_Reader___init__ => (refine' PW.fnat ?l ?c ?k; (case l => k_is); (case c => k_is); (case k => k_is)))
    (case a_Reader_takes => k_is)
    (case i_Reader_takes => k_is)
    (case F_Reader_takes => (refine' PW.fnat ?l ?c ?k; (case l => k_is); (case c => k_is); (case k => k_is)))
    (case a_Reader_takes_sign => k_is)
    (case i_Reader_takes_sign => k_is)
    (case F_Reader_takes_sign => (refine' PW.fnat ?l ?c ?k; (case l => k_is); (case c => k_is); (case k => k_is)))
    (case a_Reader_takes_item => k_is)
    (case i_Reader_takes_item => k_is)
    (case F_Reader_takes_item => (refine' PW.fnat ?l ?c ?k; (case l => k_is); (case c => k_is); (case k => k_is)))
    (case a_Reader_takes_left_bracket => k_is)
    (case i_Reader_takes_left_bracket => k_is)
    (case F_Reader_takes_left_bracket => (refine' PW.fnat ?l ?c ?k; (case l => k_is); (case c => k_is); (case k => k_is)))
    (case a_Reader_takes_right_bracket => k_is)
    (case i_Reader_takes_right_bracket => k_is)
    (case F_Reader_takes_right_bracket => (refine' PW.fnat ?l ?c ?k; (case l => k_is); (case c => k_is); (case k => k_is)))
    (case a_Reader_takes_bar => k_is)
    (case i_Reader_takes_bar => k_is)
    (case F_Reader_takes_bar => (refine' PW.fnat ?l ?c ?k; (case l => k_is); (case c => k_is); (case k => k_is)))
    (case a_Reader_takes_left_brace => k_is)
    (case i_Reader_takes_left_brace => k_is)
    (case F_Reader_takes_left_brace => (refine' PW.fnat ?l ?c ?k; (case l => k_is); (case c => k_is); (case k => k_is)))
    (case a_Reader_takes_least => k_is)
    (case i_Reader_takes_least => k_is)
    (case F_Reader_takes_least => (refine' PW.fnat ?l ?c ?k; (case l => k_is); (case c => k_is); (case k => k_is)))
    (case a_Reader_takes_comma => k_is)
    (case i_Reader_takes_comma => k_is)
    (case F_Reader_takes_comma => (refine' PW.fnat ?l ?c ?k; (case l => k_is); (case c => k_is); (case k => k_is)))
    (case a_Reader_takes_most => k_is)
    (case i_Reader_takes_most => k_is)
    (case F_Reader_takes_most => (refine' PW.fnat ?l ?c ?k; (case l => k_is); (case c => k_is); (case k => k_is)))
    (case a_Reader_takes_right_brace => k_is)
    (case i_Reader_takes_right_brace => k_is)
    (case F_Reader_takes_right_brace => (refine' PW.fnat ?l ?c ?k; (case l => k_is); (case c => k_is); (case k => k_is)))
    (case a_Reader_may_end => k_is)
    (case i_Reader_may_end => k_is)
    (case F_Reader_may_end => (refine' PW.fnat ?l ?c ?k; (case l => k_is); (case c => k_is); (case k => k_is)))
    (case a_Reader_pattern => k_is)
    (case i_Reader_pattern => k_is)
    (case F_Reader_pattern => (refine' PW.fnat ?l ?c ?k; (case l => k_is); (case c => k_is); (case k => k_is)))
    (case a_Desk___init__ => k_is)
    (case i_Desk___init__ => k_is)
    (case F_Desk___init__ => (refine' PW.fnat ?l ?c ?k; (case l => k_is); (case c => k_is); (case k => k_is)))
    (case a_Desk_has_more => k_is)
    (case i_Desk_has_more => k_is)
    (case F_Desk_has_more => (refine' PW.fnat ?l ?c ?k; (case l => k_is); (case c => k_is); (case k => k_is)))
    (case a_Desk_take_number => k_is)
    (case i_Desk_take_number => k_is)
    (case F_Desk_take_number => (refine' PW.fnat ?l ?c ?k; (case l => k_is); (case c => k_is); (case k => k_is)))
    (case a_Desk_take_row => k_is)
    (case i_Desk_take_row => k_is)
    (case F_Desk_take_row => (refine' PW.fnat ?l ?c ?k; (case l => k_is); (case c => k_is); (case k => k_is)))
    (case a_Desk_answer_next => k_is)
    (case i_Desk_answer_next => k_is)
    (case F_Desk_answer_next => (refine' PW.fnat ?l ?c ?k; (case l => k_is); (case c => k_is); (case k => k_is)))
    (case a_Desk_load => k_is)
    (case i_Desk_load => k_is)
    (case F_Desk_load => (refine' PW.fnat ?l ?c ?k; (case l => k_is); (case c => k_is); (case k => k_is)))
#print axioms PySem.Challenge.cw_patternwords_s01_answers_holds
end
