import PyProof.Rows.All
import Wide.All
import OpenK.AllK
import Wide.FinOn
import PyProof.EqAt
import PyProof.EqKinds
import PyProof.TupleCall
import KE.BitLaws
import PyProof.ExcInit
import KE.KSuper
import PyProof.Draws
import PyProof.EnumMake
import PyProof.CollectWalk
import PyProof.TupleOfGen
import KE.KStar
import PySem.Challenge.RW_likeshards_k60_signed_sums
section
set_option Elab.async false
set_option linter.all false
set_option maxRecDepth 100000
/-! THE HAND LAYER, for ints, bools, texts, own classes, lists, tuples, dicts, comprehensions, walks over dicts, enumerate, zip, reversed, texts, calls, loops. Paste it whole ahead of your own text; what your proof does not reach may be deleted. -/
namespace L2
open PySem PySem.Spec PyProof.Rows

/-- a key: an int or a str -/
abbrev Key := Sum Int Str
def keyIs : Key → Value → Bool
  | .inl k, v => Value.isInt k v
  | .inr x, v => Value.isStrOf x v
def keyH (w : World) : Key → Int
  | .inl k => hashInt k
  | .inr x => hashStr w x
theorem keyIs_shape : ∀ {k : Key} {v : Value}, keyIs k v = true → (∃ i t, k = Sum.inl i ∧ v = Value.int i t) ∨ (∃ x t, k = Sum.inr x ∧ v = Value.str x t)
  | .inl i, v, h => by
    obtain ⟨t, e⟩ := Value.isInt_shape (k := i) (v := v) h
    exact .inl ⟨i, t, rfl, e⟩
  | .inr x, v, h => by
    obtain ⟨t, e⟩ := Value.isStrOf_shape (x := x) (v := v) h
    exact .inr ⟨x, t, rfl, e⟩
theorem key_ll (a b : Int) : decide ((Sum.inl a : Key) = Sum.inl b) = (a == b) := by
  by_cases e : a = b
  · subst e; simp
  · have h : ¬ (Sum.inl a : Key) = Sum.inl b := fun q => e (Sum.inl.inj q)
    rw [decide_eq_false h]
    exact (beq_eq_false_iff_ne.mpr e).symm
theorem key_rr (a b : Str) : decide ((Sum.inr a : Key) = Sum.inr b) = decide (a = b) := by
  by_cases e : a = b
  · subst e; simp
  · have h : ¬ (Sum.inr a : Key) = Sum.inr b := fun q => e (Sum.inr.inj q)
    rw [decide_eq_false h, decide_eq_false e]
theorem key_lr (a : Int) (b : Str) : decide ((Sum.inl a : Key) = Sum.inr b) = false := decide_eq_false (fun q => nomatch q)
theorem key_rl (a : Str) (b : Int) : decide ((Sum.inr a : Key) = Sum.inl b) = false := decide_eq_false (fun q => nomatch q)

def mixKind (prog : Program) (w : World) : PySem.KeyKind prog w Key where
  is := keyIs
  hash := keyH w
  inj := fun v a b ha hb => by
    rcases keyIs_shape ha with ⟨i, t, rfl, rfl⟩ | ⟨x, t, rfl, rfl⟩
    · rcases keyIs_shape hb with ⟨j, u, rfl, e⟩ | ⟨y, u, rfl, e⟩
      · injection e with e1 _; rw [e1]
      · exact nomatch e
    · rcases keyIs_shape hb with ⟨j, u, rfl, e⟩ | ⟨y, u, rfl, e⟩
      · exact nomatch e
      · injection e with e1 _; rw [e1]
  byValue := fun k v h => by
    rcases keyIs_shape h with ⟨i, t, rfl, rfl⟩ | ⟨x, t, rfl, rfl⟩ <;> rfl
  pyHash := fun hv h => by
    rcases keyIs_shape hv with ⟨i, t, rfl, rfl⟩ | ⟨x, t, rfl, rfl⟩
    · exact wpAny_pyHash_int h
    · exact wpAny_pyHash_str h
  eqBool := fun hu hv h => by
    rcases keyIs_shape hu with ⟨i, t, rfl, rfl⟩ | ⟨x, t, rfl, rfl⟩
    · rcases keyIs_shape hv with ⟨j, u, rfl, rfl⟩ | ⟨y, u, rfl, rfl⟩
      · rw [key_ll] at h; exact wpAny_eqBool_int h
      · rw [key_lr] at h; exact SeqAt.EqAt.int_str i t y u _ _ _ _ h
    · rcases keyIs_shape hv with ⟨j, u, rfl, rfl⟩ | ⟨y, u, rfl, rfl⟩
      · rw [key_rl] at h; exact SeqAt.EqAt.str_int x t j u _ _ _ _ h
      · rw [key_rr] at h; exact wpAny_eqBool_str h
  «strs» := fun k x t v h => by
    rcases keyIs_shape h with ⟨i, u, rfl, e⟩ | ⟨y, u, rfl, e⟩
    · exact nomatch e
    · injection e with e1 _
      subst e1
      cases v <;> rfl

end L2

namespace L2
open PySem PySem.Spec PyProof.Rows

/-- a value, without the heap -/
inductive V where
  | non | bl (b : Bool) | int (i : Int) | str (x : Str) | byt (b : Array UInt8) | flt (b : UInt64) | ref (a : Addr) | ty (n : String)
  deriving DecidableEq

def RelV : V → Value → Prop
  | .non, u => u = Value.none
  | .bl b, u => u = Value.bool b
  | .int i, u => ∃ t, u = Value.int i t
  | .str x, u => ∃ t, u = Value.str x t
  | .byt b, u => ∃ t, u = Value.bytes b t
  | .flt b, u => ∃ t, u = Value.float b t
  | .ref a, u => u = Value.ref a
  | .ty n, u => u = Value.type n

abbrev Vals : List V → List Value → Prop := Paired RelV
theorem Vals.length {xs : List V} {us : List Value} (r : Vals xs us) : xs.length = us.length := Paired.length r
theorem Vals.get : ∀ {xs : List V} {us : List Value} {i : Nat} {x : V}, Vals xs us → xs[i]? = some x → ∃ u, us[i]? = some u ∧ RelV x u
  | _, _, _, _, .nil, e => by simp at e
  | _, _, 0, _, .cons r _, e => by simp at e; subst e; exact ⟨_, rfl, r⟩
  | _, _, i + 1, x, .cons _ t, e => by
    obtain ⟨u, h1, h2⟩ := Vals.get (i := i) (x := x) t (by simpa using e)
    exact ⟨u, by simpa using h1, h2⟩
theorem Vals.set {x : V} {u : Value} (r : RelV x u) : ∀ {xs : List V} {us : List Value} (i : Nat), Vals xs us → Vals (xs.set i x) (us.set i u)
  | _, _, _, .nil => .nil
  | _, _, 0, .cons _ t => .cons r t
  | _, _, i + 1, .cons q t => .cons q (Vals.set r i t)
theorem Vals.append : ∀ {xs ys : List V} {us ws : List Value}, Vals xs us → Vals ys ws → Vals (xs ++ ys) (us ++ ws)
  | _, _, _, _, .nil, s => s
  | _, _, _, _, .cons r t, s => .cons r (Vals.append t s)
theorem Vals.take : ∀ {xs : List V} {us : List Value} (n : Nat), Vals xs us → Vals (xs.take n) (us.take n)
  | _, _, 0, _ => .nil
  | _, _, _ + 1, .nil => .nil
  | _, _, n + 1, .cons r t => .cons r (Vals.take n t)
theorem Vals.drop : ∀ {xs : List V} {us : List Value} (n : Nat), Vals xs us → Vals (xs.drop n) (us.drop n)
  | _, _, 0, r => r
  | _, _, _ + 1, .nil => .nil
  | _, _, n + 1, .cons _ t => Vals.drop n t
def RelO : Option V → Option Value → Prop
  | some v, some u => RelV v u
  | none, none => True
  | _, _ => False
def KV {κ : Type} : List (κ × V) → List (κ × Value) → Prop := Paired fun (p : κ × V) (q : κ × Value) => p.1 = q.1 ∧ RelV p.2 q.2

/-- a key of a dict (00_mix): an int or a text -/
def kV : Key → V
  | .inl i => .int i
  | .inr x => .str x

/-- what stands at a tracked address -/
inductive HO where
  /-- a list -/
  | lst (xs : List V)
  /-- a tuple (never changes) -/
  | tup (xs : List V)
  /-- a dict whose keys are ints and texts; one whose keys are tuples of ints and texts (the empty one is both) -/
  | dK (kvs : List (Key × V)) | dT (kvs : List (List Key × V))
  /-- a set of ints: its members, its size -/
  | set (S : Int → Bool) (n : Nat)
  /-- an instance of the class at C, its dict at dx, its attributes -/
  | ins (C dx : Addr) (fs : List (Str × V))
  /-- the dict of the instance at x -/
  | own (x : Addr)
  /-- the dict of an exception -/
  | xd (fs : List (Str × V))
  /-- a bound method, f of x -/
  | met (f x : Addr)
  /-- a range object lo, lo + 1, .. below hi -/
  | rng (lo hi : Int)
  /-- a thing that is known to the object (the script; a dict while a loop walks it): read, never written while it is so -/
  | frz (o : Obj) (u : HO)
  /-- a code object's table -/
  | tbl (ps : Array Value)
  /-- any other thing, by what is true of its one object (a def of one's own: SetO a S n := HO.ext fun h => ..) -/
  | ext (φ : Heap → Prop)

abbrev Hp := Addr → Option HO
def upd (H : Hp) (a : Addr) (o : HO) : Hp := fun b => if b = a then some o else H b
theorem upd_same {H : Hp} {a : Addr} {o : HO} : upd H a o a = some o := by unfold upd; rw [if_pos rfl]
theorem upd_ne {H : Hp} {a b : Addr} {o : HO} (h : b ≠ a) : upd H a o b = H b := by unfold upd; rw [if_neg h]
theorem upd_upd {H : Hp} {a : Addr} {o u : HO} : upd (upd H a o) a u = upd H a u := by
  funext b; unfold upd; split <;> rfl
/-- two objects of different content stand apart -/
theorem ne_of {H : Hp} {a b : Addr} {o u : HO} (h : H a = some o) (h' : H b = some u) (d : o ≠ u) : a ≠ b := by
  intro e; subst e; rw [h] at h'; exact d (Option.some.inj h')
theorem ne_of_none {H : Hp} {a b : Addr} {o : HO} (h : H a = some o) (h' : H b = none) : a ≠ b := by
  intro e; subst e; rw [h] at h'; cases h'

section
variable (P : Program) (w : World)
def ObjOk (H : Hp) (h : Heap) (a : Addr) : HO → Prop
  | .lst xs => xs.length ≤ sizeLine ∧ ∃ (its : List Value) (n : Nat), Vals xs its ∧ h.get? a = some { cls := .type "list", data := .seq its.toArray n }
  | .tup xs => xs.length ≤ sizeLine ∧ ∃ its : List Value, Vals xs its ∧ IsTup h a its.toArray
  | .dK kvs => kvs.length ≤ sizeLine ∧ (a == sysModules) = false ∧ ∃ vs, KV kvs vs ∧ h.DictOf (mixKind P w) a vs
  | .dT kvs => kvs.length ≤ sizeLine ∧ (a == sysModules) = false ∧ ∃ xs : List (List Key × Addr × Value),
      Paired (fun (p : List Key × V) (q : List Key × Addr × Value) => p.1 = q.1 ∧ H q.2.1 = some (.tup (p.1.map kV)) ∧ RelV p.2 q.2.2) kvs xs ∧
      ∃ o es ep, h.get? a = some o ∧ o.ExactDict ∧ o.data = .dict es ep ∧ es.toList = xs.map (entryOfKey (tupleKind (mixKind P w))) ∧ (xs.map (·.1)).Nodup
  | .set S n => h.SetOf (intKind P w) a S n
  | .ins C dx fs => H dx = some (.own a) ∧ fs.length ≤ 1000 ∧ dx ≠ a ∧ h.get? a = some (PySem.W.instObj C dx) ∧
      ∃ mA, h.Ns1 dx mA ∧ (∀ f, RelO (fs.lookup f) (mA f)) ∧ PySem.Within mA (fs.map (·.1))
  | .own _ => ∃ o, h.get? a = some o
  | .xd fs => ∃ mA, h.Ns1 a mA ∧ ∀ f, RelO (fs.lookup f) (mA f)
  | .rng lo hi => ∃ t u v, h.get? a = some { cls := .type "range", data := .fields #[.int lo t, .int hi u, .int 1 v] }
  | .frz o u => h.get? a = some o ∧ ObjOk H h a u
  | .tbl ps => h.get? a = some { cls := .none, data := .fields ps }
  | .met f x => h.get? a = some (PySem.W.methodObj (.ref f) (.ref x))
  | .ext φ => φ h ∧ (∃ o, h.get? a = some o) ∧ ∀ h1 h2 : Heap, φ h1 → (∀ o, h1.get? a = some o → h2.get? a = some o) → φ h2
/-- the abstract heap is held -/
def HOk (H : Hp) (h : Heap) : Prop := ∀ a o, H a = some o → ObjOk P w H h a o
end

section
variable {P : Program} {w : World} {H H' : Hp} {h h' : Heap} {a : Addr} {o : HO}
theorem ObjOk.lt (x : ObjOk P w H h a o) : a < h.objs.size := by
  cases o with
  | lst xs => obtain ⟨_, _, _, _, e⟩ := x; exact Heap.lt_size e
  | tup xs => obtain ⟨_, _, _, p⟩ := x; exact p.lt
  | dK kvs => obtain ⟨_, _, _, _, o, _, _, e, _⟩ := x; exact Heap.lt_size e
  | dT kvs => obtain ⟨_, _, _, _, o, _, _, e, _⟩ := x; exact Heap.lt_size e
  | set S n => obtain ⟨o, _, _, _, e, _⟩ := x; exact Heap.lt_size e
  | ins C dx fs => obtain ⟨_, _, _, e, _⟩ := x; exact Heap.lt_size e
  | own y => obtain ⟨_, e⟩ := x; exact Heap.lt_size e
  | xd fs => obtain ⟨_, ⟨_, _, _, e, _⟩, _⟩ := x; exact Heap.lt_size e
  | rng lo hi => obtain ⟨_, _, _, e⟩ := x; exact Heap.lt_size e
  | frz ob u => obtain ⟨e, _⟩ := x; exact Heap.lt_size e
  | tbl ps => exact Heap.lt_size (show h.get? a = some _ from x)
  | met f y => exact Heap.lt_size (show h.get? a = some _ from x)
  | ext φ => obtain ⟨_, ⟨_, e⟩, _⟩ := x; exact Heap.lt_size e
theorem Paired.mapP {α β : Type} {F G : α → β → Prop} : ∀ {l₁ : List α} {l₂ : List β}, Paired F l₁ l₂ → (∀ a b, F a b → G a b) → Paired G l₁ l₂
  | _, _, .nil, _ => .nil
  | _, _, .cons r t, f => .cons (f _ _ r) (Paired.mapP t f)
/-- what an object's description leans on: its own object, its own dict, the tuples -/
theorem ObjOk.stay (x : ObjOk P w H h a o) (k : ∀ b u, (b = a ∨ H b = some (.own a)) → h.get? b = some u → h'.get? b = some u)
    (ho : ∀ b, H b = some (.own a) → H' b = some (.own a)) (ht : ∀ b xs, H b = some (.tup xs) → H' b = some (.tup xs)) : ObjOk P w H' h' a o := by
  induction o with
  | lst xs => obtain ⟨z, its, n, r, e⟩ := x; exact ⟨z, its, n, r, k _ _ (.inl rfl) e⟩
  | tup xs => obtain ⟨z, its, r, ob, e, c⟩ := x; exact ⟨z, its, r, ob, k _ _ (.inl rfl) e, c⟩
  | dK kvs => obtain ⟨z, y, vs, r, ob, es, ep, e, c⟩ := x; exact ⟨z, y, vs, r, ob, es, ep, k _ _ (.inl rfl) e, c⟩
  | dT kvs =>
    obtain ⟨z, y, xs, r, ob, es, ep, e, c⟩ := x
    exact ⟨z, y, xs, Paired.mapP r fun p q z => ⟨z.1, ht _ _ z.2.1, z.2.2⟩, ob, es, ep, k _ _ (.inl rfl) e, c⟩
  | set S n => obtain ⟨ob, es, ep, t, e, c⟩ := x; exact ⟨ob, es, ep, t, k _ _ (.inl rfl) e, c⟩
  | ins C dx fs =>
    obtain ⟨d, z, ne, e, mA, ⟨od, es, ep, e2, c⟩, r⟩ := x
    exact ⟨ho _ d, z, ne, k _ _ (.inl rfl) e, mA, ⟨od, es, ep, k _ _ (.inr d) e2, c⟩, r⟩
  | own y => obtain ⟨ob, e⟩ := x; exact ⟨ob, k _ _ (.inl rfl) e⟩
  | xd fs => obtain ⟨mA, ⟨od, es, ep, e, c⟩, r⟩ := x; exact ⟨mA, ⟨od, es, ep, k _ _ (.inl rfl) e, c⟩, r⟩
  | rng lo hi => obtain ⟨t, u, v, e⟩ := x; exact ⟨t, u, v, k _ _ (.inl rfl) e⟩
  | frz ob u ih => obtain ⟨e, q⟩ := x; exact ⟨k _ _ (.inl rfl) e, ih q⟩
  | tbl ps =>
    have e : h.get? a = some { cls := .none, data := .fields ps } := x
    show h'.get? a = some { cls := .none, data := .fields ps }
    exact k a _ (.inl rfl) e
  | met f y =>
    have e : h.get? a = some (PySem.W.methodObj (.ref f) (.ref y)) := x
    show h'.get? a = some (PySem.W.methodObj (.ref f) (.ref y))
    exact k a _ (.inl rfl) e
  | ext φ => obtain ⟨p, ⟨o, e⟩, st⟩ := x; exact ⟨st _ _ p fun o q => k _ _ (.inl rfl) q, ⟨o, k _ _ (.inl rfl) e⟩, st⟩
theorem HOk.lt (x : HOk P w H h) (e : H a = some o) : a < h.objs.size := (x a o e).lt
theorem HOk.fresh (x : HOk P w H h) (e : h.objs.size ≤ a) : H a = none := by
  cases q : H a with
  | none => rfl
  | some u => exact absurd (Nat.lt_of_lt_of_le (x.lt q) e) (Nat.lt_irrefl _)
/-- every object of the heap is kept -/
theorem HOk.kept (x : HOk P w H h) (k : ∀ b u, h.get? b = some u → h'.get? b = some u) : HOk P w H h' := fun a o e =>
  (x a o e).stay (fun b u _ q => k b u q) (fun _ q => q) fun _ _ q => q
/-- a new object is laid and tracked -/
theorem HOk.laid (x : HOk P w H h) (k : ∀ b u, h.get? b = some u → h'.get? b = some u) (hp : h.objs.size ≤ a) (new : ObjOk P w (upd H a o) h' a o) : HOk P w (upd H a o) h' := fun b u e => by
  have hn := x.fresh hp
  by_cases hb : b = a
  · subst hb; rw [upd_same] at e; cases e; exact new
  · rw [upd_ne hb] at e
    exact (x b u e).stay (fun c v _ q => k c v q) (fun c q => by rw [upd_ne (ne_of_none q hn)]; exact q) fun c xs q => by rw [upd_ne (ne_of_none q hn)]; exact q
end

/-- what may be read as u: it is u, or a known u -/
def Rd (H : Hp) (a : Addr) (u : HO) : Prop := H a = some u ∨ ∃ o, H a = some (.frz o u)
theorem Rd.of {H : Hp} {a : Addr} {u : HO} (h : H a = some u) : Rd H a u := .inl h
theorem Rd.ok {P : Program} {w : World} {H : Hp} {h : Heap} {a : Addr} {u : HO} (r : Rd H a u) (x : HOk P w H h) : ObjOk P w H h a u := by
  rcases r with r | ⟨o, r⟩
  · exact x a u r
  · obtain ⟨_, q⟩ := x a _ r
    exact q
/-- what may be written -/
def Mut : Option HO → Prop
  | some (.lst _) => True
  | some (.dK _) => True
  | some (.dT _) => True
  | some (.set _ _) => True
  | some (.ins _ _ _) => True
  | some (.ext _) => True
  | _ => False
section
variable {P : Program} {w : World} {H : Hp} {h h' : Heap} {x e : Addr} {o' : HO}
/-- the object at e is changed: x itself, or the dict of the instance x -/
theorem HOk.write (ok : HOk P w H h) (mu : Mut (H x)) (he : e = x ∨ H e = some (.own x)) (k : ∀ b u, b ≠ e → h.get? b = some u → h'.get? b = some u) (heo : ∃ u, h'.get? e = some u)
    (new : ObjOk P w (upd H x o') h' x o') : HOk P w (upd H x o') h' := fun b u q => by
  have nown : ∀ c y, H c = some (.own y) → c ≠ x := fun c y r z => by subst z; rw [r] at mu; exact mu
  have ntup : ∀ c xs, H c = some (.tup xs) → c ≠ x := fun c xs r z => by subst z; rw [r] at mu; exact mu
  by_cases hb : b = x
  · subst hb; rw [upd_same] at q; cases q; exact new
  · rw [upd_ne hb] at q
    by_cases hbe : b = e
    · have q' : H b = some (.own x) := by
        rcases he with z | z
        · exact absurd (hbe.trans z) hb
        · rw [hbe]; exact z
      rw [q] at q'; cases q'
      obtain ⟨v, hv⟩ := heo
      exact ⟨v, by rw [hbe]; exact hv⟩
    · refine (ok b u q).stay (fun c v hc r => k c v ?_ r) (fun c r => by rw [upd_ne (nown c b r)]; exact r) fun c xs r => by rw [upd_ne (ntup c xs r)]; exact r
      rcases hc with rfl | hc
      · exact hbe
      · rintro rfl
        rcases he with z | z
        · exact nown c b hc z
        · rw [hc] at z; cases z; exact hb rfl
end

/-! ### kept unless tracked; of the frames at fs (the callers') the slots may change (an exception that passes writes there); of the records at ex (iterators) nothing is said -/
structure Un (fs ex : List Addr) (H H' : Hp) (h h' : Heap) : Prop where
  keep : ∀ b o, h.get? b = some o → H b = none → b ∉ fs → b ∉ ex → h'.get? b = some o
  slot : ∀ b o, h.get? b = some o → H b = none → b ∈ fs → b ∉ ex → ∃ sl, h'.get? b = some { o with slots := sl }
  free : ∀ b o, h.get? b = some o → H b = none → b ∉ ex → H' b = none
  there : ∀ b o, h.get? b = some o → b ∉ ex → ∃ o', h'.get? b = some o'
  tups : ∀ b xs, H b = some (.tup xs) → H' b = some (.tup xs)
  frzs : ∀ b o u, H b = some (.frz o u) → H' b = some (.frz o u)
  tbls : ∀ b ps, H b = some (.tbl ps) → ∃ more, H' b = some (.tbl (ps ++ more))
section
variable {fs fs' ex ex' : List Addr} {H H1 H2 : Hp} {h h1 h2 h' : Heap} {a x e : Addr} {o : HO}
theorem Un.any (u : Un fs ex H H1 h h1) {b : Addr} {ob : Obj} (q : h.get? b = some ob) (n : H b = none) (hx : b ∉ ex) : ∃ sl, h1.get? b = some { ob with slots := sl } := by
  by_cases hb : b ∈ fs
  · exact u.slot b ob q n hb hx
  · exact ⟨ob.slots, u.keep b ob q n hb hx⟩
theorem Un.trans (a : Un fs ex H H1 h h1) (b : Un fs ex H1 H2 h1 h2) : Un fs ex H H2 h h2 where
  keep := fun c ob q n hc hx => b.keep c ob (a.keep c ob q n hc hx) (a.free c ob q n hx) hc hx
  slot := fun c ob q n hc hx => by
    obtain ⟨sl, e1⟩ := a.slot c ob q n hc hx
    obtain ⟨sl', e2⟩ := b.slot c _ e1 (a.free c ob q n hx) hc hx
    exact ⟨sl', e2⟩
  free := fun c ob q n hx => by
    obtain ⟨o', e1⟩ := a.there c ob q hx
    exact b.free c o' e1 (a.free c ob q n hx) hx
  there := fun c ob q hx => by
    obtain ⟨o', e1⟩ := a.there c ob q hx
    exact b.there c o' e1 hx
  tups := fun c xs q => b.tups c xs (a.tups c xs q)
  frzs := fun c ob xs q => b.frzs c ob xs (a.frzs c ob xs q)
  tbls := fun c ps q => by
    obtain ⟨m1, e1⟩ := a.tbls c ps q
    obtain ⟨m2, e2⟩ := b.tbls c _ e1
    exact ⟨m1 ++ m2, by rw [e2, Array.append_assoc]⟩
theorem Un.kept (k : ∀ b u, h.get? b = some u → h'.get? b = some u) : Un fs ex H H h h' :=
  ⟨fun b ob q _ _ _ => k b ob q, fun b ob q _ _ _ => ⟨ob.slots, k b ob q⟩, fun _ _ _ n _ => n, fun b ob q _ => ⟨ob, k b ob q⟩, fun _ _ q => q, fun _ _ _ q => q, fun _ ps q => ⟨#[], by rw [q]; simp⟩⟩
theorem Un.refl : Un fs ex H H h h := Un.kept fun _ _ q => q
theorem Un.laid (k : ∀ b u, h.get? b = some u → h'.get? b = some u) (hp : h.objs.size ≤ a) (hn : H a = none) : Un fs ex H (upd H a o) h h' where
  keep := fun b u q _ _ _ => k b u q
  slot := fun b u q _ _ _ => ⟨u.slots, k b u q⟩
  free := fun b u q n _ => by rw [upd_ne (Nat.ne_of_lt (Nat.lt_of_lt_of_le (Heap.lt_size q) hp))]; exact n
  there := fun b u q _ => ⟨u, k b u q⟩
  tups := fun b xs q => by rw [upd_ne (ne_of_none q hn)]; exact q
  frzs := fun b u xs q => by rw [upd_ne (ne_of_none q hn)]; exact q
  tbls := fun b ps q => ⟨#[], by rw [upd_ne (ne_of_none q hn), q]; simp⟩
theorem Un.write (mu : Mut (H x)) (he : e = x ∨ H e = some (.own x)) (k : ∀ b u, b ≠ e → h.get? b = some u → h'.get? b = some u) (heo : ∃ u, h'.get? e = some u) : Un fs ex H (upd H x o) h h' := by
  have hx : ∀ b, H b = none → b ≠ x := fun b n z => by subst z; rw [n] at mu; exact mu
  have hb : ∀ b, H b = none → b ≠ e := fun b n z => by
    subst z
    rcases he with r | r
    · exact hx b n r
    · rw [n] at r; cases r
  have hm : ∀ b u, H b = some u → ¬ Mut (some u) → b ≠ x := fun b u q nm z => by subst z; rw [q] at mu; exact nm mu
  refine ⟨fun b u q n _ _ => k b u (hb b n) q, fun b u q n _ _ => ⟨u.slots, k b u (hb b n) q⟩, fun b u q n _ => by rw [upd_ne (hx b n)]; exact n, fun b u q _ => ?_,
    fun b xs q => by rw [upd_ne (hm b _ q fun z => z)]; exact q, fun b u xs q => by rw [upd_ne (hm b _ q fun z => z)]; exact q, fun b ps q => ⟨#[], by rw [upd_ne (hm b _ q fun z => z), q]; simp⟩⟩
  by_cases hbe : b = e
  · subst hbe; exact heo
  · exact ⟨u, k b u hbe q⟩
theorem Un.mono (u : Un fs ex H H1 h h1) (hs : ∀ b ∈ fs, b ∈ fs') (hx : ∀ b ∈ ex, b ∈ ex') : Un fs' ex' H H1 h h1 :=
  ⟨fun b ob q n hb he => u.keep b ob q n (fun z => hb (hs b z)) fun z => he (hx b z), fun _ _ q n _ he => u.any q n fun z => he (hx _ z), fun b ob q n he => u.free b ob q n fun z => he (hx b z), fun b ob q he => u.there b ob q fun z => he (hx b z), u.tups, u.frzs, u.tbls⟩
end

/-! ### the heap without what is tracked -/
def trk (h : Heap) (H : Hp) : List Addr := (List.range h.objs.size).filter fun a => (H a).isSome
def hidT (h : Heap) (H : Hp) : Heap := PySem.W.hideAll h (trk h H)
theorem hidT_size (h : Heap) (H : Hp) : (hidT h H).objs.size = h.objs.size := PySem.W.hideAll_size _ _
theorem hidT_get {h : Heap} {H : Hp} {b : Addr} {o : Obj} (e : h.get? b = some o) (n : H b = none) : (hidT h H).get? b = some o :=
  PySem.W.hideAll_get _ e fun hm => by
    have q : (H b).isSome = true := (List.mem_filter.mp hm).2
    rw [n] at q; simp at q
theorem of_hidT {h : Heap} {H : Hp} {b : Addr} {o : Obj} (e : (hidT h H).get? b = some o) : h.get? b = some o ∧ H b = none := by
  have e' : h.get? b = some o := PySem.W.of_hideAll (trk h H) e
  refine ⟨e', ?_⟩
  cases q : H b with
  | none => rfl
  | some x =>
    have hm : b ∈ trk h H := List.mem_filter.mpr ⟨List.mem_range.mpr (Heap.lt_size e'), by simp [q]⟩
    have z : (hidT h H).get? b = none := PySem.W.hideAll_none (trk h H) hm
    rw [z] at e; cases e

/-! ### OpenK's ledger, filled with every new object but one -/
def allNews (g h : Heap) (L : Addr) : List (Addr × Obj) := (List.range h.objs.size).filterMap fun a => if a = L ∨ (g.get? a).isSome = true then none else (h.get? a).map fun o => (a, o)
def rest (g h : Heap) (L d : Addr) : List (Addr × Obj) := (allNews g h L).filter fun p => decide (p.1 ≠ d)
end L2

namespace L2
open PySem PySem.Spec PyProof.Rows

/-- the module's facts, over the base: the heap at the law's entry without what is tracked there -/
structure Mod (K : PySem.W.Frag) (mg : Str → Option Value) (base : Heap) : Prop where
  kin : K.In base
  glob : base.Ns mainGlobals mg
  blt : ∃ mb, base.Ns builtinsNs mb ∧ ∀ x : Str, x ≠ "__name__" → mb x = bootBuiltins x
  nolimit : base.NoLimit

/-- the context: a def's body (or a comprehension's block) running. base: fixed through the whole law; s₀, H₀: the entry; outer: the frames whose slots others may change (a def's callers); stack: all frames that run;
   ex: iterators that were made ahead of the entry and are walked here (a comprehension's); fn: the names whose cells were made at the entry (a def: all; a comprehension's block: its own); calm: not within an except suite; pn: pins that every state bears; xe: what is wanted of an exception that leaves the code -/
structure Cx where
  prog : Program
  w : World
  K : PySem.W.Frag
  mg : Str → Option Value
  base : Heap
  A : Around
  N : List Str
  s_0 : Shared
  H_0 : Hp
  env : Env
  outer : List Env
  stack : List Env
  ex : List Addr
  fn : Str → Bool
  calm : Bool
  pn : List (Addr × Obj)
  xe : Value → Shared → Prop
/-- the callers' frames -/
def frs (l : List Env) : List Addr := l.filterMap (·.frame)
abbrev Cx.fs (X : Cx) : List Addr := frs X.outer

def Vis (sc : Scope) (x : Str) : Prop := sc.names.lookup x = some .local ∨ sc.names.lookup x = some .cell ∨ sc.names.lookup x = some .free
def Loc (sc : Scope) (x : Str) : Prop := sc.names.lookup x = some .local ∨ sc.names.lookup x = some .cell
def Look (env : Env) (h : Heap) (m : Str → Option Value) (x : Str) (u : Value) : Prop :=
  (env.kindOf x = some .local ∧ m x = some u) ∨ ((env.kindOf x = some .cell ∨ env.kindOf x = some .free) ∧ ∃ c, env.cells.lookup x = some c ∧ h.IsCell c (some u))

structure Cx.Ok (X : Cx) : Prop where
  mod : Mod X.K X.mg X.base
  kind : X.env.scope.kind = .function
  glob : X.env.globals = mainGlobals
  blt : X.env.builtins = builtinsNs
  above : X.s_0.heap.objs.size ≤ X.env.locals
  inj : ∀ x y c, X.env.cells.lookup x = some c → X.env.cells.lookup y = some c → x = y
  has : ∀ x, (X.env.kindOf x = some .cell ∨ X.env.kindOf x = some .free) → ∃ c, X.env.cells.lookup x = some c
  cab : ∀ x c, X.fn x = true → X.env.cells.lookup x = some c → X.s_0.heap.objs.size ≤ c
  hd : X.calm = true → X.A.handled = none
  frames : X.A.frames = some X.stack
  stk : X.stack = X.outer ∨ (X.stack = X.env :: X.outer ∧ X.env.frame = some X.env.locals)
  exf : ∀ b ∈ X.ex, b ≠ X.env.locals ∧ ∀ x c, X.env.cells.lookup x = some c → c ≠ b
  bs : ∀ b o, X.base.get? b = some o → X.s_0.heap.get? b = some o ∧ X.H_0 b = none
  bsz : X.base.objs.size ≤ X.s_0.heap.objs.size
  noex : ∀ b o, X.base.get? b = some o → b ∉ X.ex
  exfs : ∀ b ∈ X.ex, b ∉ X.fs
  funs : X.s_0.heap.FunFrames X.base X.outer
  frf : ∀ b ∈ X.fs, X.H_0 b = none

structure Inv (X : Cx) (pins : List (Addr × Obj)) (σ : List (Option V)) (H : Hp) (s : Shared) : Prop where
  ok : X.Ok
  os : s.os = X.s_0.os
  bare : AllBare s.gens
  base : Un X.fs X.ex X.H_0 H X.s_0.heap s.heap
  loc : ∃ m, s.heap.Ns X.env.locals m ∧ ∀ (i : Nat) (x : Str) (v : V), X.N[i]? = some x → σ[i]? = some (some v) → Vis X.env.scope x → ∃ u, RelV v u ∧ Look X.env s.heap m x u
  cell : ∀ x c, X.env.cells.lookup x = some c → ∃ v, s.heap.IsCell c v
  free : H X.env.locals = none
  freeC : ∀ x c, X.env.cells.lookup x = some c → H c = none
  pin : ∀ p ∈ X.pn ++ pins, s.heap.get? p.1 = some p.2 ∧ H p.1 = none ∧ p.1 ≠ X.env.locals ∧ p.1 ∉ X.fs ∧ ∀ v, p.2.data ≠ .cell v
  hok : HOk X.prog X.w H s.heap
  len : σ.length = X.N.length

section
variable {X : Cx} {pins : List (Addr × Obj)} {σ : List (Option V)} {H H' : Hp} {s : Shared} {h' : Heap}

theorem Cx.Ok.nofr (ok : X.Ok) {b : Addr} {o : Obj} (e : X.base.get? b = some o) : b ∉ X.fs := fun hb => by
  have := (ok.funs.mem hb).1
  rw [e] at this; cases this
theorem Inv.bs (I : Inv X pins σ H s) : ∀ b o, X.base.get? b = some o → s.heap.get? b = some o ∧ H b = none := fun b o e =>
  ⟨I.base.keep b o (I.ok.bs b o e).1 (I.ok.bs b o e).2 (I.ok.nofr e) (I.ok.noex b o e), I.base.free b o (I.ok.bs b o e).1 (I.ok.bs b o e).2 (I.ok.noex b o e)⟩
theorem Inv.bk (I : Inv X pins σ H s) : ∀ b o, X.base.get? b = some o → s.heap.get? b = some o := fun b o e => (I.bs b o e).1
theorem Inv.mod (I : Inv X pins σ H s) : Mod X.K X.mg X.base := I.ok.mod
theorem Inv.kIn (I : Inv X pins σ H s) : X.K.In s.heap := I.ok.mod.kin.keeps I.bk
theorem Inv.nolimit (I : Inv X pins σ H s) : s.heap.NoLimit := I.ok.mod.nolimit.keeps I.bk
/-- the frame over the base: for OpenK's rules (K.In X.base is I.mod.kin) -/
theorem Inv.fr (I : Inv X pins σ H s) : ∃ m, Fr X.base X.env.locals s.heap m :=
  let ⟨m, hn, _⟩ := I.loc
  ⟨m, hn, I.bk, Nat.le_trans I.ok.bsz I.ok.above⟩
theorem Inv.lt (I : Inv X pins σ H s) : X.env.locals < s.heap.objs.size := let ⟨_, hn, _⟩ := I.loc; hn.lt
theorem Inv.sz (I : Inv X pins σ H s) : X.s_0.heap.objs.size ≤ s.heap.objs.size := Nat.le_trans I.ok.above (Nat.le_of_lt I.lt)
theorem Inv.nofs (I : Inv X pins σ H s) {a : Addr} (h : s.heap.objs.size ≤ a) : a ∉ X.fs := fun hb => by
  obtain ⟨_, o, ho, _⟩ := I.ok.funs.mem hb
  exact absurd (Nat.lt_of_lt_of_le (Heap.lt_size ho) (Nat.le_trans I.sz h)) (Nat.lt_irrefl _)
theorem Inv.cne (I : Inv X pins σ H s) : ∀ x c, X.env.cells.lookup x = some c → c ≠ X.env.locals := fun x c e z => by
  obtain ⟨v, o, ho, hd⟩ := I.cell x c e
  obtain ⟨m, ⟨o', es, ep, ho', hd', _⟩, _⟩ := I.loc
  rw [z, ho'] at ho; cases ho; rw [hd'] at hd; cases hd
theorem Inv.funs (I : Inv X pins σ H s) : s.heap.FunFrames X.base X.outer := by
  have all : ∀ (l : List Env), (∀ b ∈ frs l, b ∈ X.fs) → X.s_0.heap.FunFrames X.base l → s.heap.FunFrames X.base l := by
    intro l
    induction l with
    | nil => intro _ _; trivial
    | cons env r ih =>
      intro hs hl
      obtain ⟨hk, ⟨L, o, hf, hn, ho, hd⟩, hr⟩ := hl
      have hL : L ∈ X.fs := hs L (by unfold frs; rw [List.filterMap_cons, hf]; exact List.mem_cons_self)
      obtain ⟨sl, e⟩ := I.base.slot L o ho (I.ok.frf L hL) hL fun z => I.ok.exfs L z hL
      exact ⟨hk, ⟨L, _, hf, hn, e, hd⟩, ih (fun b hb => hs b (by unfold frs; rw [List.filterMap_cons, hf]; exact List.mem_cons_of_mem _ hb)) hr⟩
  exact all X.outer (fun _ hb => hb) I.ok.funs

/-- the frames that run, for a call -/
theorem Inv.stack (I : Inv X pins σ H s) : s.heap.FunFrames X.base X.stack := by
  rcases I.ok.stk with e | ⟨e, hf⟩
  · rw [e]; exact I.funs
  · rw [e]
    obtain ⟨m, hn, _⟩ := I.loc
    refine .cons (by rw [I.ok.kind]; decide) hf hn ?_ I.funs
    exact Heap.get?_none_of_le (Nat.le_trans I.ok.bsz I.ok.above)
theorem Inv.stkSub (I : Inv X pins σ H s) : ∀ b ∈ frs X.stack, b ∈ X.env.locals :: X.fs := fun b hb => by
  rcases I.ok.stk with e | ⟨e, hf⟩
  · rw [e] at hb; exact List.mem_cons_of_mem _ hb
  · rw [e] at hb
    unfold frs at hb
    rw [List.filterMap_cons, hf] at hb
    exact hb
theorem Inv.stkFree (I : Inv X pins σ H s) : ∀ b ∈ frs X.stack, H b = none := fun b hb => by
  rcases List.mem_cons.mp (I.stkSub b hb) with e | hb
  · rw [e]; exact I.free
  · obtain ⟨_, o, ho, _⟩ := I.ok.funs.mem hb
    exact I.base.free b o ho (I.ok.frf b hb) fun z => I.ok.exfs b z hb

/-- THE STEP: the untracked objects but the frame and the records at ch are kept (the callers' frames up to slots), the frame's map is kept, the new abstract heap is held -/
theorem Inv.step {g' : Array GenState} {t' : Nat} {d' : Drawn} {ch : List Addr} (I : Inv X pins σ H s)
    (hch : ∀ b ∈ ch, (b ∈ X.ex ∨ X.s_0.heap.objs.size ≤ b) ∧ b ≠ X.env.locals ∧ (∀ x c, X.env.cells.lookup x = some c → c ≠ b) ∧ ∀ p ∈ X.pn ++ pins, p.1 ≠ b)
    (keep : ∀ b o, b ≠ X.env.locals → b ∉ X.fs → b ∉ ch → s.heap.get? b = some o → H b = none → h'.get? b = some o)
    (slot : ∀ b o, b ≠ X.env.locals → b ∈ X.fs → b ∉ ch → s.heap.get? b = some o → H b = none → ∃ sl, h'.get? b = some { o with slots := sl }) (free : ∀ b o, b ∉ ch → s.heap.get? b = some o → H b = none → H' b = none)
    (there : ∀ b o, b ∉ ch → s.heap.get? b = some o → ∃ o', h'.get? b = some o')
    (tups : ∀ b xs, H b = some (.tup xs) → H' b = some (.tup xs)) (frzs : ∀ b o u, H b = some (.frz o u) → H' b = some (.frz o u)) (tbls : ∀ b ps, H b = some (.tbl ps) → ∃ more, H' b = some (.tbl (ps ++ more)))
    (ns : ∀ m, s.heap.Ns X.env.locals m → h'.Ns X.env.locals m) (hok : HOk X.prog X.w H' h') (hg : AllBare g') :
    Inv X pins σ H' { s with heap := h', gens := g', drawn := d', toks := t' } := by
  have neL : ∀ b o, X.s_0.heap.get? b = some o → b ≠ X.env.locals := fun b o e => Nat.ne_of_lt (Nat.lt_of_lt_of_le (Heap.lt_size e) I.ok.above)
  have neC : ∀ b o, X.s_0.heap.get? b = some o → b ∉ X.ex → b ∉ ch := fun b o e hx hb => by
    rcases (hch b hb).1 with z | z
    · exact hx z
    · exact absurd (Nat.lt_of_lt_of_le (Heap.lt_size e) z) (Nat.lt_irrefl _)
  have cellK : ∀ x c, X.env.cells.lookup x = some c → ∀ v, s.heap.IsCell c v → h'.IsCell c v := fun x c e v ⟨o, ho, hd⟩ => by
    have nch : c ∉ ch := fun z => (hch c z).2.2.1 x c e rfl
    by_cases hc : c ∈ X.fs
    · obtain ⟨sl, q⟩ := slot c o (I.cne x c e) hc nch ho (I.freeC x c e)
      exact ⟨_, q, hd⟩
    · exact ⟨o, keep c o (I.cne x c e) hc nch ho (I.freeC x c e), hd⟩
  refine ⟨I.ok, I.os, hg, ⟨fun b o e n hb hx => ?_, fun b o e n hb hx => ?_, fun b o e n hx => ?_, fun b o e hx => ?_, fun b xs e => tups b xs (I.base.tups b xs e), fun b o xs e => frzs b o xs (I.base.frzs b o xs e), fun b ps e => ?_⟩, ?_, fun x c e => ?_, ?_, fun x c e => ?_, fun p hp => ?_, hok, I.len⟩
  · exact keep b o (neL b o e) hb (neC b o e hx) (I.base.keep b o e n hb hx) (I.base.free b o e n hx)
  · obtain ⟨sl, e1⟩ := I.base.slot b o e n hb hx
    obtain ⟨sl', e2⟩ := slot b _ (neL b o e) hb (neC b o e hx) e1 (I.base.free b o e n hx)
    exact ⟨sl', e2⟩
  · obtain ⟨o', e1⟩ := I.base.there b o e hx
    exact free b o' (neC b o e hx) e1 (I.base.free b o e n hx)
  · obtain ⟨o', e1⟩ := I.base.there b o e hx
    exact there b o' (neC b o e hx) e1
  · obtain ⟨m1, e1⟩ := I.base.tbls b ps e
    obtain ⟨m2, e2⟩ := tbls b _ e1
    exact ⟨m1 ++ m2, by rw [e2, Array.append_assoc]⟩
  · obtain ⟨m, hn, hl⟩ := I.loc
    refine ⟨m, ns m hn, fun i x v e1 e2 e3 => ?_⟩
    obtain ⟨u, r, l⟩ := hl i x v e1 e2 e3
    refine ⟨u, r, ?_⟩
    rcases l with l | ⟨k, c, e, z⟩
    · exact .inl l
    · exact .inr ⟨k, c, e, cellK x c e _ z⟩
  · obtain ⟨v, z⟩ := I.cell x c e
    exact ⟨v, cellK x c e v z⟩
  · obtain ⟨m, ⟨o, _, _, ho, _⟩, _⟩ := I.loc
    exact free _ o (fun z => (hch _ z).2.1 rfl) ho I.free
  · obtain ⟨v, o, ho, hd⟩ := I.cell x c e
    exact free c o (fun z => (hch c z).2.2.1 x c e rfl) ho (I.freeC x c e)
  · obtain ⟨e, n, ne, nf, d⟩ := I.pin p hp
    have nch : p.1 ∉ ch := fun z => (hch p.1 z).2.2.2 p hp rfl
    exact ⟨keep p.1 p.2 ne nf nch e n, free p.1 p.2 nch e n, ne, nf, d⟩
/-- .. where the frame's own object is kept too -/
theorem Inv.un {t' : Nat} (I : Inv X pins σ H s) (u : Un X.fs [] H H' s.heap h') (hok : HOk X.prog X.w H' h') : Inv X pins σ H' { s with heap := h', toks := t' } := by
  obtain ⟨m, ⟨o, es, ep, ho, r⟩, _⟩ := id I.loc
  obtain ⟨sl, hL⟩ := u.any ho I.free (by simp)
  exact I.step (g' := s.gens) (d' := s.drawn) (ch := []) (fun _ z => nomatch z) (fun b o _ hb _ e n => u.keep b o e n hb (by simp)) (fun b o _ hb _ e n => u.slot b o e n hb (by simp)) (fun b o _ e n => u.free b o e n (by simp)) (fun b o _ e => u.there b o e (by simp)) u.tups u.frzs u.tbls (fun m' hm => by
    obtain ⟨o', es', ep', ho', r'⟩ := hm
    rw [ho] at ho'; cases ho'
    exact ⟨_, es', ep', hL, r'⟩) hok I.bare
/-- behind a call (or a comprehension's block): the slots of this frame may have changed too, the records at ch may have turned -/
theorem Inv.call {g' : Array GenState} {t' : Nat} {d' : Drawn} {ch : List Addr} (I : Inv X pins σ H s) (u : Un (frs X.stack) ch H H' s.heap h') (hok : HOk X.prog X.w H' h') (hg : AllBare g')
    (hch : ∀ b ∈ ch, (b ∈ X.ex ∨ X.s_0.heap.objs.size ≤ b) ∧ b ≠ X.env.locals ∧ (∀ x c, X.env.cells.lookup x = some c → c ≠ b) ∧ ∀ p ∈ X.pn ++ pins, p.1 ≠ b) :
    Inv X pins σ H' { s with heap := h', gens := g', drawn := d', toks := t' } := by
  obtain ⟨m, ⟨o, es, ep, ho, r⟩, _⟩ := id I.loc
  obtain ⟨sl, hL⟩ := u.any ho I.free fun z => (hch _ z).2.1 rfl
  exact I.step (ch := ch) hch (fun b o hL hb hc e n => u.keep b o e n (fun z => (List.mem_cons.mp (I.stkSub b z)).elim hL hb) hc) (fun b o _ _ hc e n => u.any e n hc) (fun b o hc e n => u.free b o e n hc) (fun b o hc e => u.there b o e hc) u.tups u.frzs u.tbls (fun m' hm => by
    obtain ⟨o', es', ep', ho', r'⟩ := hm
    rw [ho] at ho'; cases ho'
    exact ⟨_, es', ep', hL, r'⟩) hok hg
/-- an untracked record of ours (an iterator) has turned -/
theorem Inv.turned {t' : Nat} {it : Addr} (I : Inv X pins σ H s) (k : ∀ b o, b ≠ it → s.heap.get? b = some o → h'.get? b = some o) (hn : H it = none) (hL : it ≠ X.env.locals)
    (h1 : it ∈ X.ex ∨ X.s_0.heap.objs.size ≤ it) (h2 : ∀ x c, X.env.cells.lookup x = some c → c ≠ it) (h3 : ∀ p ∈ X.pn ++ pins, p.1 ≠ it) : Inv X pins σ H { s with heap := h', toks := t' } := by
  have nit : ∀ b u, H b = some u → b ≠ it := fun b u e z => by rw [z, hn] at e; cases e
  refine I.step (g' := s.gens) (d' := s.drawn) (ch := [it]) (fun b hb => ?_) (fun b o _ _ hc e _ => k b o (fun z => hc (by simp [z])) e) (fun b o _ _ hc e _ => ⟨o.slots, k b o (fun z => hc (by simp [z])) e⟩) (fun _ _ _ _ n => n)
    (fun b o hc e => ⟨o, k b o (fun z => hc (by simp [z])) e⟩) (fun _ _ e => e) (fun _ _ _ e => e) (fun b ps e => ⟨#[], by rw [e]; simp⟩) (fun m hm => ?_) (fun b u e => ?_) I.bare
  · have e : b = it := by simpa using hb
    subst e
    exact ⟨h1, hL, h2, h3⟩
  · obtain ⟨o, es, ep, ho, r⟩ := hm
    exact ⟨o, es, ep, k _ o (Ne.symm hL) ho, r⟩
  · refine (I.hok b u e).stay (fun c v hc q => k c v ?_ q) (fun _ q => q) fun _ _ q => q
    rcases hc with z | z
    · rw [z]; exact nit b u e
    · exact nit c _ z
theorem Inv.tok (I : Inv X pins σ H s) (t : Nat) : Inv X pins σ H { s with toks := t } := I.un (h' := s.heap) (t' := t) Un.refl I.hok
/-- all objects kept -/
theorem Inv.kept {t' : Nat} (I : Inv X pins σ H s) (k : ∀ b u, s.heap.get? b = some u → h'.get? b = some u) : Inv X pins σ H { s with heap := h', toks := t' } := I.un (Un.kept k) (I.hok.kept k)
/-- a new object laid and tracked -/
theorem Inv.laid {a : Addr} {o : HO} {t' : Nat} (I : Inv X pins σ H s) (k : ∀ b u, s.heap.get? b = some u → h'.get? b = some u) (hp : s.heap.objs.size ≤ a) (new : ObjOk X.prog X.w (upd H a o) h' a o) :
    Inv X pins σ (upd H a o) { s with heap := h', toks := t' } := I.un (Un.laid k hp (I.hok.fresh hp)) (I.hok.laid k hp new)
/-- an object written -/
theorem Inv.write {x e : Addr} {o : HO} {t' : Nat} (I : Inv X pins σ H s) (mu : Mut (H x)) (he : e = x ∨ H e = some (.own x)) (k : ∀ b u, b ≠ e → s.heap.get? b = some u → h'.get? b = some u) (heo : ∃ u, h'.get? e = some u)
    (new : ObjOk X.prog X.w (upd H x o) h' x o) : Inv X pins σ (upd H x o) { s with heap := h', toks := t' } := I.un (Un.write mu he k heo) (I.hok.write mu he k heo new)
/-- forgetting slots, pins -/
theorem Inv.weak {σ' : List (Option V)} (I : Inv X pins σ H s) (hl : σ'.length = σ.length) (w : ∀ (i : Nat) v, σ'[i]? = some (some v) → σ[i]? = some (some v)) : Inv X pins σ' H s :=
  ⟨I.ok, I.os, I.bare, I.base, let ⟨m, hn, hl'⟩ := I.loc; ⟨m, hn, fun i x v e1 e2 e3 => hl' i x v e1 (w i v e2) e3⟩, I.cell, I.free, I.freeC, I.pin, I.hok, hl.trans I.len⟩
theorem Inv.pins_of {pins' : List (Addr × Obj)} (I : Inv X pins σ H s) (h : ∀ p ∈ pins', s.heap.get? p.1 = some p.2 ∧ H p.1 = none ∧ p.1 ≠ X.env.locals ∧ p.1 ∉ X.fs ∧ ∀ v, p.2.data ≠ .cell v) : Inv X pins' σ H s :=
  ⟨I.ok, I.os, I.bare, I.base, I.loc, I.cell, I.free, I.freeC, fun p hp => (List.mem_append.mp hp).elim (fun z => I.pin p (List.mem_append_left _ z)) (h p), I.hok, I.len⟩

theorem nodup_ix {N : List Str} (hN : N.Nodup) {i j : Nat} {x : Str} (a : N[i]? = some x) (b : N[j]? = some x) : i = j := by
  obtain ⟨h1, e1⟩ := List.getElem?_eq_some_iff.mp a
  obtain ⟨h2, e2⟩ := List.getElem?_eq_some_iff.mp b
  exact (List.getElem_inj hN).mp (e1.trans e2.symm)

/-- a name is stored; what changed -/
theorem store_ok2 {M : Model} {A : Around} {E : Value → Shared → Prop} {i : Nat} {x : Str} {v : V} {u : Value} {Q : Unit → Shared → Prop} (I : Inv X pins σ H s) (hN : X.N.Nodup) (hi : X.N[i]? = some x) (hx : Loc X.env.scope x) (r : RelV v u)
    (h : ∀ s', Inv X pins (σ.set i (some v)) H s' → (∃ a, Heap.SameBut a s.heap s'.heap ∧ (a = X.env.locals ∨ X.env.cells.lookup x = some a)) → Q () s') (hf : X.fn x = true ∨ X.env.scope.names.lookup x = some .local := by first | exact .inl rfl | exact .inr rfl | assumption) : wpAny M A (storeName X.env x u) Q E s := by
  obtain ⟨m, hn, hl⟩ := id I.loc
  have hcls : (X.env.scope.kind == .class || (X.env.scope.kind == .module && X.env.locals != X.env.globals)) = false := by rw [I.ok.kind]; rfl
  have hiσ : i < σ.length := by rw [I.len]; exact (List.getElem?_eq_some_iff.mp hi).1
  have cne := I.cne
  have tracked : ∀ {a : Addr} {h' : Heap}, (∃ o, s.heap.get? a = some o ∧ H a = none) → Heap.SameBut a s.heap h' → HOk X.prog X.w H h' := fun {a h'} ha hs b ob e => by
    obtain ⟨_, _, hfree⟩ := ha
    refine (I.hok b ob e).stay (fun c w' hc q => (hs.2 c ?_).trans q) (fun _ q => q) fun _ _ q => q
    rintro rfl
    rcases hc with rfl | hc
    · rw [hfree] at e; cases e
    · rw [hfree] at hc; cases hc
  rcases hx with hk | hk
  · refine wpAny_storeName_local hk hn (fun h' hn' hs => ?_) hcls
    obtain ⟨oL, _, _, hoL, _⟩ := id hn
    refine h _ ⟨I.ok, I.os, I.bare, ⟨fun b o e n hb hx => ?_, fun b o e n hb hx => ?_, I.base.free, fun b o e hx => ?_, I.base.tups, I.base.frzs, I.base.tbls⟩, ⟨_, hn', fun j y v' e1 e2 e3 => ?_⟩, fun y c e => ?_, I.free, I.freeC, fun p hp => ?_, tracked ⟨oL, hoL, I.free⟩ hs, by simpa using I.len⟩ ⟨_, hs, .inl rfl⟩
    · exact (hs.2 b (Nat.ne_of_lt (Nat.lt_of_lt_of_le (Heap.lt_size e) I.ok.above))).trans (I.base.keep b o e n hb hx)
    · obtain ⟨sl, e1⟩ := I.base.slot b o e n hb hx
      exact ⟨sl, (hs.2 b (Nat.ne_of_lt (Nat.lt_of_lt_of_le (Heap.lt_size e) I.ok.above))).trans e1⟩
    · obtain ⟨o', e1⟩ := I.base.there b o e hx
      exact ⟨o', (hs.2 b (Nat.ne_of_lt (Nat.lt_of_lt_of_le (Heap.lt_size e) I.ok.above))).trans e1⟩
    · by_cases hj : j = i
      · subst hj
        rw [hi] at e1; cases e1
        rw [List.getElem?_set_self hiσ] at e2
        cases e2
        exact ⟨u, r, .inl ⟨hk, by simp⟩⟩
      · rw [List.getElem?_set_ne (Ne.symm hj)] at e2
        obtain ⟨u', r', q⟩ := hl j y v' e1 e2 e3
        refine ⟨u', r', ?_⟩
        rcases q with ⟨k, e⟩ | ⟨k, c, e, z⟩
        · refine .inl ⟨k, ?_⟩
          have : y ≠ x := fun e => hj (nodup_ix hN e1 (e ▸ hi))
          simp [this, e]
        · exact .inr ⟨k, c, e, z.sameBut hs (cne y c e)⟩
    · obtain ⟨w', z⟩ := I.cell y c e
      exact ⟨w', z.sameBut hs (cne y c e)⟩
    · obtain ⟨e, n, ne, nf, d⟩ := I.pin p hp
      exact ⟨(hs.2 p.1 ne).trans e, n, ne, nf, d⟩
  · have hfn : X.fn x = true := by
      rcases hf with z | z
      · exact z
      · rw [z] at hk; cases hk
    obtain ⟨c, hc⟩ := I.ok.has x (.inl hk)
    obtain ⟨w', z⟩ := I.cell x c hc
    refine wpAny_storeName_cell I.ok.kind hk hc z (fun h' hc' hs => ?_)
    obtain ⟨oc, hoc, hocd⟩ := id z
    refine h { s with heap := h' } ⟨I.ok, I.os, I.bare, ⟨fun b o e n hb hx => ?_, fun b o e n hb hx => ?_, I.base.free, fun b o e hx => ?_, I.base.tups, I.base.frzs, I.base.tbls⟩, ⟨m, hn.sameBut hs (Ne.symm (cne x c hc)), fun j y v' e1 e2 e3 => ?_⟩, fun y c' e => ?_, I.free, I.freeC, fun p hp => ?_, tracked ⟨oc, hoc, I.freeC x c hc⟩ hs, by simpa using I.len⟩ ⟨c, hs, .inr hc⟩
    · exact (hs.2 b (Nat.ne_of_lt (Nat.lt_of_lt_of_le (Heap.lt_size e) (I.ok.cab x c hfn hc)))).trans (I.base.keep b o e n hb hx)
    · obtain ⟨sl, e1⟩ := I.base.slot b o e n hb hx
      exact ⟨sl, (hs.2 b (Nat.ne_of_lt (Nat.lt_of_lt_of_le (Heap.lt_size e) (I.ok.cab x c hfn hc)))).trans e1⟩
    · obtain ⟨o', e1⟩ := I.base.there b o e hx
      exact ⟨o', (hs.2 b (Nat.ne_of_lt (Nat.lt_of_lt_of_le (Heap.lt_size e) (I.ok.cab x c hfn hc)))).trans e1⟩
    · by_cases hj : j = i
      · subst hj
        rw [hi] at e1; cases e1
        rw [List.getElem?_set_self hiσ] at e2
        cases e2
        exact ⟨u, r, .inr ⟨.inl hk, c, hc, hc'⟩⟩
      · rw [List.getElem?_set_ne (Ne.symm hj)] at e2
        obtain ⟨u', r', q⟩ := hl j y v' e1 e2 e3
        refine ⟨u', r', ?_⟩
        rcases q with q | ⟨k, c', e, z'⟩
        · exact .inl q
        · refine .inr ⟨k, c', e, z'.sameBut hs ?_⟩
          rintro rfl
          exact hj (nodup_ix hN e1 (I.ok.inj _ _ _ e hc ▸ hi))
    · by_cases hcc : c' = c
      · subst hcc; exact ⟨_, hc'⟩
      · obtain ⟨w2, z2⟩ := I.cell y c' e
        exact ⟨w2, z2.sameBut hs hcc⟩
    · obtain ⟨e, n, ne, nf, d⟩ := I.pin p hp
      refine ⟨(hs.2 p.1 ?_).trans e, n, ne, nf, d⟩
      intro q
      rw [q, hoc] at e
      have q' : oc = p.2 := Option.some.inj e
      exact d w' (by rw [← q']; exact hocd)
theorem store_ok {M : Model} {A : Around} {E : Value → Shared → Prop} {i : Nat} {x : Str} {v : V} {u : Value} {Q : Unit → Shared → Prop} (I : Inv X pins σ H s) (hN : X.N.Nodup) (hi : X.N[i]? = some x) (hx : Loc X.env.scope x) (r : RelV v u)
    (h : ∀ s', Inv X pins (σ.set i (some v)) H s' → Q () s') (hf : X.fn x = true ∨ X.env.scope.names.lookup x = some .local := by first | exact .inl rfl | exact .inr rfl | assumption) : wpAny M A (storeName X.env x u) Q E s :=
  store_ok2 I hN hi hx r (fun s' I' _ => h s' I') hf
/-- behind a call or a block, the state as it is -/
theorem Inv.call' {s' : Shared} {ch : List Addr} (I : Inv X pins σ H s) (ho : s'.os = s.os) (u : Un (frs X.stack) ch H H' s.heap s'.heap) (hok : HOk X.prog X.w H' s'.heap) (hg : AllBare s'.gens)
    (hch : ∀ b ∈ ch, (b ∈ X.ex ∨ X.s_0.heap.objs.size ≤ b) ∧ b ≠ X.env.locals ∧ (∀ x c, X.env.cells.lookup x = some c → c ≠ b) ∧ ∀ p ∈ X.pn ++ pins, p.1 ≠ b) : Inv X pins σ H' s' := by
  obtain ⟨h', g', d', t', o'⟩ := s'
  have e : o' = s.os := ho
  subst e
  exact I.call (g' := g') (t' := t') (d' := d') u hok hg hch
end

/-! ### the judgements -/
/-- an exception: its class, its own dict's address (where it has one), the abstract heap behind it -/
abbrev XK := Value → Option Addr → Hp → Prop
abbrev St := List (Option V)
abbrev VK := V → Hp → Prop
/-- an expression's reading; a test's; an argument list's -/
abbrev TE := St → Hp → VK → Prop
abbrev TT := St → Hp → (Bool → Hp → Prop) → Prop
abbrev TA := St → Hp → (List V → Hp → Prop) → Prop
/-- what is wanted behind a statement -/
structure Ends where
  nx : St → Hp → Prop
  rt : VK
  bk : St → Hp → Prop := fun _ _ => False
  ct : St → Hp → Prop := fun _ _ => False
abbrev TS := Ends → St → Hp → Prop

def EP (X : Cx) (pins : List (Addr × Obj)) (σ : St) (Q : VK) (u : Value) (s' : Shared) : Prop := ∃ v H', Inv X pins σ H' s' ∧ RelV v u ∧ Q v H'
def TP (X : Cx) (pins : List (Addr × Obj)) (σ : St) (Q : Bool → Hp → Prop) (b : Bool) (s' : Shared) : Prop := ∃ H', Inv X pins σ H' s' ∧ Q b H'
def AP (X : Cx) (pins : List (Addr × Obj)) (σ : St) (Q : List V → Hp → Prop) (us : List Value) (s' : Shared) : Prop := ∃ vs H', Inv X pins σ H' s' ∧ Vals vs us ∧ Q vs H'
def SP (X : Cx) (pins : List (Addr × Obj)) (D : Ends) (f : Flow) (s' : Shared) : Prop :=
  match f with
  | .next => ∃ σ' H', Inv X pins σ' H' s' ∧ D.nx σ' H'
  | .brk => ∃ σ' H', Inv X pins σ' H' s' ∧ D.bk σ' H'
  | .cont => ∃ σ' H', Inv X pins σ' H' s' ∧ D.ct σ' H'
  | .ret u => ∃ v σ' H', Inv X pins σ' H' s' ∧ RelV v u ∧ D.rt v H'

def PE (X : Cx) (e : Expr) (t : TE) : Prop :=
  ∀ (pins : List (Addr × Obj)) (s : Shared) (σ : St) (H : Hp) (Q : VK), Inv X pins σ H s → t σ H Q → wpAny (model X.prog X.w) X.A (eval e X.env) (EP X pins σ Q) X.xe s
def PT (X : Cx) (e : Expr) (t : TT) : Prop :=
  ∀ (pins : List (Addr × Obj)) (s : Shared) (σ : St) (H : Hp) (Q : Bool → Hp → Prop), Inv X pins σ H s → t σ H Q → wpAny (model X.prog X.w) X.A (isTrue e X.env (eval e X.env)) (TP X pins σ Q) X.xe s
/-- a test whatever its 'whole' is (and, or) -/
def PW (X : Cx) (e : Expr) (t : TT) : Prop :=
  ∀ (whole : Sem Value) (pins : List (Addr × Obj)) (s : Shared) (σ : St) (H : Hp) (Q : Bool → Hp → Prop), Inv X pins σ H s → t σ H Q → wpAny (model X.prog X.w) X.A (isTrue e X.env whole) (TP X pins σ Q) X.xe s
theorem PW.pt {X : Cx} {e : Expr} {t : TT} (h : PW X e t) : PT X e t := h _
/-- an argument list (no star), from the left -/
def PA (X : Cx) (es : List Expr) (t : TA) : Prop :=
  ∀ (pos : Pos) (pins : List (Addr × Obj)) (s : Shared) (σ : St) (H : Hp) (Q : List V → Hp → Prop), Inv X pins σ H s → t σ H Q → wpAny (model X.prog X.w) X.A (spliced (backTo pos (starEach es X.env))) (AP X pins σ Q) X.xe s
def PS (X : Cx) (st : Stmt) (t : TS) : Prop :=
  ∀ (pins : List (Addr × Obj)) (s : Shared) (σ : St) (H : Hp) (D : Ends), Inv X pins σ H s → t D σ H → wpAny (model X.prog X.w) X.A (exec st X.env) (SP X pins D) X.xe s
def PSs (X : Cx) (st : List Stmt) (t : TS) : Prop :=
  ∀ (pins : List (Addr × Obj)) (s : Shared) (σ : St) (H : Hp) (D : Ends), Inv X pins σ H s → t D σ H → wpAny (model X.prog X.w) X.A (execs st X.env) (SP X pins D) X.xe s
/-- weaken the end -/
theorem thn {α : Type} {t : Sem α} {Q Q' : α → Shared → Prop} {M : Model} {A : Around} {E : Value → Shared → Prop} {s : Shared} (h : wpAny M A t Q E s) (hQ : ∀ a s, Q a s → Q' a s) : wpAny M A t Q' E s := wpAny_mono h hQ fun _ _ x => x
end L2

namespace L2
open PySem PySem.Spec PyProof.Rows
section
variable {X : Cx}

/-! ### names and constants -/
def tVar (i : Nat) : TE := fun σ H Q => ∃ v, σ[i]? = some (some v) ∧ Q v H
def tC (v : V) : TE := fun _ H Q => Q v H
theorem pe_var {i : Nat} {x : Str} {pos : Pos} (hN : X.N[i]? = some x) (hv : Vis X.env.scope x) (hd : (x == ("__debug__" : Str)) = false := by decide) (hcd : (x == ("__classdict__" : Str)) = false := by decide) : PE X (.Name x pos) (tVar i) := by
  intro pins s σ H Q I h
  obtain ⟨v, e, h⟩ := h
  obtain ⟨m, hn, hl⟩ := I.loc
  obtain ⟨u, r, l⟩ := hl i x v hN e hv
  have fin : EP X pins σ Q u s := ⟨v, H, I, r, h⟩
  rcases l with ⟨hk, hm⟩ | ⟨hk, c, hc, hcell⟩
  · exact wpAny_Name (wpAny_loadName_local I.ok.kind hk hn hm fin) hd
  · rcases hk with hk | hk
    · exact wpAny_Name (wpAny_loadName_cell I.ok.kind hk hc hcell fin) hd
    · exact wpAny_Name (wpAny_loadName_free I.ok.kind hk hc hcell fin hcd) hd
theorem pe_int {i j pos} : PE X (.Constant (.int i) j pos) (tC (.int i)) := fun _ _ _ H _ I h => wpAny_Constant_int ⟨.int i, H, I.tok _, ⟨_, rfl⟩, h⟩
theorem pe_bl {b j pos} : PE X (.Constant (.bool b) j pos) (tC (.bl b)) := fun _ _ _ H _ I h => Constant_bool ⟨.bl b, H, I, rfl, h⟩
theorem pe_non {j pos} : PE X (.Constant .none j pos) (tC .non) := fun _ _ _ H _ I h => Constant_none ⟨.non, H, I, rfl, h⟩
/-- a global name of the def -/
def Gl (X : Cx) (x : Str) : Prop := X.env.kindOf x = some .globalImplicit
theorem ld_glob {E : Value → Shared → Prop} {pins : List (Addr × Obj)} {s : Shared} {σ : St} {H : Hp} {x : Str} {u : Value} {pos : Pos} {Q : Value → Shared → Prop} (I : Inv X pins σ H s) (hg : Gl X x) (hm : X.mg x = some u) (h : Q u s)
    (hd : (x == ("__debug__" : Str)) = false := by decide) : wpAny (model X.prog X.w) X.A (eval (.Name x pos) X.env) Q E s :=
  Calls.Name_function_global I.ok.kind hg (Calls.loadGlobal_global (by rw [I.ok.glob]; exact I.mod.glob.keeps I.bk) hm h) hd
theorem ld_blt {E : Value → Shared → Prop} {pins : List (Addr × Obj)} {s : Shared} {σ : St} {H : Hp} {x : Str} {u : Value} {pos : Pos} {Q : Value → Shared → Prop} (I : Inv X pins σ H s) (hg : Gl X x) (hm : X.mg x = none) (hv : bootBuiltins x = some u) (h : Q u s)
    (hn : x ≠ "__name__" := by decide) (hd : (x == ("__debug__" : Str)) = false := by decide) : wpAny (model X.prog X.w) X.A (eval (.Name x pos) X.env) Q E s := by
  obtain ⟨mb, h1, h2⟩ := I.mod.blt
  exact Calls.Name_function_global I.ok.kind hg (Calls.loadGlobal_builtin (by rw [I.ok.glob]; exact I.mod.glob.keeps I.bk) hm (by rw [I.ok.blt]; exact h1.keeps I.bk) ((h2 x hn).trans hv) h) hd
theorem pe_bltn {x : Str} {v : V} {u : Value} {pos : Pos} (hg : Gl X x) (hm : X.mg x = none) (hv : bootBuiltins x = some u) (r : RelV v u) (hn : x ≠ "__name__" := by decide) (hd : (x == ("__debug__" : Str)) = false := by decide) : PE X (.Name x pos) (tC v) :=
  fun _ _ _ H _ I h => ld_blt I hg hm hv ⟨v, H, I, r, h⟩ hn hd

/-! ### arithmetic -/
variable {a b : Expr} {ta tb : TE} {pos : Pos}
/-! ### comparisons -/
/-- a comparison as a value, as a test -/
def tB (t : TE) : TT := fun σ H Q => t σ H fun x H1 => ∃ c, x = .bl c ∧ Q c H1
/-- an expression whose value is a bool, as a test -/
theorem pt_val {e : Expr} {t : TE} (h : PE X e t) (he : ∀ whole, isTrue e X.env whole = (do let v ← whole; standAt e.pos; holding [v] (truthy v)) := by intro _; rfl) : PT X e (tB t) := by
  intro pins s σ H Q I hw
  refine isTrue_plain (thn (h pins s σ H _ I hw) fun v s1 ⟨x, H1, I1, r1, q1⟩ => ?_) (he _)
  obtain ⟨d, rfl, q⟩ := q1
  cases r1
  exact wpAny_truthy_bool ⟨H1, I1, q⟩

/-! ### and, or, not -/
variable {tA tB' : TT} {rest : List Expr}
def tAnd (t u : TT) : TT := fun σ H Q => t σ H fun c H1 => if c = true then u σ H1 Q else Q false H1
def tOr (t u : TT) : TT := fun σ H Q => t σ H fun c H1 => if c = true then Q true H1 else u σ H1 Q
def tNot (t : TT) : TT := fun σ H Q => t σ H fun c H1 => Q (!c) H1
theorem pw_and1 (ha : PT X a tA) : PW X (.BoolOp .And [a] pos) tA := by
  intro wh pins s σ H Q I h
  refine isTrue_and (thn (ha pins s σ H Q I h) fun c s1 e => ?_)
  cases c with
  | true => exact isTrue_and_nil e
  | false => exact e
theorem pw_or1 (ha : PT X a tA) : PW X (.BoolOp .Or [a] pos) tA := by
  intro wh pins s σ H Q I h
  refine isTrue_or (thn (ha pins s σ H Q I h) fun c s1 e => ?_)
  cases c with
  | false => exact isTrue_or_nil e
  | true => exact e
theorem pw_and (ha : PT X a tA) (hb : PW X (.BoolOp .And (b :: rest) pos) tB') : PW X (.BoolOp .And (a :: b :: rest) pos) (tAnd tA tB') := by
  intro wh pins s σ H Q I h
  refine isTrue_and (thn (ha pins s σ H _ I h) fun c s1 ⟨H1, I1, q1⟩ => ?_)
  cases c with
  | true => exact hb wh pins s1 σ H1 Q I1 q1
  | false => exact ⟨H1, I1, q1⟩
theorem pw_or (ha : PT X a tA) (hb : PW X (.BoolOp .Or (b :: rest) pos) tB') : PW X (.BoolOp .Or (a :: b :: rest) pos) (tOr tA tB') := by
  intro wh pins s σ H Q I h
  refine isTrue_or (thn (ha pins s σ H _ I h) fun c s1 ⟨H1, I1, q1⟩ => ?_)
  cases c with
  | true => exact ⟨H1, I1, q1⟩
  | false => exact hb wh pins s1 σ H1 Q I1 q1
theorem pt_not (ha : PT X a tA) : PT X (.UnaryOp .Not a pos) (tNot tA) := by
  intro pins s σ H Q I h
  exact isTrue_not (ha pins s σ H (fun c H1 => Q (!c) H1) I h)
/-- .. as values (bools) -/
def tAndV (ta tb : TE) : TE := fun σ H Q => ta σ H fun x H1 => ∃ c, x = .bl c ∧ if c = true then tb σ H1 Q else Q (.bl false) H1
def tOrV (ta tb : TE) : TE := fun σ H Q => ta σ H fun x H1 => ∃ c, x = .bl c ∧ if c = true then Q (.bl true) H1 else tb σ H1 Q
def tNotV (ta : TE) : TE := fun σ H Q => ta σ H fun x H1 => ∃ c, x = .bl c ∧ Q (.bl (!c)) H1
theorem pe_one {op} {t : TE} (h : PE X a t) : PE X (.BoolOp op [a] pos) t := fun pins s σ H Q I hw => BoolOp_one (h pins s σ H Q I hw)
theorem pe_and (ha : PE X a ta) (hb : PE X (.BoolOp .And (b :: rest) pos) tb) : PE X (.BoolOp .And (a :: b :: rest) pos) (tAndV ta tb) := by
  intro pins s σ H Q I h
  refine BoolOp_and (thn (ha pins s σ H _ I h) fun v s1 ⟨x, H1, I1, r1, q1⟩ => ?_)
  obtain ⟨c, rfl, q1⟩ := q1
  cases r1
  refine wpAny_truthy_bool ?_
  cases c with
  | true => exact hb pins s1 σ H1 Q I1 q1
  | false => exact ⟨.bl false, H1, I1, rfl, q1⟩
theorem pe_not (ha : PE X a ta) : PE X (.UnaryOp .Not a pos) (tNotV ta) := by
  intro pins s σ H Q I h
  refine UnaryOp_ (thn (ha pins s σ H _ I h) fun v s1 ⟨x, H1, I1, r1, q1⟩ => ?_)
  obtain ⟨c, rfl, q1⟩ := q1
  cases r1
  exact not_of (wpAny_truthy_bool ⟨.bl (!c), H1, I1, rfl, q1⟩)
/-- a if t else b -/
def tIf (t : TT) (ta tb : TE) : TE := fun σ H Q => t σ H fun c H1 => if c = true then ta σ H1 Q else tb σ H1 Q
theorem pe_ifExp {c : Expr} (hc : PT X c tA) (ha : PE X a ta) (hb : PE X b tb) : PE X (.IfExp c a b pos) (tIf tA ta tb) := by
  intro pins s σ H Q I h
  refine wpAny_IfExp (thn (hc pins s σ H _ I h) fun d s1 ⟨H1, I1, q1⟩ => ?_)
  cases d with
  | true => exact ha pins s1 σ H1 Q I1 q1
  | false => exact hb pins s1 σ H1 Q I1 q1
end
end L2

namespace L2
open PySem PySem.Spec PyProof.Rows

/-! ### a list, a tuple that is read: tracked, frozen, or an object of the module -/
def SqL (K : PySem.W.Frag) (H : Hp) (a : Addr) (xs : List V) : Prop :=
  Rd H a (.lst xs) ∨
    ∃ (o : Obj) (its : Array Value) (n : Nat), K.lookup a = some o ∧ o.cls = .type "list" ∧ o.dict = none ∧ o.data = .seq its n ∧ its.size ≤ sizeLine ∧ Vals xs its.toList
def SqT (K : PySem.W.Frag) (H : Hp) (a : Addr) (xs : List V) : Prop :=
  Rd H a (.tup xs) ∨
    ∃ (o : Obj) (its : Array Value) (n : Nat), K.lookup a = some o ∧ o.cls = .type "tuple" ∧ o.data = .seq its n ∧ its.size ≤ sizeLine ∧ Vals xs its.toList
def absV : Value → Option V
  | .none => some .non
  | .bool b => some (.bl b)
  | .int i _ => some (.int i)
  | .str x _ => some (.str x)
  | .bytes b _ => some (.byt b)
  | .float b _ => some (.flt b)
  | .ref a => some (.ref a)
  | .type n => some (.ty n)
  | _ => none
theorem RelV.abs {x : V} {u : Value} (r : RelV x u) : absV u = some x := by
  cases x with
  | non => cases r; rfl
  | bl _ => cases r; rfl
  | int _ => obtain ⟨t, rfl⟩ := r; rfl
  | str _ => obtain ⟨t, rfl⟩ := r; rfl
  | byt _ => obtain ⟨t, rfl⟩ := r; rfl
  | flt _ => obtain ⟨t, rfl⟩ := r; rfl
  | ref _ => cases r; rfl
  | ty _ => cases r; rfl
theorem RelV.inj {x y : V} {u : Value} (r : RelV x u) (q : RelV y u) : x = y := Option.some.inj (r.abs.symm.trans q.abs)
theorem Vals.inj : ∀ {xs ys : List V} {us : List Value}, Vals xs us → Vals ys us → xs = ys
  | _, _, _, .nil, .nil => rfl
  | _, _, _, .cons r t, .cons r' t' => by rw [r.inj r', Vals.inj t t']
section
variable {X : Cx} {pins : List (Addr × Obj)} {σ : St} {H : Hp} {s : Shared} {a : Addr} {xs ys : List V}
theorem SqL.of {K : PySem.W.Frag} (h : H a = some (.lst xs)) : SqL K H a xs := .inl (.inl h)
theorem SqT.of {K : PySem.W.Frag} (h : H a = some (.tup xs)) : SqT K H a xs := .inl (.inl h)
theorem Inv.list (I : Inv X pins σ H s) (h : SqL X.K H a xs) : ∃ its : List Value, Vals xs its ∧ PlainL s.heap a its.toArray ∧ xs.length ≤ sizeLine := by
  rcases h with h | ⟨o, its, n, hk, hc, hd, hs, hz, r⟩
  · obtain ⟨z, its, n, r, e⟩ := h.ok I.hok
    exact ⟨its, r, ⟨_, n, e, rfl, rfl, rfl⟩, z⟩
  · refine ⟨its.toList, r, ⟨o, n, I.kIn a o hk, hc, hd, by simpa using hs⟩, ?_⟩
    have e := r.length
    simp only [Array.length_toList] at e
    omega
theorem Inv.tuple (I : Inv X pins σ H s) (h : SqT X.K H a xs) : ∃ its : List Value, Vals xs its ∧ IsTup s.heap a its.toArray ∧ xs.length ≤ sizeLine := by
  rcases h with h | ⟨o, its, n, hk, hc, hs, hz, r⟩
  · obtain ⟨z, its, r, p⟩ := h.ok I.hok
    exact ⟨its, r, p, z⟩
  · refine ⟨its.toList, r, ⟨o, I.kIn a o hk, hc, n, by simpa using hs⟩, ?_⟩
    have e := r.length
    simp only [Array.length_toList] at e
    omega
theorem Inv.list_inj (I : Inv X pins σ H s) (h : SqL X.K H a xs) (h' : SqL X.K H a ys) : xs = ys := by
  obtain ⟨its, r, ⟨o, n, e, _, _, d⟩, _⟩ := I.list h
  obtain ⟨its', r', ⟨o', n', e', _, _, d'⟩, _⟩ := I.list h'
  rw [e] at e'; cases e'
  rw [d] at d'
  injection d' with d1 _
  have : its = its' := by simpa using congrArg Array.toList d1
  subst this
  exact r.inj r'
theorem Inv.tuple_inj (I : Inv X pins σ H s) (h : SqT X.K H a xs) (h' : SqT X.K H a ys) : xs = ys := by
  obtain ⟨its, r, ⟨o, e, _, n, d⟩, _⟩ := I.tuple h
  obtain ⟨its', r', ⟨o', e', _, n', d'⟩, _⟩ := I.tuple h'
  rw [e] at e'; cases e'
  rw [d] at d'
  injection d' with d1 _
  have : its = its' := by simpa using congrArg Array.toList d1
  subst this
  exact r.inj r'
end

/-! ### another wish about exceptions -/
abbrev Cx.wish (X : Cx) (E : Value → Shared → Prop) : Cx := { X with xe := E }
/-- no exception leaves -/
abbrev Cx.nox (X : Cx) : Cx := X.wish fun _ _ => False
theorem Cx.Ok.wish {X : Cx} (ok : X.Ok) (E : Value → Shared → Prop) : (X.wish E).Ok :=
  ⟨ok.mod, ok.kind, ok.glob, ok.blt, ok.above, ok.inj, ok.has, ok.cab, ok.hd, ok.frames, ok.stk, ok.exf, ok.bs, ok.bsz, ok.noex, ok.exfs, ok.funs, ok.frf⟩
theorem Cx.Ok.unwish {X : Cx} {E : Value → Shared → Prop} (ok : (X.wish E).Ok) : X.Ok :=
  ⟨ok.mod, ok.kind, ok.glob, ok.blt, ok.above, ok.inj, ok.has, ok.cab, ok.hd, ok.frames, ok.stk, ok.exf, ok.bs, ok.bsz, ok.noex, ok.exfs, ok.funs, ok.frf⟩
section
variable {X : Cx} {pins : List (Addr × Obj)} {σ : St} {H : Hp} {s : Shared} {E : Value → Shared → Prop}
theorem Inv.wish (I : Inv X pins σ H s) (E : Value → Shared → Prop) : Inv (X.wish E) pins σ H s := ⟨I.ok.wish E, I.os, I.bare, I.base, I.loc, I.cell, I.free, I.freeC, I.pin, I.hok, I.len⟩
theorem Inv.unwish (I : Inv (X.wish E) pins σ H s) : Inv X pins σ H s := ⟨I.ok.unwish, I.os, I.bare, I.base, I.loc, I.cell, I.free, I.freeC, I.pin, I.hok, I.len⟩
theorem SP.unwish {D : Ends} {f : Flow} {s' : Shared} (h : SP (X.wish E) pins D f s') : SP X pins D f s' := by
  cases f with
  | next => obtain ⟨σ', H', I, q⟩ := h; exact ⟨σ', H', I.unwish, q⟩
  | brk => obtain ⟨σ', H', I, q⟩ := h; exact ⟨σ', H', I.unwish, q⟩
  | cont => obtain ⟨σ', H', I, q⟩ := h; exact ⟨σ', H', I.unwish, q⟩
  | ret u => obtain ⟨v, σ', H', I, r, q⟩ := h; exact ⟨v, σ', H', I.unwish, r, q⟩
theorem PE.nox {e : Expr} {t : TE} (h : PE X.nox e t) : PE X e t := fun pins s σ H Q I hw =>
  wpAny_mono (h pins s σ H Q (I.wish _) hw) (fun _ _ ⟨v, H', I', r, q⟩ => ⟨v, H', I'.unwish, r, q⟩) fun _ _ z => False.elim z
theorem PT.nox {e : Expr} {t : TT} (h : PT X.nox e t) : PT X e t := fun pins s σ H Q I hw =>
  wpAny_mono (h pins s σ H Q (I.wish _) hw) (fun _ _ ⟨H', I', q⟩ => ⟨H', I'.unwish, q⟩) fun _ _ z => False.elim z
theorem PSs.nox {st : List Stmt} {t : TS} (h : PSs X.nox st t) : PSs X st t := fun pins s σ H D I hw =>
  wpAny_mono (h pins s σ H D (I.wish _) hw) (fun _ _ q => q.unwish) fun _ _ z => False.elim z
end

/-! ### blocks and small statements -/
section
variable {X : Cx} {st : Stmt} {rest : List Stmt} {t u : TS} {e : Expr} {te : TE} {pos : Pos}
def tNext : TS := fun D σ H => D.nx σ H
def tSeq (t u : TS) : TS := fun D σ H => t { D with nx := u D } σ H
theorem pss_nil : PSs X [] tNext := fun _ _ σ H _ I h => wpAny_execs_nil ⟨σ, H, I, h⟩
theorem pss_cons (h1 : PS X st t) (h2 : PSs X rest u) : PSs X (st :: rest) (tSeq t u) := by
  intro pins s σ H D I h
  refine wpAny_execs_cons (thn (h1 pins s σ H { D with nx := u D } I h) fun f s1 q => ?_)
  cases f with
  | next =>
    obtain ⟨σ', H', I', q⟩ := q
    exact h2 pins s1 σ' H' D I' q
  | ret v => exact q
  | brk => exact q
  | cont => exact q
theorem pss_one (h1 : PS X st t) : PSs X [st] t := by
  intro pins s σ H D I h
  refine wpAny_execs_cons (thn (h1 pins s σ H D I h) fun f s1 q => ?_)
  cases f with
  | next => exact wpAny_execs_nil q
  | ret v => exact q
  | brk => exact q
  | cont => exact q
def tCont : TS := fun D σ H => D.ct σ H
/-- in a def's body nothing is shown -/
theorem Inv.quiet {pins : List (Addr × Obj)} {σ : St} {H : Hp} {s : Shared} (I : Inv X pins σ H s) : interactive X.env = false := by simp [interactive, I.ok.kind]
/-- an expression whose value is dropped -/
def tDrop (te : TE) : TS := fun D σ H => te σ H fun _ H1 => D.nx σ H1
theorem ps_expr (he : PE X e te) (hs : swapsWith e none pos.line X.env = pure false := by rfl) : PS X (.Expr e pos) (tDrop te) := by
  intro pins s σ H D I h
  exact wpAny_Expr_any (thn (he pins s σ H _ I h) fun v s1 ⟨x, H1, I1, r1, q1⟩ => ⟨σ, H1, I1, q1⟩) I.quiet hs
def tRet (te : TE) : TS := fun D σ H => te σ H D.rt
theorem ps_ret (he : PE X e te) : PS X (.Return (some e) pos) (tRet te) := by
  intro pins s σ H D I h
  exact wpAny_Return_some (thn (he pins s σ H _ I h) fun v s1 ⟨x, H1, I1, r1, q1⟩ => ⟨x, σ, H1, I1, r1, q1⟩)
def tRetN : TS := fun D _ H => D.rt .non H
def tIfS (c : TT) (t u : TS) : TS := fun D σ H => c σ H fun b H1 => if b = true then t D σ H1 else u D σ H1
theorem ps_if {c : Expr} {a b : List Stmt} {tc : TT} (hc : PT X c tc) (ha : PSs X a t) (hb : PSs X b u) : PS X (.If c a b pos) (tIfS tc t u) := by
  intro pins s σ H D I h
  refine wpAny_If (thn (hc pins s σ H _ I h) fun d s1 ⟨H1, I1, q1⟩ => ?_)
  cases d with
  | true => exact ha pins s1 σ H1 D I1 q1
  | false => exact hb pins s1 σ H1 D I1 q1
end

/-! ### targets -/
abbrev TG := V → St → Hp → (St → Hp → Prop) → Prop
abbrev TGs := List V → St → Hp → (St → Hp → Prop) → Prop
def PG (X : Cx) (target : Expr) (t : TG) : Prop :=
  ∀ (pins : List (Addr × Obj)) (s : Shared) (σ : St) (H : Hp) (v : V) (u : Value) (Q : St → Hp → Prop), Inv X pins σ H s → RelV v u → t v σ H Q →
    wpAny (model X.prog X.w) X.A (assign target X.env u) (fun _ s' => ∃ σ' H', Inv X pins σ' H' s' ∧ Q σ' H') X.xe s
/-- several targets, one after another -/
def PGs (X : Cx) (ts : List Expr) (t : TGs) : Prop :=
  ∀ (pins : List (Addr × Obj)) (s : Shared) (σ : St) (H : Hp) (vs : List V) (us : List Value) (Q : St → Hp → Prop), Inv X pins σ H s → Vals vs us → t vs σ H Q →
    wpAny (model X.prog X.w) X.A (assignInOrder ((assignEach ts X.env).map (·.2)) us) (fun _ s' => ∃ σ' H', Inv X pins σ' H' s' ∧ Q σ' H') X.xe s
/-- o[i] = v, by values -/
abbrev TSet := V → V → V → Hp → (Hp → Prop) → Prop
def PSet (X : Cx) (t : TSet) : Prop :=
  ∀ (pins : List (Addr × Obj)) (s : Shared) (σ : St) (H : Hp) (o i v : V) (ov iv u : Value) (Q : Hp → Prop), Inv X pins σ H s → RelV o ov → RelV i iv → RelV v u → t o i v H Q →
    wpAny (model X.prog X.w) X.A (setItem ov iv u) (fun _ s' => ∃ H', Inv X pins σ H' s' ∧ Q H') X.xe s
/-- a op= b, by values -/
abbrev TIp := V → V → Hp → VK → Prop
section
variable {X : Cx} {pos : Pos}
def gName (i : Nat) : TG := fun v σ H Q => Q (σ.set i (some v)) H
theorem pg_name {i : Nat} {x : Str} (hN : X.N.Nodup) (hi : X.N[i]? = some x) (hx : Loc X.env.scope x) (hf : X.fn x = true ∨ X.env.scope.names.lookup x = some .local := by first | exact .inl rfl | exact .inr rfl | assumption) : PG X (.Name x pos) (gName i) := by
  intro pins s σ H v u Q I r h
  exact wpAny_assign_Name (store_ok I hN hi hx r (fun s' I' => ⟨_, H, I', h⟩) hf)
def gNil : TGs := fun vs σ H Q => vs = [] ∧ Q σ H
def gCons (t : TG) (u : TGs) : TGs := fun vs σ H Q => ∃ v r, vs = v :: r ∧ t v σ H fun σ' H' => u r σ' H' Q
theorem pgs_nil : PGs X [] gNil := by
  intro pins s σ H vs us Q I r h
  obtain ⟨e, h⟩ := h
  subst e
  cases r
  exact assignInOrder_nil ⟨σ, H, I, h⟩
theorem pgs_cons {e : Expr} {es : List Expr} {t : TG} {u : TGs} (h1 : PG X e t) (h2 : PGs X es u)
    (hs : (assignEach (e :: es) X.env).map (·.2) = assign e X.env :: (assignEach es X.env).map (·.2) := by rfl) : PGs X (e :: es) (gCons t u) := by
  intro pins s σ H vs us Q I r h
  obtain ⟨v, vr, e1, h⟩ := h
  subst e1
  cases r with
  | cons r rr =>
    rw [hs]
    refine assignInOrder_cons (thn (h1 pins s σ H _ _ _ I r h) fun _ s1 ⟨σ1, H1, I1, q1⟩ => ?_)
    exact h2 pins s1 σ1 H1 _ _ Q I1 rr q1
/-- (a, b, ..) = a tuple of that length -/
def gTup (K : PySem.W.Frag) (n : Nat) (t : TGs) : TG := fun v σ H Q => ∃ a xs, v = .ref a ∧ SqT K H a xs ∧ xs.length = n ∧ t xs σ H Q
theorem pg_tup {es : List Expr} {k : Nat} {t : TGs} {n : Nat} (hc : X.calm = true) (h : PGs X es t)
    (hn : (assignEach es X.env).length = n := by rfl) (hst : (assignEach es X.env).findIdx? (·.1) = none := by rfl) : PG X (.Tuple es k pos) (gTup X.K n t) := by
  intro pins s σ H v u Q I r hw
  obtain ⟨a, xs, e1, hq, hl, hw⟩ := hw
  subst e1
  cases r
  obtain ⟨its, rv, ht, hz⟩ := I.tuple hq
  refine assign_Tuple_tuple (I.ok.hd hc) ht (by simp [hn, ← hl, rv.length]) hst fun h' hx => ?_
  have I1 : Inv X pins σ H { s with heap := h' } := I.kept (t' := s.toks) fun b o e => hx b o (Nat.ne_of_lt (Heap.lt_size e)) e
  exact h pins _ σ H xs _ Q I1 (by simpa using rv) hw
/-- o[i] = .. -/
def gSub (to ti : TE) (t : TSet) : TG := fun v σ H Q => to σ H fun o H1 => ti σ H1 fun i H2 => t o i v H2 fun H3 => Q σ H3
theorem pg_sub {o i : Expr} {to ti : TE} {t : TSet} (ho : PE X o to) (hi : PE X i ti) (hs : PSet X t)
    (ha : ∀ v, assign (.Subscript o i pos) X.env v = (do
      let ov ← holding [v] (eval o X.env)
      let iv ← holding [v, ov] (eval i X.env)
      standAt pos
      holding [v, ov, iv] (setItem ov iv v)
      release [v, ov, iv] []) := by intro _; rfl) : PG X (.Subscript o i pos) (gSub to ti t) := by
  intro pins s σ H v u Q I r h
  rw [ha]
  refine wpAny_bind (wpAny_holding (thn (ho pins s σ H _ I h) fun ov s1 ⟨x, H1, I1, r1, q1⟩ => ?_))
  refine wpAny_bind (wpAny_holding (thn (hi pins s1 σ H1 _ I1 q1) fun iv s2 ⟨y, H2, I2, r2, q2⟩ => ?_))
  refine wpAny_bind (wpAny_standAt (wpAny_bind (wpAny_holding (thn (hs pins s2 σ H2 x y v ov iv u _ I2 r1 r2 r q2) fun _ s3 ⟨H3, I3, q3⟩ => ?_))))
  exact wpAny_release ⟨σ, H3, I3, q3⟩
/-- target = value -/
def tAsg (te : TE) (g : TG) : TS := fun D σ H => te σ H fun x H1 => g x σ H1 D.nx
theorem ps_asg {tg e : Expr} {te : TE} {g : TG} (he : PE X e te) (hg : PG X tg g) (hs : swapsWithSole [tg] e pos.line X.env = pure false := by rfl) (hw : swappedStores [tg] e X.env = pure none := by rfl)
    (h1 : (assignEach [tg] X.env).map (·.2) = [assign tg X.env] := by rfl) : PS X (.Assign [tg] e pos) (tAsg te g) := by
  intro pins s σ H D I h
  refine wpAny_Assign_stores (thn (he pins s σ H _ I h) fun v s1 ⟨x, H1, I1, r1, q1⟩ => ?_) hs hw
  rw [h1]
  exact thn (hg pins s1 σ H1 x v _ I1 r1 q1) fun _ s2 q => q
/-- name = value -/
theorem ps_set {i : Nat} {x : Str} {e : Expr} {te : TE} {pos' : Pos} (hN : X.N.Nodup) (hi : X.N[i]? = some x) (hx : Loc X.env.scope x) (he : PE X e te) (hs : swapsWith e (some (.Name x pos')) pos.line X.env = pure false := by rfl) (hf : X.fn x = true ∨ X.env.scope.names.lookup x = some .local := by first | exact .inl rfl | exact .inr rfl | assumption) :
    PS X (.Assign [.Name x pos'] e pos) (tAsg te (gName i)) := by
  intro pins s σ H D I h
  refine wpAny_Assign_Name (thn (he pins s σ H _ I h) fun v s1 ⟨y, H1, I1, r1, q1⟩ => ?_) hs
  exact store_ok I1 hN hi hx r1 (fun s2 I2 => ⟨_, H1, I2, q1⟩) hf
/-- a, b = x, y with plain local names: stored from the right; the pair itself is not tracked (the opening rows as in PyProof/Rows/TupAssign.lean:23) -/
def tPar (i j : Nat) (ta : TA) : TS := fun D σ H => ta σ H fun vs H1 => ∃ v w, vs = [v, w] ∧ D.nx ((σ.set i (some v)).set j (some w)) H1
theorem ps_par {i j : Nat} {x y : Str} {a b : Expr} {ta : TA} {px py pt : Pos} {kt k2 pt2} (hc : X.calm = true) (hN : X.N.Nodup) (hi : X.N[i]? = some x) (hj : X.N[j]? = some y) (hij : i ≠ j)
    (hx : X.env.scope.names.lookup x = some .local) (hy : X.env.scope.names.lookup y = some .local) (ha : PA X [a, b] ta)
    (hw : swappedStores [.Tuple [.Name x px, .Name y py] kt pt] (.Tuple [a, b] k2 pt2) X.env = pure (some [x, y]))
    (hs : swapsWithSole [.Tuple [.Name x px, .Name y py] kt pt] (.Tuple [a, b] k2 pt2) pos.line X.env = pure false := by rfl) :
    PS X (.Assign [.Tuple [.Name x px, .Name y py] kt pt] (.Tuple [a, b] k2 pt2) pos) (tPar i j ta) := by
  intro pins s σ H D I h
  rw [exec_Assign_arm]
  refine wpAny_bind (wpAny_standAt ?_)
  rw [hs]
  refine wpAny_bind (wpAny_pure ?_)
  rw [if_neg (by decide)]
  refine wpAny_bind (Tuple_ (thn (ha _ pins s σ H _ I h) fun us s1 ⟨vs, H1, I1, r1, q1⟩ => ?_))
  obtain ⟨v, w, e1, q1⟩ := q1
  subst e1
  obtain ⟨u1, u2, rfl, rv, rw'⟩ : ∃ u1 u2, us = [u1, u2] ∧ RelV v u1 ∧ RelV w u2 := by
    cases r1 with
    | cons p q =>
      cases q with
      | cons p' q' =>
        cases q'
        exact ⟨_, _, rfl, p, p'⟩
  refine wpAny_newObj_type ?_ (by show 2 ≤ sizeLine; decide)
  have I2 : Inv X pins σ H1 { s1 with heap := s1.heap.push { cls := .type "tuple", data := .seq [u1, u2].toArray } } := I1.kept (t' := s1.toks) fun b o e => Heap.get?_push_of_some _ e
  rw [hw]
  refine wpAny_bind (wpAny_pure ?_)
  show wpAny (model X.prog X.w) X.A (do rule "assign.swapped-stores"; let items ← unpackItems (.ref s1.heap.objs.size) 2 none; assignInOrder [fun v => bindName X.env y v, fun v => bindName X.env x v] items.reverse; pure Flow.next) _ _ _
  refine wpAny_bind (wpAny_rule (wpAny_bind (unpackItems_tuple (items := #[u1, u2]) (I.ok.hd hc) (IsTup.new s1.heap _) fun h' hx' => ?_)))
  have I3 := I2.kept (h' := h') (t' := s1.toks) fun b o e => hx' b o (Nat.ne_of_lt (Heap.lt_size e)) e
  show wpAny _ _ (assignInOrder [fun v => bindName X.env y v, fun v => bindName X.env x v] [u2, u1] >>= fun _ => pure Flow.next) _ _ _
  refine wpAny_bind (assignInOrder_cons (wpAny_bindName (store_ok I3 hN hj (.inl hy) rw' (fun s2 I4 => ?_) (.inr hy))))
  refine assignInOrder_cons (wpAny_bindName (store_ok I4 hN hi (.inl hx) rv (fun s3 I5 => assignInOrder_nil (wpAny_pure ?_)) (.inr hx)))
  rw [List.set_comm _ _ (Ne.symm hij)] at I5
  exact ⟨_, H1, I5, q1⟩
/-- name op= e -/
def tAug (i : Nat) (te : TE) (ti : TIp) : TS := fun D σ H => ∃ x, σ[i]? = some (some x) ∧ te σ H fun y H1 => ti x y H1 fun z H2 => D.nx (σ.set i (some z)) H2
end

/-! ### while -/
section
variable {X : Cx} {pos : Pos}
/-- the invariant W with its measure -/
def tWhile (c : TT) (tb : TS) : TS := fun D σ H => ∃ W : Nat → St → Hp → Prop, (∃ m, W m σ H) ∧ ∀ m σ H, W m σ H →
  c σ H fun b H1 => if b = true then ∃ N : St → Hp → Prop, (∀ σ' H', N σ' H' → ∃ m', m' < m ∧ W m' σ' H') ∧ tb { D with nx := N, ct := N, bk := D.nx } σ H1 else D.nx σ H1
theorem ps_while {c : Expr} {body : List Stmt} {tc : TT} {tb : TS} (hp : PassesOwn (model X.prog X.w) X.A X.env X.xe) (hc : PT X c tc) (hb : PSs X body tb) : PS X (.While c body [] pos) (tWhile tc tb) := by
  intro pins s σ H D I h
  obtain ⟨W, ⟨m0, w0⟩, turn⟩ := h
  refine wpAny_While (codeAny_whileLoop (fun n s' => ∃ σ' H', Inv X pins σ' H' s' ∧ W n σ' H') ?_ m0 ⟨σ, H, I, w0⟩)
  rintro n s1 ⟨σ1, H1, I1, w1⟩
  refine wpAny_passesOwn hp (thn (hc pins s1 σ1 H1 _ I1 (turn n σ1 H1 w1)) fun b s2 ⟨H2, I2, q2⟩ => ?_)
  cases b with
  | true =>
    obtain ⟨N, hN, q2⟩ := q2
    rw [if_pos rfl]
    refine wpAny_passesOwn hp (thn (hb pins s2 σ1 H2 _ I2 q2) fun f s3 q3 => ?_)
    cases f with
    | next =>
      obtain ⟨σ3, H3, I3, n3⟩ := q3
      obtain ⟨m', hm, w3⟩ := hN σ3 H3 n3
      exact ⟨m', hm, σ3, H3, I3, w3⟩
    | cont =>
      obtain ⟨σ3, H3, I3, n3⟩ := q3
      obtain ⟨m', hm, w3⟩ := hN σ3 H3 n3
      exact ⟨m', hm, σ3, H3, I3, w3⟩
    | brk => exact q3
    | ret v => exact q3
  | false =>
    rw [if_neg Bool.false_ne_true]
    exact wpAny_execs_nil ⟨σ1, H2, I2, q2⟩
end

/-! ### what a loop or a comprehension walks -/
/-- at turn i: it yields x (the heap may grow), or it stops -/
structure It where
  go : Nat → Hp → Prop
  yld : Nat → Hp → V → Hp → Prop
  stop : Nat → Hp → Prop
/-- the iterator's own objects may turn: they are not the frame's, not pinned, younger than the entry (or a comprehension's own) -/
def FpOk (X : Cx) (pins : List (Addr × Obj)) (H : Hp) (b : Addr) : Prop :=
  H b = none ∧ b ≠ X.env.locals ∧ b ∉ X.fs ∧ (b ∈ X.ex ∨ X.s_0.heap.objs.size ≤ b) ∧ (∀ x c, X.env.cells.lookup x = some c → c ≠ b) ∧ ∀ p ∈ X.pn ++ pins, p.1 ≠ b
theorem Inv.fpOk {X : Cx} {pins : List (Addr × Obj)} {σ : St} {H H' : Hp} {s : Shared} {b : Addr} (I : Inv X pins σ H s) (hb : s.heap.objs.size ≤ b) (hn : H' b = none) : FpOk X pins H' b := by
  refine ⟨hn, Nat.ne_of_gt (Nat.lt_of_lt_of_le I.lt hb), I.nofs hb, .inr (Nat.le_trans I.sz hb), fun x c e z => ?_, fun p hp z => ?_⟩
  · obtain ⟨v, q⟩ := I.cell x c e
    exact absurd (Nat.lt_of_lt_of_le q.lt (by rw [z]; exact hb)) (Nat.lt_irrefl _)
  · exact absurd (Nat.lt_of_lt_of_le (Heap.lt_size (I.pin p hp).1) (by rw [z]; exact hb)) (Nat.lt_irrefl _)
structure Turn (P : Program) (w : World) (K : PySem.W.Frag) (tg : Expr) (J : It) (fp : List Addr) (it : Addr) (tn : Nat → Heap → Prop) : Prop where
  mem : it ∈ fp
  obj : ∀ i h, tn i h → ∀ b ∈ fp, ∃ o, h.get? b = some o ∧ ∀ v, o.data ≠ .cell v
  keep : ∀ i h h', tn i h → (∀ b ∈ fp, ∀ o, h.get? b = some o → h'.get? b = some o) → tn i h'
  item : ∀ (X : Cx), X.prog = P → X.w = w → X.K = K → X.calm = true → ∀ (i : Nat) (pins : List (Addr × Obj)) (s : Shared) (σ : St) (H : Hp) (E : Value → Shared → Prop), Inv X pins σ H s → (∀ b ∈ fp, FpOk X pins H b) → tn i s.heap → J.go i H →
    wpAny (model P w) X.A (pyNext (.ref it)) (fun r s1 => ∃ u, r = some u ∧
      wpAny (model P w) X.A (letOwnedTupleGo tg (.ref it) u) (fun _ s2 => ∃ x H', Inv X pins σ H' s2 ∧ RelV x u ∧ J.yld i H x H' ∧ tn (i + 1) s2.heap ∧ ∀ b ∈ fp, H' b = none) E s1) E s
  done : ∀ (X : Cx), X.prog = P → X.w = w → X.K = K → X.calm = true → ∀ (i : Nat) (pins : List (Addr × Obj)) (s : Shared) (σ : St) (H : Hp) (E : Value → Shared → Prop), Inv X pins σ H s → (∀ b ∈ fp, FpOk X pins H b) → tn i s.heap → J.stop i H →
    wpAny (model P w) X.A (pyNext (.ref it)) (fun r s1 => r = none ∧ Inv X pins σ H s1) E s
  self : ∀ (A : Around) (i : Nat) (s : Shared) (Q : Value → Shared → Prop) (E : Value → Shared → Prop), tn i s.heap → Q (.ref it) s → wpAny (model P w) A (pyIter (.ref it)) Q E s
abbrev TI := St → Hp → (It → Hp → Prop) → Prop
/-- an iterator has come -/
def PIE (X : Cx) (pins : List (Addr × Obj)) (σ : St) (tg : Expr) (R : It → Hp → Prop) (itv : Value) (s2 : Shared) : Prop :=
  ∃ (it : Addr) (fp : List Addr) (tn : Nat → Heap → Prop) (J : It) (H' : Hp), itv = .ref it ∧ Inv X pins σ H' s2 ∧ Turn X.prog X.w X.K tg J fp it tn ∧ tn 0 s2.heap ∧ (∀ b ∈ fp, FpOk X pins H' b) ∧ R J H'
def PI (X : Cx) (tg iter : Expr) (wi : TI) : Prop :=
  ∀ (pins : List (Addr × Obj)) (s : Shared) (σ : St) (H : Hp) (R : It → Hp → Prop), Inv X pins σ H s → wi σ H R →
    wpAny (model X.prog X.w) X.A (eval iter X.env) (fun v s1 => wpAny (model X.prog X.w) X.A (pyIter v) (PIE X pins σ tg R) X.xe s1) X.xe s

/-- the step ahead of the store is nothing for an iterator that keeps no tuple -/
theorem go_of {M : Model} {A : Around} {E : Value → Shared → Prop} {s : Shared} {tg : Expr} {it : Addr} {u : Value} {o : Obj} {n : String} {vs : Array Value} {Q : Unit → Shared → Prop} (ho : s.heap.get? it = some o) (hc : o.cls = .type n) (hd : o.data = .fields vs)
    (hn : ["enumerate", "zip", "dict_itemiterator", "dict_reverseitemiterator", "odict_iterator", "itertools.zip_longest", "itertools.pairwise"].contains n = false) (hQ : Q () s) : wpAny M A (letOwnedTupleGo tg (.ref it) u) Q E s := by
  unfold letOwnedTupleGo
  cases tg <;> first
    | exact wpAny_pure hQ
    | (cases u <;> first
        | exact wpAny_pure hQ
        | (refine wpAny_bind (wpAny_load ho ?_)
           rw [hc, hd]
           show wpAny M A (if (["enumerate", "zip", "dict_itemiterator", "dict_reverseitemiterator", "odict_iterator", "itertools.zip_longest", "itertools.pairwise"].contains n && vs[0]? == some (rawInt _)) = true then _ else _) Q E s
           rw [if_neg (by intro h; rw [hn, Bool.false_and] at h; cases h)]
           exact wpAny_pure hQ))

/-- the list at a, as it stands at each turn (a loop may append to it) -/
def Itl (K : PySem.W.Frag) (a : Addr) : It :=
  ⟨fun i H => ∃ xs x, SqL K H a xs ∧ xs[i]? = some x, fun i H x H' => H' = H ∧ ∀ xs, SqL K H a xs → xs[i]? = some x, fun i H => ∃ xs, SqL K H a xs ∧ xs.length ≤ i⟩
def Itt (K : PySem.W.Frag) (a : Addr) : It :=
  ⟨fun i H => ∃ xs x, SqT K H a xs ∧ xs[i]? = some x, fun i H x H' => H' = H ∧ ∀ xs, SqT K H a xs → xs[i]? = some x, fun i H => ∃ xs, SqT K H a xs ∧ xs.length ≤ i⟩
/-- lo, lo + 1, .. (n of them) -/
def Itr (lo : Int) (n : Nat) : It := ⟨fun i _ => i < n, fun i H x H' => H' = H ∧ x = .int (lo + i), fun i _ => n ≤ i⟩
theorem turn_list {P : Program} {w : World} {K : PySem.W.Frag} {tg : Expr} (a it : Addr) : Turn P w K tg (Itl K a) [it] it (fun i h => h.IsListIter it a i) where
  mem := by simp
  obj := fun i h st b hb => by
    have e : b = it := by simpa using hb
    subst e
    obtain ⟨o, e, c, d⟩ := st
    exact ⟨o, e, fun v z => by rw [d] at z; cases z⟩
  keep := fun i h h' st k => st.at fun o e => k it (by simp) o e
  item := by
    intro X hP hw hK hc i pins s σ H E I hf st hg
    subst hP hw hK
    obtain ⟨xs, x, hq, hx⟩ := hg
    obtain ⟨its, rv, p, hz⟩ := I.list hq
    obtain ⟨u, hu, ru⟩ := rv.get hx
    obtain ⟨f0, f1, f2, f3, f4, f5⟩ := hf it (by simp)
    refine wpAny_pyNext_list_item st p.isList (x := u) (by simpa using hu) fun h' st' sb => ?_
    have I1 : Inv X pins σ H { s with heap := h' } := I.turned (t' := s.toks) (fun b o hb e => (sb.2 b hb).trans e) f0 f1 f3 f4 f5
    obtain ⟨o, e, c, d⟩ := id st'
    exact ⟨u, rfl, go_of (s := { s with heap := h' }) e c d (by decide) ⟨x, H, I1, ru, ⟨rfl, fun ys hy => by rw [I.list_inj hy hq]; exact hx⟩, st', fun b hb => (hf b hb).1⟩⟩
  done := by
    intro X hP hw hK hc i pins s σ H E I hf st hg
    subst hP hw hK
    obtain ⟨xs, hq, hx⟩ := hg
    obtain ⟨its, rv, p, hz⟩ := I.list hq
    obtain ⟨f0, f1, f2, f3, f4, f5⟩ := hf it (by simp)
    have hl := rv.length
    exact wpAny_pyNext_list_end (I.ok.hd hc) st p.isList (by simp; omega) fun h' eb => ⟨rfl, I.turned (t' := s.toks) (fun b o hb e => eb b o hb e) f0 f1 f3 f4 f5⟩
  self := fun _ _ _ _ _ st h => wpAny_pyIter_listiter st h
theorem turn_tuple {P : Program} {w : World} {K : PySem.W.Frag} {tg : Expr} (a it : Addr) : Turn P w K tg (Itt K a) [it] it (fun i h => h.IsTupleIter it a i) where
  mem := by simp
  obj := fun i h st b hb => by
    have e : b = it := by simpa using hb
    subst e
    obtain ⟨o, e, c, d⟩ := st
    exact ⟨o, e, fun v z => by rw [d] at z; cases z⟩
  keep := fun i h h' st k => st.at fun o e => k it (by simp) o e
  item := by
    intro X hP hw hK hc i pins s σ H E I hf st hg
    subst hP hw hK
    obtain ⟨xs, x, hq, hx⟩ := hg
    obtain ⟨its, rv, p, hz⟩ := I.tuple hq
    obtain ⟨u, hu, ru⟩ := rv.get hx
    obtain ⟨f0, f1, f2, f3, f4, f5⟩ := hf it (by simp)
    refine wpAny_pyNext_tuple_item st (show s.heap.IsTuple a its.toArray from p) (x := u) (by simpa using hu) fun h' st' sb => ?_
    have I1 : Inv X pins σ H { s with heap := h' } := I.turned (t' := s.toks) (fun b o hb e => (sb.2 b hb).trans e) f0 f1 f3 f4 f5
    obtain ⟨o, e, c, d⟩ := id st'
    exact ⟨u, rfl, go_of (s := { s with heap := h' }) e c d (by decide) ⟨x, H, I1, ru, ⟨rfl, fun ys hy => by rw [I.tuple_inj hy hq]; exact hx⟩, st', fun b hb => (hf b hb).1⟩⟩
  done := by
    intro X hP hw hK hc i pins s σ H E I hf st hg
    subst hP hw hK
    obtain ⟨xs, hq, hx⟩ := hg
    obtain ⟨its, rv, p, hz⟩ := I.tuple hq
    obtain ⟨f0, f1, f2, f3, f4, f5⟩ := hf it (by simp)
    have hl := rv.length
    exact wpAny_pyNext_tuple_end (I.ok.hd hc) st (show s.heap.IsTuple a its.toArray from p) (by simp; omega) fun h' eb => ⟨rfl, I.turned (t' := s.toks) (fun b o hb e => eb b o hb e) f0 f1 f3 f4 f5⟩
  self := fun _ _ _ _ _ st h => wpAny_pyIter_tupleiter st h
theorem turn_range {P : Program} {w : World} {K : PySem.W.Frag} {tg : Expr} (it : Addr) (lo : Int) (n : Nat) : Turn P w K tg (Itr lo n) [it] it (fun i h => IsRangeIter h it (lo + (i : Nat) * 1) ((n : Int) - (i : Nat)) 1) where
  mem := by simp
  obj := fun i h st b hb => by
    have e : b = it := by simpa using hb
    subst e
    exact ⟨_, st, fun v z => by
      have z' : Data.fields _ = Data.cell v := z
      cases z'⟩
  keep := fun i h h' st k => k it (by simp) _ st
  item := by
    intro X hP hw hK hc i pins s σ H E I hf st hg
    subst hP hw hK
    obtain ⟨f0, f1, f2, f3, f4, f5⟩ := hf it (by simp)
    have W := Walks.range (prog := X.prog) (w := X.w) (I.ok.hd hc) it lo 1 n
    refine W.item i s _ _ hg st fun v h' tk hv st' kk => ?_
    obtain ⟨t, rfl⟩ := hv
    have I1 : Inv X pins σ H { s with heap := h', toks := tk } := I.turned (fun b o hb e => kk b o (by simpa using hb) e) f0 f1 f3 f4 f5
    refine ⟨_, rfl, go_of (s := { s with heap := h', toks := tk }) (n := "range_iterator") st' rfl rfl (by decide) ⟨.int (lo + i), H, I1, ⟨t, ?_⟩, ⟨rfl, rfl⟩, st', fun b hb => (hf b hb).1⟩⟩
    rw [Int.mul_one]
  done := by
    intro X hP hw hK hc i pins s σ H E I hf st hg
    subst hP hw hK
    obtain ⟨f0, f1, f2, f3, f4, f5⟩ := hf it (by simp)
    exact wpAny_pyNext_range_end (I.ok.hd hc) st (by have : n ≤ i := hg; omega) fun h' eb => ⟨rfl, I.turned (t' := s.toks) (fun b o hb e => eb b o hb e) f0 f1 f3 f4 f5⟩
  self := fun _ _ _ _ _ st h => wpAny_pyIter_rangeiter st h
end L2

namespace L2
open PySem PySem.Spec PyProof.Rows
section
variable {X : Cx} {tg : Expr}
def iList (K : PySem.W.Frag) (tl : TE) : TI := fun σ H R => tl σ H fun x H1 => ∃ a, x = .ref a ∧ (∃ xs, SqL K H1 a xs) ∧ R (Itl K a) H1
def iTup (K : PySem.W.Frag) (tl : TE) : TI := fun σ H R => tl σ H fun x H1 => ∃ a, x = .ref a ∧ (∃ xs, SqT K H1 a xs) ∧ R (Itt K a) H1
theorem pi_list {l : Expr} {tl : TE} (hl : PE X l tl) : PI X tg l (iList X.K tl) := by
  intro pins s σ H R I h
  refine thn (hl pins s σ H _ I h) fun v s1 ⟨x, H1, I1, r1, q1⟩ => ?_
  obtain ⟨a, e, ⟨xs, hq⟩, q⟩ := q1
  subst e
  cases r1
  obtain ⟨its, rv, p, hz⟩ := I1.list hq
  refine wpAny_pyIter_list p.isList ?_
  refine ⟨s1.heap.objs.size, [s1.heap.objs.size], _, _, H1, rfl, I1.kept (t' := s1.toks) fun b o e => Heap.get?_push_of_some _ e, turn_list a _, ⟨_, Heap.get?_push_size _ rfl, rfl, rfl⟩, fun b hb => ?_, q⟩
  have e : b = s1.heap.objs.size := by simpa using hb
  subst e
  exact I1.fpOk (Nat.le_refl _) (I1.hok.fresh (Nat.le_refl _))
theorem pi_tup {l : Expr} {tl : TE} (hl : PE X l tl) : PI X tg l (iTup X.K tl) := by
  intro pins s σ H R I h
  refine thn (hl pins s σ H _ I h) fun v s1 ⟨x, H1, I1, r1, q1⟩ => ?_
  obtain ⟨a, e, ⟨xs, hq⟩, q⟩ := q1
  subst e
  cases r1
  obtain ⟨its, rv, p, hz⟩ := I1.tuple hq
  refine wpAny_pyIter_tuple (show s1.heap.IsTuple a its.toArray from p) ?_
  refine ⟨s1.heap.objs.size, [s1.heap.objs.size], _, _, H1, rfl, I1.kept (t' := s1.toks) fun b o e => Heap.get?_push_of_some _ e, turn_tuple a _, ⟨_, Heap.get?_push_size _ rfl, rfl, rfl⟩, fun b hb => ?_, q⟩
  have e : b = s1.heap.objs.size := by simpa using hb
  subst e
  exact I1.fpOk (Nat.le_refl _) (I1.hok.fresh (Nat.le_refl _))
/-- a range object just made, walked -/
theorem range_it {pins : List (Addr × Obj)} {σ : St} {H : Hp} {s : Shared} {R : It → Hp → Prop} {E : Value → Shared → Prop} {lo hi : Int} {t u v : Tok} {tk : Nat} (I : Inv X pins σ H s) (h1 : -(2 ^ 62) ≤ lo) (h2 : lo < 2 ^ 62) (h3 : -(2 ^ 62) ≤ hi) (h4 : hi < 2 ^ 62)
    (q : R (Itr lo (hi - lo).toNat) H) : wpAny (model X.prog X.w) X.A (pyIter (.ref s.heap.objs.size)) (PIE X pins σ tg R) E { s with heap := s.heap.push { cls := .type "range", data := .fields #[.int lo t, .int hi u, .int 1 v] }, toks := tk } := by
  refine wpAny_pyIter_range (IsRange.new ..) (small_one h1 h2 h3 h4) ?_
  have I1 : Inv X pins σ H { s with heap := s.heap.push { cls := .type "range", data := .fields #[.int lo t, .int hi u, .int 1 v] }, toks := tk } := I.kept fun b o e => Heap.get?_push_of_some _ e
  refine ⟨(s.heap.push { cls := .type "range", data := .fields #[.int lo t, .int hi u, .int 1 v] }).objs.size, [(s.heap.push { cls := .type "range", data := .fields #[.int lo t, .int hi u, .int 1 v] }).objs.size], _, _, H, rfl,
    I1.kept (t' := tk) fun b o e => Heap.get?_push_of_some _ e, turn_range _ lo (hi - lo).toNat, ?_, fun b hb => ?_, q⟩
  · have e1 : lo + ((0 : Nat) : Int) * 1 = lo := by simp
    have e2 : (((hi - lo).toNat : Nat) : Int) - ((0 : Nat) : Int) = Builtin.Range.rangeSize lo hi 1 := by rw [rangeSize_one]; split <;> omega
    show IsRangeIter _ _ (lo + ((0 : Nat) : Int) * 1) ((((hi - lo).toNat : Nat) : Int) - ((0 : Nat) : Int)) 1
    rw [e1, e2]
    exact Heap.get?_push_size _ rfl
  · have e : b = (s.heap.push { cls := .type "range", data := .fields #[.int lo t, .int hi u, .int 1 v] }).objs.size := by simpa using hb
    subst e
    exact I1.fpOk (Nat.le_refl _) (I1.hok.fresh (Nat.le_refl _))
def iRng1 (ta : TA) : TI := fun σ H R => ta σ H fun vs H1 => ∃ j : Int, vs = [.int j] ∧ -(2 ^ 62) ≤ j ∧ j < 2 ^ 62 ∧ R (Itr 0 j.toNat) H1
def iRng2 (ta : TA) : TI := fun σ H R => ta σ H fun vs H1 => ∃ i j : Int, vs = [.int i, .int j] ∧ (-(2 ^ 62) ≤ i ∧ i < 2 ^ 62 ∧ -(2 ^ 62) ≤ j ∧ j < 2 ^ 62) ∧ R (Itr i (j - i).toNat) H1
theorem pi_range1 {a : Expr} {ta : TA} {p pos : Pos} (hg : Gl X "range") (hm : X.mg "range" = none) (ha : PA X [a] ta) (hs : starEach [a] X.env = [(false, eval a X.env)] := by rfl) : PI X tg (.Call (.Name "range" p) [a] [] pos) (iRng1 ta) := by
  intro pins s σ H R I h
  refine Call_ (ld_blt I hg hm boot_range (PyProof.Rows.callWith_type1 (thn (ha pos pins s σ H _ I h) fun us s1 ⟨vs, H1, I1, r1, q1⟩ => ?_) hs rfl))
  obtain ⟨j, e, q1, q2, q⟩ := q1
  subst e
  cases r1 with
  | cons r rr =>
    cases rr
    obtain ⟨t, rfl⟩ := r
    exact call_range_1 (range_it I1 (by omega) (by omega) q1 q2 (by simpa using q))
/-! ### for -/
/-- W: the invariant by the turn and a measure; N: what the body is to reach -/
def tFor (wi : TI) (g : TG) (tb : TS) : TS := fun D σ H => wi σ H fun J H1 => ∃ W : Nat → Nat → St → Hp → Prop, (∃ m, W 0 m σ H1) ∧ ∀ i m σ H, W i m σ H →
  (J.stop i H ∧ D.nx σ H) ∨ (J.go i H ∧ ∃ N : St → Hp → Prop, (∀ σ' H', N σ' H' → ∃ m', m' < m ∧ W (i + 1) m' σ' H') ∧ ∀ x H', J.yld i H x H' → g x σ H' fun σ2 H2 => tb { D with nx := N, ct := N, bk := D.nx } σ2 H2)
/-- the records at fp as they stand -/
def pinsAt (fp : List Addr) (h : Heap) : List (Addr × Obj) := fp.filterMap fun b => (h.get? b).map fun o => (b, o)
theorem mem_pinsAt {fp : List Addr} {h : Heap} {b : Addr} {o : Obj} (hb : b ∈ fp) (e : h.get? b = some o) : (b, o) ∈ pinsAt fp h := List.mem_filterMap.mpr ⟨b, hb, by rw [e]; rfl⟩
theorem of_pinsAt {fp : List Addr} {h : Heap} {p : Addr × Obj} (hp : p ∈ pinsAt fp h) : p.1 ∈ fp ∧ h.get? p.1 = some p.2 := by
  obtain ⟨b, hb, e⟩ := List.mem_filterMap.mp hp
  cases q : h.get? b with
  | none => rw [q] at e; cases e
  | some o =>
    rw [q] at e
    have e' : (b, o) = p := Option.some.inj e
    subst e'
    exact ⟨hb, q⟩
theorem Inv.pinned {pins : List (Addr × Obj)} {σ : St} {H : Hp} {s : Shared} {fp : List Addr} (I : Inv X pins σ H s) (hf : ∀ b ∈ fp, FpOk X pins H b) (ho : ∀ b ∈ fp, ∃ o, s.heap.get? b = some o ∧ ∀ v, o.data ≠ .cell v) : Inv X (pins ++ pinsAt fp s.heap) σ H s :=
  I.pins_of fun p hp => (List.mem_append.mp hp).elim (fun z => I.pin p (List.mem_append_right _ z)) fun z => by
    obtain ⟨hb, e⟩ := of_pinsAt z
    obtain ⟨f0, f1, f2, _⟩ := hf p.1 hb
    obtain ⟨o, e', d⟩ := ho p.1 hb
    rw [e] at e'; cases e'
    exact ⟨e, f0, f1, f2, d⟩
theorem Inv.unpinned {pins pl : List (Addr × Obj)} {σ : St} {H : Hp} {s : Shared} (I : Inv X (pins ++ pl) σ H s) : Inv X pins σ H s := I.pins_of fun p hp => I.pin p (List.mem_append_right _ (List.mem_append_left _ hp))
theorem ps_for {iter : Expr} {body : List Stmt} {wi : TI} {g : TG} {tb : TS} {pos : Pos} (hp : PassesOwn (model X.prog X.w) X.A X.env X.xe) (hc : X.calm = true) (hi : PI X tg iter wi) (hg : PG X tg g) (hb : PSs X body tb)
    (hs : ∀ x, foldedSetIterable iter X.env x = pure x := by intro _; rfl) : PS X (.For tg iter body [] pos) (tFor wi g tb) := by
  intro pins s σ H D I h
  refine wpAny_For (thn (hi pins s σ H _ I h) fun v s1 h1 => thn h1 fun itv s2 h2 => ?_) hs
  obtain ⟨it, fp, tn, J, H2, e, I2, T, st2, f2, W, ⟨m0, w0⟩, turn⟩ := h2
  subst e
  -- what stays true of the iterator's objects through the loop
  have stat : ∀ {H' : Hp}, (∀ b ∈ fp, H' b = none) → ∀ b ∈ fp, FpOk X pins H' b := fun hn b hb => ⟨hn b hb, (f2 b hb).2⟩
  refine codeAny_forLoop_any (fun n s' => ∃ i σ' H', Inv X pins σ' H' s' ∧ tn i s'.heap ∧ (∀ b ∈ fp, H' b = none) ∧ W i n σ' H') ?_ m0 ⟨0, σ, H2, I2, st2, fun b hb => (f2 b hb).1, w0⟩
  rintro n s3 ⟨i, σ3, H3, I3, st3, fr3, w3⟩
  rcases turn i n σ3 H3 w3 with ⟨stop, qn⟩ | ⟨go, N, hN, step⟩
  · refine wpAny_passesOwn hp (thn (T.done X rfl rfl rfl hc i pins s3 σ3 H3 X.xe I3 (stat fr3) st3 stop) fun r s4 ⟨hr, I4⟩ => ?_)
    subst hr
    exact wpAny_execs_nil ⟨σ3, H3, I4, qn⟩
  · refine wpAny_passesOwn hp (thn (T.item X rfl rfl rfl hc i pins s3 σ3 H3 X.xe I3 (stat fr3) st3 go) fun r s4 ⟨u, hr, h4⟩ => ?_)
    subst hr
    refine wpAny_passesOwn hp (thn h4 fun _ s5 ⟨x, H5, I5, r5, y5, st5, fr5⟩ => ?_)
    have I5' := I5.pinned (stat fr5) (T.obj _ _ st5)
    refine wpAny_passesOwn hp (thn (hg _ s5 σ3 H5 x u _ I5' r5 (step x H5 y5)) fun _ s6 ⟨σ6, H6, I6, q6⟩ => ?_)
    refine wpAny_passesOwn hp (thn (hb _ s6 σ6 H6 _ I6 q6) fun f s7 q7 => ?_)
    have again : ∀ {σ7 : St} {H7 : Hp}, Inv X (pins ++ pinsAt fp s5.heap) σ7 H7 s7 → N σ7 H7 → ∃ m, m < n ∧ ∃ i σ' H', Inv X pins σ' H' s7 ∧ tn i s7.heap ∧ (∀ b ∈ fp, H' b = none) ∧ W i m σ' H' := fun {σ7 H7} I7 n7 => by
      obtain ⟨m', hm, w7⟩ := hN σ7 H7 n7
      refine ⟨m', hm, i + 1, σ7, H7, I7.unpinned, T.keep _ _ _ st5 fun b hb o e => (I7.pin (b, o) (List.mem_append_right _ (List.mem_append_right _ (mem_pinsAt hb e)))).1, fun b hb => ?_, w7⟩
      obtain ⟨o, e, d⟩ := T.obj _ _ st5 b hb
      exact (I7.pin (b, o) (List.mem_append_right _ (List.mem_append_right _ (mem_pinsAt hb e)))).2.1
    cases f with
    | next => obtain ⟨σ7, H7, I7, n7⟩ := q7; exact again I7 n7
    | cont => obtain ⟨σ7, H7, I7, n7⟩ := q7; exact again I7 n7
    | brk => obtain ⟨σ7, H7, I7, q7⟩ := q7; exact ⟨σ7, H7, I7.unpinned, q7⟩
    | ret v => obtain ⟨x7, σ7, H7, I7, r7, q7⟩ := q7; exact ⟨x7, σ7, H7, I7.unpinned, r7, q7⟩
end

/-! ### the forms one uses -/
/-- over a list that the body leaves as it is -/
theorem for_list {K : PySem.W.Frag} {a : Addr} {xs : List V} {g : TG} {tb : TS} {D : Ends} {σ : St} {H : Hp} (Pv : Nat → St → Hp → Prop) (h0 : Pv 0 σ H) (hl : ∀ i σ H, i ≤ xs.length → Pv i σ H → SqL K H a xs)
    (hs : ∀ i x σ H, xs[i]? = some x → Pv i σ H → g x σ H fun σ2 H2 => tb { D with nx := Pv (i + 1), ct := Pv (i + 1), bk := D.nx } σ2 H2) (hd : ∀ σ H, Pv xs.length σ H → D.nx σ H) :
    ∃ W : Nat → Nat → St → Hp → Prop, (∃ m, W 0 m σ H) ∧ ∀ i m σ H, W i m σ H →
      ((Itl K a).stop i H ∧ D.nx σ H) ∨ ((Itl K a).go i H ∧ ∃ N : St → Hp → Prop, (∀ σ' H', N σ' H' → ∃ m', m' < m ∧ W (i + 1) m' σ' H') ∧ ∀ x H', (Itl K a).yld i H x H' → g x σ H' fun σ2 H2 => tb { D with nx := N, ct := N, bk := D.nx } σ2 H2) := by
  refine ⟨fun i m σ H => m = xs.length - i ∧ i ≤ xs.length ∧ Pv i σ H, ⟨xs.length, by simp, Nat.zero_le _, h0⟩, ?_⟩
  rintro i m σ H ⟨rfl, hi, p⟩
  have q := hl i σ H hi p
  by_cases hlt : i < xs.length
  · refine .inr ⟨⟨xs, xs[i], q, by simp [hlt]⟩, Pv (i + 1), fun σ' H' p' => ⟨xs.length - (i + 1), by omega, rfl, hlt, p'⟩, fun x H' y => ?_⟩
    obtain ⟨e, y⟩ := y
    subst e
    exact hs i x σ _ (y xs q) p
  · have e : i = xs.length := by omega
    subst e
    exact .inl ⟨⟨xs, q, Nat.le_refl _⟩, hd σ H p⟩
theorem for_range {lo : Int} {n : Nat} {g : TG} {tb : TS} {D : Ends} {σ : St} {H : Hp} (Pv : Nat → St → Hp → Prop) (h0 : Pv 0 σ H)
    (hs : ∀ i σ H, i < n → Pv i σ H → g (.int (lo + i)) σ H fun σ2 H2 => tb { D with nx := Pv (i + 1), ct := Pv (i + 1), bk := D.nx } σ2 H2) (hd : ∀ σ H, Pv n σ H → D.nx σ H) :
    ∃ W : Nat → Nat → St → Hp → Prop, (∃ m, W 0 m σ H) ∧ ∀ i m σ H, W i m σ H →
      ((Itr lo n).stop i H ∧ D.nx σ H) ∨ ((Itr lo n).go i H ∧ ∃ N : St → Hp → Prop, (∀ σ' H', N σ' H' → ∃ m', m' < m ∧ W (i + 1) m' σ' H') ∧ ∀ x H', (Itr lo n).yld i H x H' → g x σ H' fun σ2 H2 => tb { D with nx := N, ct := N, bk := D.nx } σ2 H2) := by
  refine ⟨fun i m σ H => m = n - i ∧ i ≤ n ∧ Pv i σ H, ⟨n, by simp, Nat.zero_le _, h0⟩, ?_⟩
  rintro i m σ H ⟨rfl, hi, p⟩
  by_cases hlt : i < n
  · refine .inr ⟨hlt, Pv (i + 1), fun σ' H' p' => ⟨n - (i + 1), by omega, rfl, hlt, p'⟩, fun x H' y => ?_⟩
    obtain ⟨e, y⟩ := y
    subst e y
    exact hs i σ _ hlt p
  · have e : i = n := by omega
    subst e
    exact .inl ⟨Nat.le_refl _, hd σ H p⟩
/-- while, by a word and a measure of the state -/
theorem while_by {c : TT} {tb : TS} {D : Ends} {σ : St} {H : Hp} (Pv : St → Hp → Prop) (μ : St → Hp → Nat) (h0 : Pv σ H)
    (hs : ∀ σ H, Pv σ H → c σ H fun b H1 => if b = true then tb { D with nx := fun σ' H' => Pv σ' H' ∧ μ σ' H' < μ σ H, ct := fun σ' H' => Pv σ' H' ∧ μ σ' H' < μ σ H, bk := D.nx } σ H1 else D.nx σ H1)
    (mono : ∀ σ H Q Q', (∀ b H1, Q b H1 → Q' b H1) → c σ H Q → c σ H Q') : tWhile c tb D σ H := by
  refine ⟨fun m σ H => m = μ σ H ∧ Pv σ H, ⟨_, rfl, h0⟩, ?_⟩
  rintro m σ H ⟨rfl, p⟩
  refine mono σ H _ _ (fun b H1 q => ?_) (hs σ H p)
  cases b with
  | true => exact ⟨_, fun σ' H' ⟨p', l⟩ => ⟨_, l, rfl, p'⟩, q⟩
  | false => exact q
end L2

namespace L2
open PySem PySem.Spec PyProof.Rows

abbrev R2 := V → V → Hp → VK → Prop
/-- a two-place operation on values: f is binaryOp op, inplaceOp op or compareOp op -/
def OpR (X : Cx) (f : Value → Value → Sem Value) (r : R2) : Prop :=
  ∀ (pins : List (Addr × Obj)) (s : Shared) (σ : St) (H : Hp) (x y : V) (v u : Value) (Q : VK), Inv X pins σ H s → RelV x v → RelV y u → r x y H Q →
    wpAny (model X.prog X.w) X.A (f v u) (EP X pins σ Q) X.xe s
/-- a one-place operation -/
def UnR (X : Cx) (f : Value → Sem Value) (r : V → Hp → VK → Prop) : Prop :=
  ∀ (pins : List (Addr × Obj)) (s : Shared) (σ : St) (H : Hp) (x : V) (v : Value) (Q : VK), Inv X pins σ H s → RelV x v → r x H Q →
    wpAny (model X.prog X.w) X.A (f v) (EP X pins σ Q) X.xe s
/-- a call of a value that is known (a builtin, a type) with values -/
def CallR (X : Cx) (f : Value) (r : List V → Hp → VK → Prop) : Prop :=
  ∀ (pins : List (Addr × Obj)) (s : Shared) (σ : St) (H : Hp) (xs : List V) (us : List Value) (Q : VK), Inv X pins σ H s → Vals xs us → r xs H Q →
    wpAny (model X.prog X.w) X.A (call f us) (EP X pins σ Q) X.xe s
def tOp (r : R2) (ta tb : TE) : TE := fun σ H Q => ta σ H fun x H1 => tb σ H1 fun y H2 => r x y H2 Q
def tUn (r : V → Hp → VK → Prop) (ta : TE) : TE := fun σ H Q => ta σ H fun x H1 => r x H1 Q
/-- ints in, under C, and a value out -/
def rI (C : Int → Int → Prop) (g : Int → Int → V) : R2 := fun x y H Q => ∃ i j, x = .int i ∧ y = .int j ∧ C i j ∧ Q (g i j) H
def rI0 (g : Int → Int → V) : R2 := fun x y H Q => ∃ i j, x = .int i ∧ y = .int j ∧ Q (g i j) H
def rU (g : Int → V) : V → Hp → VK → Prop := fun x H Q => ∃ i, x = .int i ∧ Q (g i) H

section
variable {X : Cx} {a b c : Expr} {ta tb tc : TE} {pos : Pos}

theorem binT (ha : PE X a ta) (hb : PE X b tb) {pins : List (Addr × Obj)} {s : Shared} {σ : St} {H : Hp} {R : V → V → Hp → Prop} (I : Inv X pins σ H s)
    (h : ta σ H fun x H1 => tb σ H1 fun y H2 => R x y H2) {Q : Value → Shared → Prop} {f : Value → Value → Sem Value}
    (hf : ∀ v u s2 x y H2, Inv X pins σ H2 s2 → RelV x v → RelV y u → R x y H2 → wpAny (model X.prog X.w) X.A (f v u) Q X.xe s2) :
    wpAny (model X.prog X.w) X.A (eval a X.env) (fun v s₁ => wpAny (model X.prog X.w) X.A (eval b X.env) (fun u s₂ => wpAny (model X.prog X.w) X.A (f v u) Q X.xe s₂) X.xe s₁) X.xe s := by
  refine thn (ha pins s σ H _ I h) fun v s1 ⟨x, H1, I1, r1, q1⟩ => ?_
  refine thn (hb pins s1 σ H1 _ I1 q1) fun u s2 ⟨y, H2, I2, r2, q2⟩ => ?_
  exact hf v u s2 x y H2 I2 r1 r2 q2

theorem pe_op {op : Operator} {r : R2} (ho : OpR X (binaryOp op) r) (ha : PE X a ta) (hb : PE X b tb) : PE X (.BinOp a op b pos) (tOp r ta tb) := by
  intro pins s σ H Q I h
  exact wpAny_BinOp (binT ha hb I h fun v u s2 x y H2 I2 rx ry q => ho pins s2 σ H2 x y v u Q I2 rx ry q)
theorem pe_un {op : UnaryOp} {r : V → Hp → VK → Prop} (ho : UnR X (unaryOp op) r) (ha : PE X a ta) : PE X (.UnaryOp op a pos) (tUn r ta) := by
  intro pins s σ H Q I h
  exact UnaryOp_ (thn (ha pins s σ H _ I h) fun v s1 ⟨x, H1, I1, r1, q1⟩ => ho pins s1 σ H1 x v Q I1 r1 q1)
/-! ### ints -/
theorem opI {f : Value → Value → Sem Value} {C : Int → Int → Prop} {g : Int → Int → Int}
    (rule : ∀ (i j : Int) (t u : Tok) (s : Shared) (Q : Value → Shared → Prop) (E : Value → Shared → Prop), C i j → Q (.int (g i j) s.toks) { s with toks := s.toks + 1 } → wpAny (model X.prog X.w) X.A (f (.int i t) (.int j u)) Q E s) :
    OpR X f (rI C fun i j => .int (g i j)) := by
  intro pins s σ H x y v u Q I rx ry h
  obtain ⟨i, j, rfl, rfl, hc, q⟩ := h
  obtain ⟨t, rfl⟩ := rx
  obtain ⟨t', rfl⟩ := ry
  exact rule i j t t' s _ _ hc ⟨.int (g i j), H, I.tok _, ⟨_, rfl⟩, q⟩
theorem opI0 {f : Value → Value → Sem Value} {g : Int → Int → Int}
    (rule : ∀ (i j : Int) (t u : Tok) (s : Shared) (Q : Value → Shared → Prop) (E : Value → Shared → Prop), Q (.int (g i j) s.toks) { s with toks := s.toks + 1 } → wpAny (model X.prog X.w) X.A (f (.int i t) (.int j u)) Q E s) :
    OpR X f (rI0 fun i j => .int (g i j)) := by
  intro pins s σ H x y v u Q I rx ry h
  obtain ⟨i, j, rfl, rfl, q⟩ := h
  obtain ⟨t, rfl⟩ := rx
  obtain ⟨t', rfl⟩ := ry
  exact rule i j t t' s _ _ ⟨.int (g i j), H, I.tok _, ⟨_, rfl⟩, q⟩
theorem opB0 {f : Value → Value → Sem Value} {g : Int → Int → Bool}
    (rule : ∀ (i j : Int) (t u : Tok) (s : Shared) (Q : Value → Shared → Prop) (E : Value → Shared → Prop), Q (.bool (g i j)) s → wpAny (model X.prog X.w) X.A (f (.int i t) (.int j u)) Q E s) :
    OpR X f (rI0 fun i j => .bl (g i j)) := by
  intro pins s σ H x y v u Q I rx ry h
  obtain ⟨i, j, rfl, rfl, q⟩ := h
  obtain ⟨t, rfl⟩ := rx
  obtain ⟨t', rfl⟩ := ry
  exact rule i j t t' s _ _ ⟨.bl (g i j), H, I, rfl, q⟩

def CPow (i j : Int) : Prop := 0 ≤ j ∧ j ≤ 1000000 ∧ i.natAbs < 2 ^ 64
def CMul (i j : Int) : Prop := (-(2 ^ 64) < i ∧ i < 2 ^ 64) ∨ (-(2 ^ 64) < j ∧ j < 2 ^ 64)
theorem CMul.ok {i j : Int} (h : CMul i j) : IntMulOk i j := by
  rcases h with ⟨h1, h2⟩ | ⟨h1, h2⟩
  · exact .of_left (intBits_le_64 h1 h2)
  · exact .of_right (intBits_le_64 h1 h2)
theorem op_add : OpR X (binaryOp .Add) (rI0 fun i j => .int (i + j)) := opI0 fun _ _ _ _ _ _ _ q => add_int q
theorem op_sub : OpR X (binaryOp .Sub) (rI0 fun i j => .int (i - j)) := opI0 fun _ _ _ _ _ _ _ q => sub_int q
theorem op_modN : OpR X (binaryOp .Mod) (rI (fun _ j => j ≠ 0) fun i j => .int (i.fmod j)) := opI fun _ _ _ _ _ _ _ hc q => mod_int' hc q
theorem op_pow : OpR X (binaryOp .Pow) (rI CPow fun i j => .int (i ^ j.toNat)) := opI fun _ _ _ _ _ _ _ hc q => pow_int_small hc.1 hc.2.1 hc.2.2 q
theorem unI {f : Value → Sem Value} {g : Int → Int}
    (rule : ∀ (i : Int) (t : Tok) (s : Shared) (Q : Value → Shared → Prop) (E : Value → Shared → Prop), Q (.int (g i) s.toks) { s with toks := s.toks + 1 } → wpAny (model X.prog X.w) X.A (f (.int i t)) Q E s) :
    UnR X f (rU fun i => .int (g i)) := by
  intro pins s σ H x v Q I rx h
  obtain ⟨i, rfl, q⟩ := h
  obtain ⟨t, rfl⟩ := rx
  exact rule i t s _ _ ⟨.int (g i), H, I.tok _, ⟨_, rfl⟩, q⟩
theorem un_neg : UnR X (unaryOp .USub) (rU fun i => .int (-i)) := unI fun _ _ _ _ _ q => neg_int q
/-! ### bools among ints: n += (a < b) -/
end

/-! ### comparisons -/
/-- the scalars that == tells apart as data does -/
def scal : V → V → Bool
  | .non, .non => true | .non, .int _ => true | .int _, .non => true | .non, .bl _ => true | .bl _, .non => true | .non, .str _ => true | .str _, .non => true
  | .int _, .int _ => true | .bl _, .bl _ => true | .str _, .str _ => true | .byt _, .byt _ => true
  | .int _, .str _ => true | .str _, .int _ => true | .bl _, .str _ => true | .str _, .bl _ => true
  | _, _ => false
def rEq : R2 := fun x y H Q => scal x y = true ∧ Q (.bl (decide (x = y))) H
def rNe : R2 := fun x y H Q => scal x y = true ∧ Q (.bl (!decide (x = y))) H

theorem dec_int {i j : Int} : decide (V.int i = V.int j) = (i == j) := by
  rw [Bool.eq_iff_iff]
  simp
theorem dec_bl {i j : Bool} : decide (V.bl i = V.bl j) = (i == j) := by
  rw [Bool.eq_iff_iff]
  simp
theorem dec_str {i j : Str} : decide (V.str i = V.str j) = (i == j) := by
  rw [Bool.eq_iff_iff]
  simp
theorem dec_byt {i j : Array UInt8} : decide (V.byt i = V.byt j) = (i.toList == j.toList) := by
  rw [Bool.eq_iff_iff]
  cases i
  cases j
  simp

section
variable {X : Cx} {a b c : Expr} {ta tb tc : TE} {pos : Pos}
theorem fin_bl {pins : List (Addr × Obj)} {σ : St} {H : Hp} {s : Shared} {Q : VK} {k k' : Bool} (I : Inv X pins σ H s) (q : Q (.bl k) H) (e : k = k') : EP X pins σ Q (.bool k') s := by
  subst e
  exact ⟨.bl k, H, I, rfl, q⟩
theorem op_eq : OpR X (compareOp .Eq) rEq := by
  intro pins s σ H x y v u Q I rx ry h
  obtain ⟨hs, q⟩ := h
  cases x with
  | non =>
    cases rx
    cases y with
    | non => cases ry; exact PySem.EqNone.eq_none_none (fin_bl I q (by simp))
    | bl j => cases ry; exact PySem.EqNone.eq_none_bool (fin_bl I q (by simp))
    | int j => obtain ⟨t', rfl⟩ := ry; exact PySem.EqNone.eq_none_int (fin_bl I q (by simp))
    | str j => obtain ⟨t', rfl⟩ := ry; exact PySem.EqNone.eq_none_str (fin_bl I q (by simp))
    | _ => exact absurd (show false = true from hs) Bool.false_ne_true
  | bl i =>
    cases rx
    cases y with
    | non => cases ry; exact PySem.EqNone.eq_bool_none (fin_bl I q (by simp))
    | bl j => cases ry; exact eq_bool (fin_bl I q dec_bl)
    | str j => obtain ⟨t', rfl⟩ := ry; exact PySem.EqMixed.eq_bool_str (fin_bl I q (by simp))
    | _ => exact absurd (show false = true from hs) Bool.false_ne_true
  | int i =>
    obtain ⟨t, rfl⟩ := rx
    cases y with
    | non => cases ry; exact PySem.EqNone.eq_int_none (fin_bl I q (by simp))
    | int j => obtain ⟨t', rfl⟩ := ry; exact eq_int (fin_bl I q dec_int)
    | str j => obtain ⟨t', rfl⟩ := ry; exact PySem.EqMixed.eq_int_str (fin_bl I q (by simp))
    | _ => exact absurd (show false = true from hs) Bool.false_ne_true
  | str i =>
    obtain ⟨t, rfl⟩ := rx
    cases y with
    | non => cases ry; exact PySem.EqNone.eq_str_none (fin_bl I q (by simp))
    | bl j => cases ry; exact PySem.EqMixed.eq_str_bool (fin_bl I q (by simp))
    | int j => obtain ⟨t', rfl⟩ := ry; exact PySem.EqMixed.eq_str_int (fin_bl I q (by simp))
    | str j => obtain ⟨t', rfl⟩ := ry; exact eq_str (fin_bl I q dec_str)
    | _ => exact absurd (show false = true from hs) Bool.false_ne_true
  | byt i =>
    obtain ⟨t, rfl⟩ := rx
    cases y with
    | byt j => obtain ⟨t', rfl⟩ := ry; exact PySem.W.eq_bytes (fin_bl I q dec_byt)
    | _ => exact absurd (show false = true from hs) Bool.false_ne_true
  | _ => cases y <;> exact absurd (show false = true from hs) Bool.false_ne_true
theorem op_ne : OpR X (compareOp .NotEq) rNe := by
  intro pins s σ H x y v u Q I rx ry h
  obtain ⟨hs, q⟩ := h
  cases x with
  | non =>
    cases rx
    cases y with
    | non => cases ry; exact PySem.EqNone.ne_none_none (fin_bl I q (by simp))
    | bl j => cases ry; exact PySem.EqNone.ne_none_bool (fin_bl I q (by simp))
    | int j => obtain ⟨t', rfl⟩ := ry; exact PySem.EqNone.ne_none_int (fin_bl I q (by simp))
    | str j => obtain ⟨t', rfl⟩ := ry; exact PySem.EqNone.ne_none_str (fin_bl I q (by simp))
    | _ => exact absurd (show false = true from hs) Bool.false_ne_true
  | bl i =>
    cases rx
    cases y with
    | non => cases ry; exact PySem.EqNone.ne_bool_none (fin_bl I q (by simp))
    | bl j => cases ry; exact ne_bool (fin_bl I q (congrArg not dec_bl))
    | str j => obtain ⟨t', rfl⟩ := ry; exact PySem.EqMixed.ne_bool_str (fin_bl I q (by simp))
    | _ => exact absurd (show false = true from hs) Bool.false_ne_true
  | int i =>
    obtain ⟨t, rfl⟩ := rx
    cases y with
    | non => cases ry; exact PySem.EqNone.ne_int_none (fin_bl I q (by simp))
    | int j => obtain ⟨t', rfl⟩ := ry; exact ne_int (fin_bl I q (congrArg not dec_int))
    | str j => obtain ⟨t', rfl⟩ := ry; exact PySem.EqMixed.ne_int_str (fin_bl I q (by simp))
    | _ => exact absurd (show false = true from hs) Bool.false_ne_true
  | str i =>
    obtain ⟨t, rfl⟩ := rx
    cases y with
    | non => cases ry; exact PySem.EqNone.ne_str_none (fin_bl I q (by simp))
    | bl j => cases ry; exact PySem.EqMixed.ne_str_bool (fin_bl I q (by simp))
    | int j => obtain ⟨t', rfl⟩ := ry; exact PySem.EqMixed.ne_str_int (fin_bl I q (by simp))
    | str j => obtain ⟨t', rfl⟩ := ry; exact ne_str (fin_bl I q (congrArg not dec_str))
    | _ => exact absurd (show false = true from hs) Bool.false_ne_true
  | byt i =>
    obtain ⟨t, rfl⟩ := rx
    cases y with
    | byt j => obtain ⟨t', rfl⟩ := ry; exact PySem.W.ne_bytes (fin_bl I q (congrArg not dec_byt))
    | _ => exact absurd (show false = true from hs) Bool.false_ne_true
  | _ => cases y <;> exact absurd (show false = true from hs) Bool.false_ne_true

theorem op_lt : OpR X (compareOp .Lt) (rI0 fun i j => .bl (decide (i < j))) := opB0 fun _ _ _ _ _ _ _ q => lt_int q
theorem op_gt : OpR X (compareOp .Gt) (rI0 fun i j => .bl (decide (j < i))) := opB0 fun _ _ _ _ _ _ _ q => gt_int q
theorem op_ge : OpR X (compareOp .GtE) (rI0 fun i j => .bl (decide (j ≤ i))) := opB0 fun _ _ _ _ _ _ _ q => ge_int q
/-- two rules for one operation: by cases -/
theorem OpR.or {f : Value → Value → Sem Value} {r r' : R2} (h : OpR X f r) (h' : OpR X f r') : OpR X f (fun x y H Q => r x y H Q ∨ r' x y H Q) := by
  intro pins s σ H x y v u Q I rx ry q
  rcases q with q | q
  · exact h pins s σ H x y v u Q I rx ry q
  · exact h' pins s σ H x y v u Q I rx ry q

theorem nomark (b : Expr) {op : CmpOp} (h : op ≠ .In := by decide) (h2 : op ≠ .NotIn := by decide) : behindInMarks op b = false := by
  have e1 : (op == CmpOp.In) = false := by cases op <;> first | rfl | exact absurd rfl h
  have e2 : (op == CmpOp.NotIn) = false := by cases op <;> first | rfl | exact absurd rfl h2
  cases b <;> simp [behindInMarks, e1, e2]
/-- a comparison as a value; hm: nomark b, or (for in, not in) by with_unfolding_all rfl -/
theorem pe_cmpR {op : CmpOp} {r : R2} (ho : OpR X (compareOp op) r) (ha : PE X a ta) (hb : PE X b tb) (hm : behindInMarks op b = false) : PE X (.Compare a [op] [b] pos) (tOp r ta tb) := by
  intro pins s σ H Q I h
  exact wpAny_Compare1 (binT ha hb I h fun v u s2 x y H2 I2 rx ry q => ho pins s2 σ H2 x y v u Q I2 rx ry q) hm
/-- a reading of a value as a test -/
def tTest (t : TE) : TT := fun σ H Q => t σ H fun x H' => ∃ k, x = .bl k ∧ Q k H'
theorem pt_cmpR {op : CmpOp} {r : R2} (ho : OpR X (compareOp op) r) (ha : PE X a ta) (hb : PE X b tb) (hm : behindInMarks op b = false) : PT X (.Compare a [op] [b] pos) (tTest (tOp r ta tb)) := by
  intro pins s σ H Q I h
  refine wpAny_isTrue_Compare1 (thn (ha pins s σ H _ I h) fun v s1 ⟨x, H1, I1, r1, q1⟩ => thn (hb pins s1 σ H1 _ I1 q1) fun u s2 ⟨y, H2, I2, r2, q2⟩ =>
    thn (ho pins s2 σ H2 x y v u _ I2 r1 r2 q2) fun c s3 ⟨z, H3, I3, r3, k, e, q3⟩ => ?_) hm
  subst e
  cases r3
  exact wpAny_truthy_bool ⟨H3, I3, q3⟩
/-! ### truth -/
theorem line63 : (sizeLine : Nat) < 2 ^ 63 := by rw [sizeLine_eq]; decide
/-! ### strs and bytes -/
/-! ### scalar builtins, by CallR -/
theorem vals1 {x : V} {us : List Value} (r : Vals [x] us) : ∃ u, us = [u] ∧ RelV x u := by
  cases r with
  | cons r1 r2 => cases r2; exact ⟨_, rfl, r1⟩
theorem call_abs : CallR X (.builtin "abs") (fun xs H Q => ∃ i, xs = [.int i] ∧ Q (.int (if i < 0 then -i else i)) H) := by
  intro pins s σ H xs us Q I r h
  obtain ⟨i, rfl, q⟩ := h
  obtain ⟨u, rfl, t, rfl⟩ := vals1 r
  exact call_abs_int fun u tk => ⟨.int (if i < 0 then -i else i), H, I.tok _, ⟨_, rfl⟩, q⟩
theorem call_int1 : CallR X (.type "int") (fun xs H Q => (∃ i, xs = [.int i] ∧ Q (.int i) H) ∨ ∃ k, xs = [.bl k] ∧ Q (.int (if k then 1 else 0)) H) := by
  intro pins s σ H xs us Q I r h
  rcases h with ⟨i, rfl, q⟩ | ⟨k, rfl, q⟩
  · obtain ⟨u, rfl, t, rfl⟩ := vals1 r
    exact call_int_int ⟨.int i, H, I, ⟨_, rfl⟩, q⟩
  · obtain ⟨u, rfl, r1⟩ := vals1 r
    cases r1
    exact call_int_bool ⟨.int (if k then 1 else 0), H, I.tok _, ⟨_, rfl⟩, q⟩
end
end L2

namespace L2
open PySem PySem.Spec PyProof.Rows

/-! ### an instance, its attributes a map -/
structure ObjM (h : Heap) (x dx C : Addr) (mA : Str → Option Value) : Prop where
  obj : h.get? x = some (PySem.W.instObj C dx)
  ns : h.Ns1 dx mA
  ne : dx ≠ x

theorem lookIn_ns {h : Heap} {dx : Addr} {mA : Str → Option Value} (n : h.Ns1 dx mA) : ∃ od, h.get? dx = some od ∧ ∀ name, PySem.W.lookIn name od = some (mA name) := by
  obtain ⟨o, es, ep, ho, hd, hk, _, hm⟩ := n
  refine ⟨o, ho, fun name => ?_⟩
  have e := hm name
  unfold nsFind findBy at e
  rw [← Array.find?_toList] at e
  unfold PySem.W.lookIn
  rw [hd]
  dsimp only
  split
  · rename_i y q
    rw [q] at e
    exact congrArg some e
  · rename_i q
    rw [q] at e
    have a : es.toList.any (·.refKey) = false := by
      rw [List.any_eq_false]
      intro y hy
      obtain ⟨z, t, hkey⟩ := hk y (Array.mem_toList_iff.mp hy)
      simp [DictEntry.refKey, hkey]
    have a' : ¬ es.toList.any (·.refKey) = true := by rw [a]; exact Bool.false_ne_true
    rw [if_neg a']
    exact congrArg some e

theorem ObjM.look {h : Heap} {x dx C : Addr} {mA : Str → Option Value} (I : ObjM h x dx C mA) : ∃ od, PySem.W.InstAt h x (PySem.W.instObj C dx) C (some od) ∧ ∀ name, PySem.W.lookIn name od = some (mA name) :=
  let ⟨od, ho, hl⟩ := lookIn_ns I.ns
  ⟨od, ⟨I.obj, rfl, rfl, ho⟩, hl⟩

section
variable {prog : Program} {w : World} {A : Around} {E : Value → Shared → Prop} {s : Shared} {K : PySem.W.Frag} {x dx C f : Addr} {mA : Str → Option Value} {name : Str} {v : Value}

end

/-! ### the attributes as a list of pairs -/
section
variable {P : Program} {w : World} {H H' : Hp} {h h' : Heap} {a C dx : Addr} {fs fs' : List (Str × V)}
theorem ins_get (hok : HOk P w H h) (e : H a = some (.ins C dx fs)) : ∃ mA, ObjM h a dx C mA ∧ (∀ f, RelO (fs.lookup f) (mA f)) ∧ PySem.Within mA (fs.map (·.1)) ∧ fs.length ≤ 1000 ∧ H dx = some (.own a) := by
  obtain ⟨d, z, ne, ob, mA, n, r, q⟩ := (show ObjOk P w H h a (.ins C dx fs) from hok a _ e)
  exact ⟨mA, ⟨ob, n, ne⟩, r, q, z, d⟩
end

/-! ### what of the text a class must have -/
structure Cls (K : PySem.W.Frag) (C : Addr) : Prop where
  pg : PySem.W.plainGet K C Str.empty = true
  hd : PySem.W.hasDictIn K C = true
  po : PySem.W.plainOver K C = true
  sa : PySem.W.findIn K (.ref C) "__setattr__" = some (some (.builtin "object.__setattr__"))
theorem Cls.get {K : PySem.W.Frag} {C : Addr} (c : Cls K C) (f : Str) : PySem.W.plainGet K C f = true := c.pg
/-- a constant of the class -/
structure Con (K : PySem.W.Frag) (C : Addr) (f : Str) (v : V) (u : Value) : Prop where
  at_ : PySem.W.findIn K (.ref C) f = some (some u)
  rel : RelV v u
  get : PySem.W.specialIn K u "__get__" = some none
  cp : PySem.W.copiedNames.contains f = false
/-- a method: a plain def of the class or of one above it -/
structure Meth (K : PySem.W.Frag) (C : Addr) (m : Str) (f : Addr) : Prop where
  at_ : PySem.W.findIn K (.ref C) m = some (some (.ref f))
  fn : PySem.W.isFn K (.ref f) = true
  kp : PySem.W.keepIn K (.ref f) = true

section
variable {X : Cx} {pins : List (Addr × Obj)} {σ : St} {H : Hp} {s : Shared} {a C dx : Addr} {fs : List (Str × V)} {f : Str} {v : V} {A : Around} {E : Value → Shared → Prop}

/-- a new instance, tracked, without attributes -/
theorem Inv.made (I : Inv X pins σ H s) : Inv X pins σ (upd (upd H s.heap.objs.size (.own (s.heap.objs.size + 1))) (s.heap.objs.size + 1) (.ins C s.heap.objs.size []))
    { s with heap := (s.heap.push PySem.W.emptyDict).push (PySem.W.instObj C s.heap.objs.size) } := by
  have e1 : (s.heap.push PySem.W.emptyDict).get? s.heap.objs.size = some PySem.W.emptyDict := Heap.get?_push_size s.heap rfl
  have e2 : ((s.heap.push PySem.W.emptyDict).push (PySem.W.instObj C s.heap.objs.size)).get? (s.heap.objs.size + 1) = some (PySem.W.instObj C s.heap.objs.size) := by
    have := Heap.get?_push_size (s.heap.push PySem.W.emptyDict) (o := PySem.W.instObj C s.heap.objs.size) rfl
    rwa [Heap.size_push] at this
  have e3 : (s.heap.push PySem.W.emptyDict).Ns s.heap.objs.size (fun _ => none) := ⟨PySem.W.emptyDict, #[], _, e1, rfl, (fun e he => absurd he (by simp)), fun _ => rfl⟩
  have I1 := I.laid (a := s.heap.objs.size) (o := .own (s.heap.objs.size + 1)) (h' := s.heap.push PySem.W.emptyDict) (t' := s.toks) (fun b u q => Heap.get?_push_of_some _ q) (Nat.le_refl _) ⟨_, e1⟩
  refine I1.laid (a := s.heap.objs.size + 1) (o := .ins C s.heap.objs.size []) (t' := s.toks) (fun b u q => Heap.get?_push_of_some _ q) (Nat.le_of_eq (Heap.size_push _ _)) ?_
  have ne : s.heap.objs.size ≠ s.heap.objs.size + 1 := Nat.ne_of_lt (Nat.lt_succ_self _)
  refine ⟨by rw [upd_ne ne, upd_same], Nat.zero_le _, ne, e2, fun _ => none, (Heap.Ns1.of_empty e3).at fun o q => Heap.get?_push_of_some _ q, fun _ => True.intro, fun y hy => absurd rfl hy⟩

end

/-! ### readings and rules -/
section
variable {X : Cx} {o e value : Expr} {f : Str} {pos pos' tpos : Pos} {ta tv : TE}
end

/-! ### isinstance -/
section
variable {X : Cx} {pins : List (Addr × Obj)} {σ : St} {H : Hp} {s : Shared} {A : Around} {E : Value → Shared → Prop} {Q : Value → Shared → Prop} {c : Value} {b : Bool}
/-- the type of a value, as the fragment's deciders take it; for an instance its class -/
inductive TyOf (K : PySem.W.Frag) (H : Hp) : V → Value → Prop where
  | non : TyOf K H .non (.type "NoneType")
  | bl (x : Bool) : TyOf K H (.bl x) (.type "bool")
  | int (i : Int) : TyOf K H (.int i) (.type "int")
  | str (x : Str) : TyOf K H (.str x) (.type "str")
  | flt (x : UInt64) : TyOf K H (.flt x) (.type "float")
  | lst {a : Addr} {xs : List V} (e : H a = some (.lst xs)) : TyOf K H (.ref a) (.type "list")
  | frz {a : Addr} {o : Obj} {xs : List V} (e : H a = some (.frz o (.lst xs))) : TyOf K H (.ref a) (.type "list")
  | tup {a : Addr} {xs : List V} (e : H a = some (.tup xs)) : TyOf K H (.ref a) (.type "tuple")
  | dK {a : Addr} {kvs : List (Key × V)} (e : H a = some (.dK kvs)) : TyOf K H (.ref a) (.type "dict")
  | dT {a : Addr} {kvs : List (List Key × V)} (e : H a = some (.dT kvs)) : TyOf K H (.ref a) (.type "dict")
  | ins {a C dx : Addr} {fs : List (Str × V)} (e : H a = some (.ins C dx fs)) (cl : Cls K C) (ha : PySem.W.findIn K (.ref C) "__class__" = some (some (.builtin "object.__class__")))
      (hn : PySem.W.specialIn K (.builtin "object.__class__") "__get__" = some (some (.builtin "getset_descriptor.__get__"))) (htk : PySem.W.takesIn K (.builtin "object.__class__") = some true)
      (hm : PySem.W.mroIn K C (.type "object") = some true) : TyOf K H (.ref a) (.ref C)
/-- isinstance(x, c) for one class c, a built-in or an own one: kitOne's answer -/
theorem isinst_ok {x : V} {u t : Value} (I : Inv X pins σ H s) (rx : RelV x u) (ty : TyOf X.K H x t) (e : PySem.W.kitOne X.K t c = some b) (h : ∀ tk, Q (.bool b) { s with toks := tk }) :
    wpAny (model X.prog X.w) A (call (.builtin "isinstance") [u, c]) Q E s := by
  cases ty with
  | non => cases (show u = Value.none from rx); exact PySem.W.kia_one PySem.W.kitx_none I.kIn True.intro e (fun z => nomatch z) h
  | bl y => cases (show u = Value.bool y from rx); exact PySem.W.kia_one PySem.W.kitx_bool I.kIn True.intro e (fun z => nomatch z) h
  | int i => obtain ⟨t, q⟩ := (show ∃ t, u = Value.int i t from rx); cases q; exact PySem.W.kia_one PySem.W.kitx_int I.kIn True.intro e (fun z => nomatch z) h
  | str y => obtain ⟨t, q⟩ := (show ∃ t, u = Value.str y t from rx); cases q; exact PySem.W.kia_one PySem.W.kitx_str I.kIn True.intro e (fun z => nomatch z) h
  | flt y => obtain ⟨t, q⟩ := (show ∃ t, u = Value.float y t from rx); cases q; exact PySem.W.kia_one PySem.W.kitx_float I.kIn True.intro e (fun z => nomatch z) h
  | @lst a xs ea =>
    cases (show u = Value.ref a from rx)
    obtain ⟨_, _, n, _, h1⟩ := (show ObjOk X.prog X.w H s.heap a (.lst xs) from I.hok a _ ea)
    exact PySem.W.kia_one PySem.W.kitx_list I.kIn ⟨_, h1, rfl⟩ e (fun z => nomatch z) h
  | @frz a ob xs ea =>
    cases (show u = Value.ref a from rx)
    obtain ⟨_, _, _, n, _, h1⟩ := (show ObjOk X.prog X.w H s.heap a (.frz ob (.lst xs)) from I.hok a _ ea)
    exact PySem.W.kia_one PySem.W.kitx_list I.kIn ⟨_, h1, rfl⟩ e (fun z => nomatch z) h
  | @tup a xs ea =>
    cases (show u = Value.ref a from rx)
    obtain ⟨_, _, _, p⟩ := (show ObjOk X.prog X.w H s.heap a (.tup xs) from I.hok a _ ea)
    obtain ⟨o, h1, h2, _⟩ := p
    exact PySem.W.kia_one PySem.W.kitx_tuple I.kIn ⟨o, h1, h2⟩ e (fun z => nomatch z) h
  | @dK a kvs ea =>
    cases (show u = Value.ref a from rx)
    obtain ⟨_, _, vs, _, p⟩ := (show ObjOk X.prog X.w H s.heap a (.dK kvs) from I.hok a _ ea)
    obtain ⟨o, es, ep, h1, h2, _⟩ := p
    exact PySem.W.kia_one PySem.W.kitx_dict I.kIn ⟨o, h1, h2.1⟩ e (fun z => nomatch z) h
  | @dT a kvs ea =>
    cases (show u = Value.ref a from rx)
    obtain ⟨_, _, xs, _, o, es, ep, h1, h2, _⟩ := (show ObjOk X.prog X.w H s.heap a (.dT kvs) from I.hok a _ ea)
    exact PySem.W.kia_one PySem.W.kitx_dict I.kIn ⟨o, h1, h2.1⟩ e (fun z => nomatch z) h
  | @ins a C dx fs ea cl ha hn htk hm =>
    cases (show u = Value.ref a from rx)
    obtain ⟨mA, O, _⟩ := ins_get I.hok ea
    obtain ⟨od, J, _⟩ := O.look
    exact PySem.W.kia_one (PySem.W.kitx_own (cl.get _) cl.hd ha hn htk hm) I.kIn J e (fun z => nomatch z) h
end
end L2

namespace L2
open PySem PySem.Spec PyProof.Rows

/-! ### room -/
structure Room (k : Nat) (A : Around) : Prop where
  hd : A.handled = none
  dp : A.depth + 3 * k + 5 < recursionLimit
  un : A.units + 16 * k + 200 < cLine
theorem Room.mono {j k : Nat} {A : Around} (r : Room k A) (h : j ≤ k) : Room j A := ⟨r.hd, by have := r.dp; omega, by have := r.un; omega⟩
theorem Room.deeper {k : Nat} {A : Around} (r : Room (k + 1) A) (env : Env) : Room k (A.deeper env) :=
  ⟨r.hd, by have := r.dp; show A.depth + 1 + 3 * k + 5 < _; omega, by have := r.un; show A.units + 3 + 16 * k + 200 < _; omega⟩
theorem Room.in1 {k : Nat} {A : Around} (r : Room (k + 1) A) : Room k A.in1 :=
  ⟨r.hd, by have := r.dp; show A.depth + 3 * k + 5 < _; omega, by have := r.un; show A.units + 1 + 16 * k + 200 < _; omega⟩
theorem Room.depth {k : Nat} {A : Around} (r : Room k A) : A.depth < recursionLimit := by have := r.dp; omega
theorem Room.units {k : Nat} {A : Around} (r : Room k A) : A.units + 64 < cLine := by have := r.un; omega
/-! ### argument lists and displays -/
def tNil : TA := fun _ H Q => Q [] H
def tCons (ta : TE) (tr : TA) : TA := fun σ H Q => ta σ H fun x H1 => tr σ H1 fun xs H2 => Q (x :: xs) H2
section
variable {X : Cx} {e : Expr} {es : List Expr} {te : TE} {t : TA} {pos : Pos}
theorem pa_nil : PA X [] tNil := fun _ _ _ _ H Q I h => Calls.spliced_nil ⟨[], H, I, .nil, h⟩
theorem pa_cons (ha : PE X e te) (hr : PA X es t) (hs : starEach (e :: es) X.env = (false, eval e X.env) :: starEach es X.env := by rfl) : PA X (e :: es) (tCons te t) := by
  intro pos pins s σ H Q I h
  rw [hs]
  show wpAny _ _ (spliced ((false, eval e X.env) :: backTo pos (starEach es X.env))) _ _ s
  refine Calls.spliced_cons (thn (ha pins s σ H _ I h) fun u s1 ⟨x, H1, I1, r1, q1⟩ => ?_)
  exact thn (hr pos pins s1 σ H1 _ I1 q1) fun us s2 ⟨xs, H2, I2, r2, q2⟩ => ⟨x :: xs, H2, I2, .cons r1 r2, q2⟩

/-- a tuple, a list of written items -/
def tTup (t : TA) : TE := fun σ H Q => t σ H fun xs H1 => xs.length ≤ sizeLine ∧ ∀ p, H1 p = none → Q (.ref p) (upd H1 p (.tup xs))
def tLst (t : TA) : TE := fun σ H Q => t σ H fun xs H1 => xs.length ≤ sizeLine ∧ ∀ p, H1 p = none → Q (.ref p) (upd H1 p (.lst xs))
theorem pe_tup {x1} (h : PA X es t) : PE X (.Tuple es x1 pos) (tTup t) := by
  intro pins s σ H Q I hq
  refine wpAny_Tuple_spliced (thn (h pos pins s σ H _ I hq) fun us s1 ⟨xs, H1, I1, r, z, q⟩ => ⟨by rw [← r.length]; exact z, ?_⟩)
  have hf : H1 s1.heap.objs.size = none := I1.hok.fresh (Nat.le_refl _)
  refine ⟨.ref s1.heap.objs.size, upd H1 s1.heap.objs.size (.tup xs), I1.laid (t' := s1.toks) (fun b u e => Heap.get?_push_of_some _ e) (Nat.le_refl _) ?_, rfl, q _ hf⟩
  exact ⟨z, us, r, ⟨_, Heap.get?_push_size _ rfl, rfl, _, rfl⟩⟩
theorem pe_lst (h : PA X es t) : PE X (.List es pos) (tLst t) := by
  intro pins s σ H Q I hq
  refine wpAny_List_spliced (thn (h pos pins s σ H _ I hq) fun us s1 ⟨xs, H1, I1, r, z, q⟩ => ⟨by rw [← r.length]; exact z, ?_⟩)
  have hf : H1 s1.heap.objs.size = none := I1.hok.fresh (Nat.le_refl _)
  refine ⟨.ref s1.heap.objs.size, upd H1 s1.heap.objs.size (.lst xs), I1.laid (t' := s1.toks) (fun b u e => Heap.get?_push_of_some _ e) (Nat.le_refl _) ?_, rfl, q _ hf⟩
  exact ⟨z, us, 0, r, Heap.get?_push_size _ rfl⟩
end

/-! ### what a def promises -/
/-- a def's promise: the bound arguments in the parameters' order, the heap, the wanted end, the wanted exception -/
abbrev Sp := List V → Hp → VK → XK → Prop
/-- how an exception lies behind a call (file 08 gives it): the callers' frames, abstract heap and state ahead of the call, the wish, the exception, the state -/
abbrev CXT := List Env → Hp → Shared → XK → Value → Shared → Prop

/-- the state at a call -/
structure Env0 (P : Program) (w : World) (K : PySem.W.Frag) (mg : Str → Option Value) (base : Heap) (A : Around) (outer : List Env) (s : Shared) (H : Hp) : Prop where
  frames : A.frames = some outer
  mod : Mod K mg base
  bs : ∀ b o, base.get? b = some o → s.heap.get? b = some o ∧ H b = none
  bsz : base.objs.size ≤ s.heap.objs.size
  funs : s.heap.FunFrames base outer
  frf : ∀ b ∈ frs outer, H b = none
  hok : HOk P w H s.heap
  bare : AllBare s.gens
/-- a call's end -/
def CE (outer : List Env) (P : Program) (w : World) (H : Hp) (s : Shared) (Q : VK) (u : Value) (s' : Shared) : Prop :=
  ∃ v H', s'.os = s.os ∧ AllBare s'.gens ∧ Un (frs outer) [] H H' s.heap s'.heap ∧ HOk P w H' s'.heap ∧ RelV v u ∧ Q v H'
def CR (CX : CXT) (outer : List Env) (P : Program) (w : World) (H : Hp) (s : Shared) (Q : VK) (E : XK) (r : Result) (s' : Shared) : Prop :=
  match r with
  | .ok (.ret u) => CE outer P w H s Q u s'
  | .ok _ => False
  | .error e => CX outer H s E e s'
structure FnOk (P : Program) (w : World) (K : PySem.W.Frag) (mg : Str → Option Value) (base : Heap) (CX : CXT) (k : Nat) (f : Addr) (fd : FuncData) (ps : List Str) (sp : Sp) : Prop where
  len : ∀ vs H Q E, sp vs H Q E → vs.length = ps.length
  run : ∀ (A : Around) (outer : List Env) (s : Shared) (H : Hp) (args : Args) (us : List Value) (vs : List V) (Q : VK) (E : XK), Room k A → Env0 P w K mg base A outer s H → BindsTo s fd args (ps.zip us) → Vals vs us → sp vs H Q E →
    codeAny (model P w) A (.call (.ref f) args) (CR CX outer P w H s Q E) s
theorem FnOk.mono {P : Program} {w : World} {K : PySem.W.Frag} {mg : Str → Option Value} {base : Heap} {CX : CXT} {j k : Nat} {f : Addr} {fd : FuncData} {ps : List Str} {sp : Sp} (F : FnOk P w K mg base CX j f fd ps sp) (h : j ≤ k) :
    FnOk P w K mg base CX k f fd ps sp := ⟨F.len, fun A outer s H args us vs Q E hr => F.run A outer s H args us vs Q E (hr.mono h)⟩
theorem Env0.in1 {P : Program} {w : World} {K : PySem.W.Frag} {mg : Str → Option Value} {base : Heap} {A : Around} {outer : List Env} {s : Shared} {H : Hp} (e : Env0 P w K mg base A outer s H) :
    Env0 P w K mg base A.in1 outer s H := ⟨e.frames, e.mod, e.bs, e.bsz, e.funs, e.frf, e.hok, e.bare⟩

section
variable {X : Cx} {pins : List (Addr × Obj)} {σ : St} {H : Hp} {s s' : Shared}
/-- from a body: what a callee wants -/
theorem Inv.env0 (I : Inv X pins σ H s) : Env0 X.prog X.w X.K X.mg X.base X.A X.stack s H :=
  ⟨I.ok.frames, I.ok.mod, I.bs, Nat.le_trans I.ok.bsz I.sz, I.stack, I.stkFree, I.hok, I.bare⟩
/-- behind a call -/
theorem Inv.after {Q : VK} {u : Value} (I : Inv X pins σ H s) (h : CE X.stack X.prog X.w H s Q u s') : EP X pins σ Q u s' := by
  obtain ⟨v, H', os, bare, un, hok, r, q⟩ := h
  obtain ⟨hh, g, d, t, os'⟩ := s'
  obtain rfl : os' = s.os := os
  exact ⟨v, H', I.call (h' := hh) (g' := g) (d' := d) (t' := t) (ch := []) un hok bare (fun b z => absurd z (by simp)), r, q⟩
end

/-! ### calls -/
/-- f(..): the written arguments, then the defaults dvs; E: what is wanted of an exception -/
def tCall (sp : Sp) (dvs : List V) (E : XK) (t : TA) : TE := fun σ H Q => t σ H fun vs H1 => sp (vs ++ dvs) H1 Q E
/-- how the parameters are bound: us the positional arguments, kw the keywords' values by name, ds the defaults that fill up -/
def Binds (K : PySem.W.Frag) (fd : FuncData) (ps : List Str) (ds : List Value) : Prop :=
  ∀ (s : Shared) (us : List Value), K.In s.heap → (us ++ ds).length = ps.length → BindsTo s fd ⟨us, []⟩ (ps.zip (us ++ ds))
/-- every parameter is given -/
theorem Binds.all {K : PySem.W.Frag} {fd : FuncData} {ps : List Str} (h : ∀ us : List Value, us.length = ps.length → bindArgs fd ⟨us, []⟩ = pure (ps.zip us)) : Binds K fd ps [] := fun s us _ hl => by
  rw [List.append_nil] at hl ⊢
  exact .of_eq (h us hl)

/-- an exception of a callee reaches what this body wants of exceptions -/
def Passes (CX : CXT) (X : Cx) (E : XK) : Prop := ∀ (pins : List (Addr × Obj)) (σ : St) (H : Hp) (s : Shared) (e : Value) (s' : Shared), Inv X pins σ H s → CX X.stack H s E e s' → X.xe e s'

section
variable {X : Cx} {CX : CXT} {k : Nat} {f C : Addr} {fd : FuncData} {ps : List Str} {sp : Sp} {dvs : List V} {ds : List Value} {E : XK} {x m : Str} {p pos apos : Pos} {e o : Expr} {es : List Expr} {ta : TE} {t : TA}

/-- the callee runs -/
theorem run_fn {pins : List (Addr × Obj)} {σ : St} {H : Hp} {s : Shared} {Q : VK} {us : List Value} {vs : List V} (F : FnOk X.prog X.w X.K X.mg X.base CX k f fd ps sp) (hr : Room k X.A) (hb : Binds X.K fd ps ds) (hd : Vals dvs ds) (hx : Passes CX X E)
    (I : Inv X pins σ H s) (r : Vals vs us) (h : sp (vs ++ dvs) H Q E) : wpAny (model X.prog X.w) X.A (call (.ref f) us) (EP X pins σ Q) X.xe s := by
  have r2 : Vals (vs ++ dvs) (us ++ ds) := r.append hd
  have hl : (us ++ ds).length = ps.length := by rw [← r2.length]; exact F.len _ _ _ _ h
  refine wpAny_call (codeAny_mono (F.run X.A X.stack s H ⟨us, []⟩ (us ++ ds) (vs ++ dvs) Q E hr I.env0 (hb s us I.kIn hl) r2 h) fun r s' hq => ?_)
  cases r with
  | error e => exact hx pins σ H s e s' I hq
  | ok fl =>
    cases fl with
    | ret u => exact I.after hq
    | next => exact False.elim hq
    | brk => exact False.elim hq
    | cont => exact False.elim hq

theorem pe_call (F : FnOk X.prog X.w X.K X.mg X.base CX k f fd ps sp) (hr : Room k X.A) (hg : Gl X x) (hm : X.mg x = some (.ref f)) (hk : PySem.W.keepIn X.K (.ref f) = true) (hb : Binds X.K fd ps ds) (hd : Vals dvs ds) (hx : Passes CX X E)
    (ha : PA X (e :: es) t) (hdb : (x == ("__debug__" : Str)) = false := by decide) (he : starEach (e :: es) X.env = (false, eval e X.env) :: starEach es X.env := by rfl) (hpl : (backTo pos (starEach es X.env)).any (·.1) = false := by rfl) :
    PE X (.Call (.Name x p) (e :: es) [] pos) (tCall sp dvs E t) := by
  intro pins s σ H Q I h
  refine wpAny_Call_Name_kw (ld_glob I hg hm ?_ hdb)
  refine PySem.W.callWith_K (h₀ := X.base) I.ok.mod.kin hk (thn (ha pos pins s σ H _ I h) fun us s1 ⟨vs, H1, I1, r, q⟩ => ⟨I1.kIn, ?_⟩) he hpl
  exact run_fn F hr hb hd hx I1 r q
/-- what a class must have to be made -/
structure Mk (K : PySem.W.Frag) (C f : Addr) : Prop where
  makes : PySem.W.makesIn K C = true
  init : PySem.W.findIn K (.ref C) "__init__" = some (some (.ref f))
  fn : PySem.W.isFn K (.ref f) = true
  kp : PySem.W.keepIn K (.ref C) = true

end

/-! ### keywords -/
section
variable {X : Cx} {CX : CXT} {k : Nat} {f C : Addr} {fd : FuncData} {ps ks : List Str} {sp : Sp} {E : XK} {x m : Str} {p pos apos kpos : Pos} {e o : Expr} {es : List Expr} {kws : List Keyword} {te ta : TE} {t tk : TA} {nm : Option Str}
/-- how a call with keywords binds: g puts the positional values us and the keywords' values ws (names ks) in the parameters' order, defaults among them -/
structure KBinds (K : PySem.W.Frag) (fd : FuncData) (ps ks : List Str) (g : List Value → List Value → List Value) (gV : List V → List V → List V) : Prop where
  to : ∀ (s : Shared) (us ws : List Value), K.In s.heap → (g us ws).length = ps.length → BindsTo s fd ⟨us, ks.zip ws⟩ (ps.zip (g us ws))
  rel : ∀ {vs : List V} {us : List Value} {zs : List V} {ws : List Value}, Vals vs us → Vals zs ws → Vals (gV vs zs) (g us ws)
variable {g : List Value → List Value → List Value} {gV : List V → List V → List V}
end

/-! ### a def's body keeps its promise -/
/-- names: the parameters first -/
structure FnScope (N P : List Str) (sc : Scope) : Prop where
  kind : sc.kind = .function
  co : sc.isCoroutine = false
  gen : sc.isGenerator = false
  nd : N.Nodup
  pre : N.take P.length = P
  par : ∀ x ∈ P, sc.names.lookup x = some .local ∨ sc.names.lookup x = some .cell
  nofree : ∀ y ∈ sc.names, y.2 ≠ .free

theorem bindL_out {kindOf : Str → Option NameKind} {x : Str} : ∀ {binds : List (Str × Value)} {m : Str → Option Value}, (∀ v, (x, v) ∉ binds) → bindL kindOf binds m x = m x
  | [], _, _ => rfl
  | (n, v) :: r, m, h => by
    unfold bindL
    rw [bindL_out fun w hw => h w (List.mem_cons_of_mem _ hw)]
    split
    · have : x ≠ n := by rintro rfl; exact h v List.mem_cons_self
      simp [this]
    · rfl
theorem bindC_out {kindOf : Str → Option NameKind} {x : Str} : ∀ {binds : List (Str × Value)} {m : Str → Option Value}, (∀ v, (x, v) ∉ binds) → bindC kindOf binds m x = m x
  | [], _, _ => rfl
  | (n, v) :: r, m, h => by
    unfold bindC
    rw [bindC_out fun w hw => h w (List.mem_cons_of_mem _ hw)]
    split
    · rfl
    · have : x ≠ n := by rintro rfl; exact h v List.mem_cons_self
      simp [this]
theorem bindL_get {kindOf : Str → Option NameKind} {x : Str} {v : Value} : ∀ {P : List Str} {vs : List Value} {i : Nat} {m : Str → Option Value}, P.Nodup → P[i]? = some x → vs[i]? = some v → kindOf x = some .local →
    bindL kindOf (P.zip vs) m x = some v
  | [], _, _, _, _, h, _, _ => by simp at h
  | _ :: _, [], _, _, _, _, h, _ => by simp at h
  | p :: P, w :: vs, 0, m, nd, h1, h2, hk => by
    simp at h1 h2; subst h1; subst h2
    show bindL kindOf ((p, w) :: P.zip vs) m p = _
    unfold bindL
    rw [bindL_out fun v hv => (List.nodup_cons.mp nd).1 (List.of_mem_zip hv).1, if_pos hk]
    simp
  | p :: P, w :: vs, i + 1, m, nd, h1, h2, hk => by
    show bindL kindOf ((p, w) :: P.zip vs) m x = _
    unfold bindL
    exact bindL_get (i := i) (List.nodup_cons.mp nd).2 (by simpa using h1) (by simpa using h2) hk
theorem bindC_get {kindOf : Str → Option NameKind} {x : Str} {v : Value} : ∀ {P : List Str} {vs : List Value} {i : Nat} {m : Str → Option Value}, P.Nodup → P[i]? = some x → vs[i]? = some v → kindOf x ≠ some .local →
    bindC kindOf (P.zip vs) m x = some v
  | [], _, _, _, _, h, _, _ => by simp at h
  | _ :: _, [], _, _, _, _, h, _ => by simp at h
  | p :: P, w :: vs, 0, m, nd, h1, h2, hk => by
    simp at h1 h2; subst h1; subst h2
    show bindC kindOf ((p, w) :: P.zip vs) m p = _
    unfold bindC
    rw [bindC_out fun v hv => (List.nodup_cons.mp nd).1 (List.of_mem_zip hv).1, if_neg hk]
    simp
  | p :: P, w :: vs, i + 1, m, nd, h1, h2, hk => by
    show bindC kindOf ((p, w) :: P.zip vs) m x = _
    unfold bindC
    exact bindC_get (i := i) (List.nodup_cons.mp nd).2 (by simpa using h1) (by simpa using h2) hk

/-- the names' values at the entry -/
def start (N : List Str) (vs : List V) : St := vs.map some ++ List.replicate (N.length - vs.length) none

/-- the context of a def's body, at its entry; an exception leaves the frame, then lies as CX says -/
def cxOf (CX : CXT) (P : Program) (w : World) (K : PySem.W.Frag) (mg : Str → Option Value) (base : Heap) (N : List Str) (qual : Str) (scope : Scope) (f : Addr) (cd : Value) (A : Around) (outer : List Env) (s : Shared) (H : Hp) (E : XK) : Cx where
  prog := P
  w := w
  K := K
  mg := mg
  base := base
  A := A.deeper (envOfC qual scope s.heap.objs.size f cd)
  N := N
  s_0 := s
  H_0 := H
  env := envOfC qual scope s.heap.objs.size f cd
  outer := outer
  stack := envOfC qual scope s.heap.objs.size f cd :: outer
  ex := []
  calm := true
  fn := fun _ => true
  pn := []
  xe := fun e s' => wpAny (model P w) (A.deeper (envOfC qual scope s.heap.objs.size f cd)) (leaving (envOfC qual scope s.heap.objs.size f cd) e) (fun _ s'' => CX outer H s E e s'') (fun e' s'' => CX outer H s E e' s'') s'

theorem cell_has {sc : Scope} {n : Nat} {x : Str} (h : sc.names.lookup x = some .cell) : ∃ c, (cellsFrom n sc.names []).lookup x = some c := by
  have q := PySem.W.cellsFrom_some sc.names n [] (.inl h)
  exact Option.isSome_iff_exists.mp q

theorem inv_start {CX : CXT} {P : Program} {w : World} {K : PySem.W.Frag} {mg : Str → Option Value} {base : Heap} {N ps : List Str} {qual : Str} {scope : Scope} {f : Addr} {cd : Value} {A : Around} {outer : List Env} {s s1 : Shared} {H : Hp} {E : XK} {us : List Value} {vs : List V}
    (S : FnScope N ps scope) (hd : A.handled = none) (e0 : Env0 P w K mg base A outer s H) (hl : vs.length = ps.length) (r : Vals vs us)
    (x : InCallC s s.heap.objs.size (bindL (envOfC qual scope s.heap.objs.size f cd).kindOf (ps.zip us) fun _ => none) (cellsFrom (s.heap.objs.size + 1) scope.names []) (bindC (envOfC qual scope s.heap.objs.size f cd).kindOf (ps.zip us) fun _ => none) s1) :
    Inv (cxOf CX P w K mg base N qual scope f cd A outer s H E) [] (start N vs) H s1 := by
  have hpl : ps.length ≤ N.length := by have := congrArg List.length S.pre; rw [List.length_take] at this; omega
  obtain ⟨h1, tk, rfl, hk⟩ := x.done
  have noA : ∀ b : Addr, b ∉ (cxOf CX P w K mg base N qual scope f cd A outer s H E).ex := fun b z => absurd (show b ∈ ([] : List Addr) from z) (by simp)
  refine ⟨⟨e0.mod, S.kind, rfl, rfl, Nat.le_refl _, fun y z c h1 h2 => ?_, fun y hy => ?_, fun y c _ h => ?_, fun _ => hd, Around.frames_deeper e0.frames, .inr ⟨rfl, rfl⟩, fun b z => absurd z (noA b), e0.bs, e0.bsz, fun b _ _ => noA b, fun b z => absurd z (noA b), e0.funs, e0.frf⟩,
    rfl, e0.bare, Un.kept hk, ⟨_, x.toInCall.ns, fun i y v h1 h2 h3 => ?_⟩, fun y c h => ⟨_, x.cell y c h⟩, e0.hok.fresh (Nat.le_refl _), fun y c h => ?_, fun p hp => absurd (show p ∈ ([] : List (Addr × Obj)) from hp) (by simp), e0.hok.kept hk, ?_⟩
  · exact name_of_addr x.apart (PySem.mem_of_lookup h1) (PySem.mem_of_lookup h2)
  · have hy : scope.names.lookup y = some .cell ∨ scope.names.lookup y = some .free := hy
    rcases hy with hy | hy
    · exact cell_has hy
    · exact absurd rfl (S.nofree _ (PySem.mem_of_lookup hy))
  · exact Nat.le_of_lt (x.above y c (PySem.mem_of_lookup h))
  · have hi : i < vs.length := by
      unfold start at h2
      by_cases hi : i < vs.length
      · exact hi
      · rw [List.getElem?_append_right (by simpa using hi)] at h2
        rw [List.getElem?_replicate] at h2
        split at h2 <;> cases h2
    have ha : vs[i]? = some v := by
      unfold start at h2
      rw [List.getElem?_append_left (by simpa using hi), List.getElem?_map] at h2
      cases e : vs[i]? with
      | none => rw [e] at h2; cases h2
      | some a => rw [e] at h2; cases h2; rfl
    obtain ⟨u, hu, rv⟩ := r.get ha
    have hp : ps[i]? = some y := by
      rw [← S.pre, List.getElem?_take_of_lt (by omega)]; exact h1
    have ndP : ps.Nodup := by rw [← S.pre]; exact S.nd.sublist (List.take_sublist _ _)
    refine ⟨u, rv, ?_⟩
    rcases S.par y (List.mem_of_getElem? hp) with k | k
    · exact .inl ⟨k, bindL_get ndP hp hu k⟩
    · obtain ⟨c, e⟩ := cell_has (n := s.heap.objs.size + 1) k
      refine .inr ⟨.inl k, c, e, ?_⟩
      have q := x.cell y c e
      rw [bindC_get ndP hp hu (by show scope.names.lookup y ≠ _; rw [k]; decide)] at q
      exact q
  · exact e0.hok.fresh (Nat.le_of_lt (x.above y c (PySem.mem_of_lookup h)))
  · unfold start
    show _ = N.length
    rw [List.length_append, List.length_map, List.length_replicate]
    omega

/-- THE RULE: a def (or a method) of the text, by its body. The body's reading t is chosen for each entry; it is run at the parameters' values -/
theorem fn_of {CX : CXT} {P : Program} {w : World} {K : PySem.W.Frag} {mg : Str → Option Value} {base : Heap} {k : Nat} {f : Addr} {name qual : Str} {params : Arguments} {body : List Stmt} {scope : Scope} {dV kV doc pm cdv ct oc : Value} {an od : Option Addr}
    {osl : Array (Option Value)} {N ps : List Str} {sp : Sp} (lk : K.lookup f = some ⟨oc, od, .func (PySem.W.fnOf name qual params body scope dV kV doc pm an cdv ct), osl⟩) (hcd : PySem.W.codeIn K cdv qual = true) (S : FnScope N ps scope)
    (len : ∀ vs H Q E, sp vs H Q E → vs.length = ps.length)
    (hbody : ∀ (A : Around) (outer : List Env) (s : Shared) (H : Hp) (vs : List V) (Q : VK) (E : XK), Room k (A.deeper (envOfC qual scope s.heap.objs.size f cdv)) → sp vs H Q E →
      ∃ t, PSs (cxOf CX P w K mg base N qual scope f cdv A outer s H E) body t ∧ t { nx := fun _ H' => Q .non H', rt := Q } (start N vs) H) :
    FnOk P w K mg base CX (k + 1) f (PySem.W.fnOf name qual params body scope dV kV doc pm an cdv ct) ps sp := by
  refine ⟨len, fun A outer s H args us vs Q E hr e0 hb r hsp => ?_⟩
  have hl := len _ _ _ _ hsp
  have KX : K.In s.heap := e0.mod.kin.keeps fun b o e => (e0.bs b o e).1
  have lim : s.heap.NoLimit := e0.mod.nolimit.keeps fun b o e => (e0.bs b o e).1
  have hkind : ∀ y ∈ ps.zip us, scope.names.lookup y.1 = some .local ∨ (scope.names.lookup y.1 = some .cell ∧ ((cellsFrom (s.heap.objs.size + 1) scope.names []).lookup y.1).isSome = true) := fun ⟨n, v⟩ hy => by
    rcases S.par n (List.of_mem_zip hy).1 with q | q
    · exact .inl q
    · exact .inr ⟨q, PySem.W.cellsFrom_some _ _ _ (.inl q)⟩
  refine codeAny_call_function hr.depth (KX _ _ lk) rfl S.co S.gen rfl (PySem.W.codeRec_of KX hcd) (hb _ _ _ _ ?_)
  refine wpAny_newFunctionEnv_cells S.kind hkind fun env he s1 x => ?_
  subst he
  refine ⟨lim.keeps x.toInCall.keep, codeAny_func ?_⟩
  obtain ⟨t, ht, hq⟩ := hbody A outer s H vs Q E (hr.deeper _) hsp
  have I : Inv (cxOf CX P w K mg base N qual scope f cdv A outer s H E) [] (start N vs) H s1 := inv_start S hr.hd e0 hl r x
  refine wpAny_mono (ht [] s1 (start N vs) H _ I hq) (fun fl s' hs => ?_) fun e s' hs => hs
  have fin : ∀ {σ' : St} {H' : Hp} {v : V} {u : Value}, Inv (cxOf CX P w K mg base N qual scope f cdv A outer s H E) [] σ' H' s' → RelV v u → Q v H' → CE outer P w H s Q u s' :=
    fun {σ' H' v u} J rv q => ⟨v, H', J.os, J.bare, J.base, J.hok, rv, q⟩
  cases fl with
  | ret u =>
    obtain ⟨v, σ', H', J, rv, q⟩ := hs
    exact fin J rv q
  | next =>
    obtain ⟨σ', H', J, q⟩ := hs
    exact fin (v := V.non) (u := Value.none) J rfl q
  | brk =>
    obtain ⟨_, _, _, q⟩ := hs
    exact False.elim q
  | cont =>
    obtain ⟨_, _, _, q⟩ := hs
    exact False.elim q
end L2

namespace L2
open PySem PySem.Spec PyProof.Rows
section
variable {X : Cx} {x : Str} {p pos : Pos} {e : Expr} {es : List Expr} {t : TA} {id T : String} {r : List V → Hp → VK → Prop}

def tCB (r : List V → Hp → VK → Prop) (t : TA) : TE := fun σ H Q => t σ H fun vs H1 => r vs H1 Q
/-- f(e, ..), f a built-in function -/
theorem pe_callB (hc : CallR X (.builtin id) r) (hg : Gl X x) (hm : X.mg x = none) (hv : bootBuiltins x = some (.builtin id)) (ha : PA X (e :: es) t) (hn : x ≠ "__name__" := by decide) (hdb : (x == ("__debug__" : Str)) = false := by decide)
    (he : starEach (e :: es) X.env = (false, eval e X.env) :: starEach es X.env := by rfl) (hpl : (backTo pos (starEach es X.env)).any (·.1) = false := by rfl) : PE X (.Call (.Name x p) (e :: es) [] pos) (tCB r t) := by
  intro pins s σ H Q I h
  refine wpAny_Call_Name_kw (ld_blt I hg hm hv ?_ hn hdb)
  exact PyProof.Rows.callWith_builtin1 (thn (ha pos pins s σ H _ I h) fun us s1 ⟨vs, H1, I1, r1, q1⟩ => hc pins s1 σ H1 vs us Q I1 r1 q1) he hpl
/-- T(e, ..), T a built-in type -/
theorem pe_callTy (hc : CallR X (.type T) r) (hg : Gl X x) (hm : X.mg x = none) (hv : bootBuiltins x = some (.type T)) (ha : PA X (e :: es) t) (hn : x ≠ "__name__" := by decide) (hdb : (x == ("__debug__" : Str)) = false := by decide)
    (he : starEach (e :: es) X.env = (false, eval e X.env) :: starEach es X.env := by rfl) (hpl : (backTo pos (starEach es X.env)).any (·.1) = false := by rfl) : PE X (.Call (.Name x p) (e :: es) [] pos) (tCB r t) := by
  intro pins s σ H Q I h
  refine wpAny_Call_Name_kw (ld_blt I hg hm hv ?_ hn hdb)
  exact PyProof.Rows.callWith_type1 (thn (ha pos pins s σ H _ I h) fun us s1 ⟨vs, H1, I1, r1, q1⟩ => hc pins s1 σ H1 vs us Q I1 r1 q1) he hpl
end
end L2

namespace HT
open PySem PyProof.Rows

section
open PySem.SeqAt
open PySem.AutoSeq1 (wpAny_loadPart')
open PySem.MeetsSeq PySem.MeetsSeq2 PySem.MeetsSeq3

end

section
variable {prog : Program} {w : World} {A : Around} {E : Value → Shared → Prop} {s : Shared}

/-! ### t[a:b], not the whole -/
/-- a slice's bound as a place among n (d where it is left out) -/
def sIx (n d : Nat) : Option Int → Nat
  | none => d
  | some v => if v < 0 then (v + (n : Int)).toNat else min v.toNat n
end
end HT

namespace L2
open PySem PySem.Spec PyProof.Rows

/-! ### the parts of a slice -/
abbrev TO := St → Hp → (Option Int → Hp → Prop) → Prop
/-- a slice's part (left out, or an int) -/
def PO (X : Cx) (e : Option Expr) (t : TO) : Prop :=
  ∀ (pins : List (Addr × Obj)) (s : Shared) (σ : St) (H : Hp) (Q : Option Int → Hp → Prop), Inv X pins σ H s → t σ H Q →
    wpAny (model X.prog X.w) X.A (evalPart e X.env) (fun u s' => ∃ o H', Inv X pins σ H' s' ∧ IsPart u o ∧ Q o H') X.xe s
def tNoPart : TO := fun _ H Q => Q none H
def tPart (t : TE) : TO := fun σ H Q => t σ H fun x H1 => ∃ i, x = .int i ∧ Q (some i) H1

section
variable {X : Cx} {e : Expr} {te : TE} {lo hi : Option Expr} {tl th : TO} {pos p2 : Pos}

theorem po_none : PO X none tNoPart := by
  intro pins s σ H Q I h
  rw [evalPart_none]
  exact wpAny_pure ⟨none, H, I, .none, h⟩
theorem po_some (h : PE X e te) : PO X (some e) (tPart te) := by
  intro pins s σ H Q I hw
  rw [evalPart_some]
  refine thn (h pins s σ H _ I hw) fun u s1 ⟨x, H1, I1, r1, q1⟩ => ?_
  obtain ⟨i, rfl, q⟩ := q1
  obtain ⟨t, rfl⟩ := r1
  exact ⟨some i, H1, I1, .int i t, q⟩

/-- what a slice of a value is, by values: the slice object stands at sl -/
def SlR (X : Cx) (r : V → Option Int → Option Int → Hp → VK → Prop) : Prop :=
  ∀ (pins : List (Addr × Obj)) (s : Shared) (σ : St) (H : Hp) (x : V) (v vl vu : Value) (lo hi : Option Int) (sl : Addr) (Q : VK), Inv X pins σ H s → RelV x v → s.heap.IsSliceOf sl vl vu .none → IsPart vl lo → IsPart vu hi → r x lo hi H Q →
    ∃ T id, typeLookup (.type T) "__getitem__" = pure (some (.builtin id)) ∧ s.TypeIs v T ∧ wpAny (model X.prog X.w) X.A (getItem v (.ref sl)) (EP X pins σ Q) X.xe s
theorem SlR.or {r r' : V → Option Int → Option Int → Hp → VK → Prop} (h : SlR X r) (h' : SlR X r') : SlR X (fun x lo hi H Q => r x lo hi H Q ∨ r' x lo hi H Q) := by
  intro pins s σ H x v vl vu lo hi sl Q I rx hs pl pu q
  rcases q with q | q
  · exact h pins s σ H x v vl vu lo hi sl Q I rx hs pl pu q
  · exact h' pins s σ H x v vl vu lo hi sl Q I rx hs pl pu q
def tSl (r : V → Option Int → Option Int → Hp → VK → Prop) (te : TE) (tl th : TO) : TE := fun σ H Q => te σ H fun x H1 => tl σ H1 fun l H2 => th σ H2 fun u H3 => r x l u H3 Q
/-- a[lo:hi], any a -/
theorem pe_slice {r : V → Option Int → Option Int → Hp → VK → Prop} (hr : SlR X r) (he : PE X e te) (hl : PO X lo tl) (hu : PO X hi th) : PE X (.Subscript e (.Slice lo hi none p2) pos) (tSl r te tl th) := by
  intro pins s σ H Q I h
  refine Subscript_ (thn (he pins s σ H _ I h) fun v s1 ⟨x, H1, I1, r1, q1⟩ => ?_)
  refine wpAny_Slice (thn (hl pins s1 σ H1 _ I1 q1) fun vl s2 ⟨l, H2, I2, pl, q2⟩ => thn (hu pins s2 σ H2 _ I2 q2) fun vu s3 ⟨u, H3, I3, pu, q3⟩ => ?_)
  rw [evalPart_none]
  refine wpAny_pure ?_
  have I4 : Inv X pins σ H3 { s3 with heap := s3.heap.push { cls := .type "slice", data := .fields #[vl, vu, .none] } } := I3.kept (t' := s3.toks) fun b ob q => Heap.get?_push_of_some _ q
  obtain ⟨T, id, hT, ht, hg⟩ := hr pins { s3 with heap := s3.heap.push { cls := .type "slice", data := .fields #[vl, vu, .none] } } σ H3 x v vl vu l u s3.heap.objs.size Q I4 r1 (Heap.IsSliceOf.new ..) pl pu q3
  show wpAny (model X.prog X.w) X.A (subscriptTail e (.Slice lo hi none p2) v (.ref s3.heap.objs.size)) (EP X pins σ Q) X.xe { s3 with heap := s3.heap.push { cls := .type "slice", data := .fields #[vl, vu, .none] } }
  exact tail_any (ops := [.ref s3.heap.objs.size, v]) ht hT hg (by with_unfolding_all rfl)

/-- the items of xs[lo:hi] -/
def cutV (xs : List V) (lo hi : Option Int) : List V := (xs.drop (HT.sIx xs.length 0 lo)).take (HT.sIx xs.length xs.length hi - HT.sIx xs.length 0 lo)
theorem cutV_length (xs : List V) (lo hi : Option Int) : (cutV xs lo hi).length ≤ xs.length := by
  unfold cutV
  rw [List.length_take, List.length_drop]
  omega
/-! ### t < u, t + u -/
end
end L2

namespace L2
open PySem PySem.Spec PyProof.Rows

/-! ### places -/
/-- the place that an index of any sign means -/
def ixN (n : Nat) (i : Int) : Option Nat := if 0 ≤ i then (if i < n then some i.toNat else none) else if -(n : Int) ≤ i then some (i + n).toNat else none
def atI {α : Type} (xs : List α) (i : Int) : Option α := (ixN xs.length i).bind fun j => xs[j]?
theorem ixN_seq {n : Nat} {i : Int} {j : Nat} (h : ixN n i = some j) : seqIndex? i n = some j ∧ j < n ∧ -(n : Int) ≤ i ∧ i < n := by
  unfold ixN at h
  by_cases h0 : 0 ≤ i
  · rw [if_pos h0] at h
    by_cases h1 : i < n
    · rw [if_pos h1] at h
      have e : i.toNat = j := Option.some.inj h
      exact ⟨by rw [seqIndex_of h0 h1, e], by omega, by omega, h1⟩
    · rw [if_neg h1] at h; cases h
  · rw [if_neg h0] at h
    by_cases h1 : -(n : Int) ≤ i
    · rw [if_pos h1] at h
      have e : (i + n).toNat = j := Option.some.inj h
      exact ⟨by rw [seqIndex_neg (by omega) h1, e], by omega, h1, by omega⟩
    · rw [if_neg h1] at h; cases h
theorem atI_get {α : Type} {xs : List α} {i : Int} {v : α} (h : atI xs i = some v) : ∃ j, seqIndex? i xs.length = some j ∧ xs[j]? = some v ∧ j < xs.length ∧ -(xs.length : Int) ≤ i ∧ i < xs.length := by
  unfold atI at h
  cases e : ixN xs.length i with
  | none => rw [e] at h; cases h
  | some j =>
    rw [e] at h
    obtain ⟨h1, h2, h3, h4⟩ := ixN_seq e
    exact ⟨j, h1, h, h2, h3, h4⟩
theorem atI_nat {α : Type} {xs : List α} {j : Nat} {v : α} (h : xs[j]? = some v) : atI xs (j : Int) = some v := by
  have hj : j < xs.length := (List.getElem?_eq_some_iff.mp h).1
  have e : ixN xs.length (j : Int) = some j := by
    unfold ixN
    rw [if_pos (by omega), if_pos (by omega)]; simp
  unfold atI; rw [e]; exact h
/-! ### what may be subscripted -/
/-- what stands as an index of a plain subscript -/
def PlainIx (b : Expr) : Prop := ∀ o i, subscripted b false o i = operate [o, i] (getItem o i)
/-- a subscript by values -/
def IxR (X : Cx) (r : R2) : Prop :=
  ∀ (value slice : Expr) (pins : List (Addr × Obj)) (s : Shared) (σ : St) (H : Hp) (x y : V) (v u : Value) (Q : VK), Inv X pins σ H s → RelV x v → RelV y u → r x y H Q →
    subscripted slice false v u = operate [v, u] (getItem v u) → wpAny (model X.prog X.w) X.A (subscriptTail value slice v u) (EP X pins σ Q) X.xe s
/-- a call of a builtin's method by values: the receiver, the arguments -/
def MtR (X : Cx) (id : String) (r : V → List V → Hp → VK → Prop) : Prop :=
  ∀ (pins : List (Addr × Obj)) (s : Shared) (σ : St) (H : Hp) (x : V) (xs : List V) (v : Value) (us : List Value) (Q : VK), Inv X pins σ H s → RelV x v → Vals xs us → r x xs H Q →
    wpAny (model X.prog X.w) X.A (call (.builtin id) (v :: us)) (EP X pins σ Q) X.xe s
section
variable {X : Cx} {a b : Expr} {ta tb : TE} {pos : Pos}
theorem IxR.or {r r' : R2} (h : IxR X r) (h' : IxR X r') : IxR X (fun x y H Q => r x y H Q ∨ r' x y H Q) := by
  intro value slice pins s σ H x y v u Q I rx ry q hs
  rcases q with q | q
  · exact h value slice pins s σ H x y v u Q I rx ry q hs
  · exact h' value slice pins s σ H x y v u Q I rx ry q hs
theorem MtR.or {id : String} {r r' : V → List V → Hp → VK → Prop} (h : MtR X id r) (h' : MtR X id r') : MtR X id (fun x xs H Q => r x xs H Q ∨ r' x xs H Q) := by
  intro pins s σ H x xs v us Q I rx rs q
  rcases q with q | q
  · exact h pins s σ H x xs v us Q I rx rs q
  · exact h' pins s σ H x xs v us Q I rx rs q
/-- a[b] -/
theorem pe_ix {r : R2} (hr : IxR X r) (ha : PE X a ta) (hb : PE X b tb) (hs : PlainIx b) : PE X (.Subscript a b pos) (tOp r ta tb) := by
  intro pins s σ H Q I h
  exact Subscript_ (binT ha hb I h fun v u s2 x y H2 I2 rx ry q => hr a b pins s2 σ H2 x y v u Q I2 rx ry q (hs _ _))

def rIxL (K : PySem.W.Frag) : R2 := fun x y H Q => ∃ p xs i v, x = .ref p ∧ y = .int i ∧ SqL K H p xs ∧ atI xs i = some v ∧ Q v H
def rIxT (K : PySem.W.Frag) : R2 := fun x y H Q => ∃ p xs i v, x = .ref p ∧ y = .int i ∧ SqT K H p xs ∧ atI xs i = some v ∧ Q v H
def rIxS : R2 := fun x y H Q => ∃ z i c, x = .str z ∧ y = .int i ∧ z.length ≤ sizeLine ∧ atI z.cps.toList i = some c ∧ Q (.str ⟨#[c]⟩) H
theorem ix_list : IxR X (rIxL X.K) := by
  intro value slice pins s σ H x y v u Q I rx ry h hs
  obtain ⟨p, xs, i, z, rfl, rfl, hq, he, q⟩ := h
  cases rx
  obtain ⟨t, rfl⟩ := ry
  obtain ⟨its, r, pl, hz⟩ := I.list hq
  obtain ⟨j, h1, h2, h3, h4, h5⟩ := atI_get he
  obtain ⟨w, ew, rw'⟩ := r.get h2
  have hl := r.length
  have hn := line63
  have fin : EP X pins σ Q w s := ⟨z, H, I, rw', q⟩
  by_cases h0 : 0 ≤ i
  · have hj : i.toNat = j := by
      rw [seqIndex_of h0 h5] at h1
      exact Option.some.inj h1
    exact item_listR pl.isList h0 (by omega) (by rw [hj]; simpa using ew) fin hs
  · have hj : (i + (its.toArray.size : Int)).toNat = j := by
      rw [seqIndex_neg (by omega) h4] at h1
      rw [List.size_toArray, ← hl]
      exact Option.some.inj h1
    exact subscriptTail_builtinR (x := w) pl.isList.typeIs slot_list_getitem.lookup
      (wpAny_getItem_list_neg (Q := fun r s' => r = w ∧ EP X pins σ Q r s') pl.isList (by omega) (by rw [List.size_toArray] <;> omega) (by omega) (by rw [hj]; simpa using ew) ⟨rfl, fin⟩) hs
theorem ix_tup : IxR X (rIxT X.K) := by
  intro value slice pins s σ H x y v u Q I rx ry h hs
  obtain ⟨p, xs, i, z, rfl, rfl, hq, he, q⟩ := h
  cases rx
  obtain ⟨t, rfl⟩ := ry
  obtain ⟨its, r, pl, hz⟩ := I.tuple hq
  obtain ⟨j, h1, h2, h3, h4, h5⟩ := atI_get he
  obtain ⟨w, ew, rw'⟩ := r.get h2
  have hl := r.length
  have hn := line63
  have fin : EP X pins σ Q w s := ⟨z, H, I, rw', q⟩
  exact subscriptTail_builtinR (x := w) pl.typeIs slot_tuple_getitem.lookup
    (getItem_tuple (j := j) (Q := fun r s' => r = w ∧ EP X pins σ Q r s') pl (by omega) (by omega) (by rw [List.size_toArray, ← hl]; exact h1) (by simpa using ew) ⟨rfl, fin⟩) hs
theorem ix_str : IxR X rIxS := by
  intro value slice pins s σ H x y v u Q I rx ry h hs
  obtain ⟨z, i, c, rfl, rfl, hz, he, q⟩ := h
  obtain ⟨t, rfl⟩ := rx
  obtain ⟨t', rfl⟩ := ry
  obtain ⟨j, h1, h2, h3, h4, h5⟩ := atI_get he
  have hl : z.cps.toList.length = z.length := by simp [Str.length]
  rw [hl] at h1 h4 h5
  have hn := line63
  exact tail_any (typeIs_str s z t) slot_str_getitem.lookup (getItem_str (c := c) (by
    have e1 : decide (i < -(2 ^ 63 : Int)) = false := decide_eq_false (by omega)
    have e2 : decide (i ≥ 2 ^ 63) = false := decide_eq_false (by omega)
    rw [e1, e2, Bool.or_false]) (by rw [h1]; simpa using h2) ⟨.str ⟨#[c]⟩, H, I.tok _, ⟨_, rfl⟩, q⟩) hs
/-- list, tuple or str -/
def rIx (K : PySem.W.Frag) : R2 := fun x y H Q => rIxL K x y H Q ∨ rIxT K x y H Q ∨ rIxS x y H Q
theorem ix_seq : IxR X (rIx X.K) := ix_list.or (ix_tup.or ix_str)

/-! ### xs[i] = v, any sign -/
/-- the list's object behind a store -/
theorem mapSeq_set (its : List Value) (n j : Nat) (u : Value) : Obj.mapSeq (·.setIfInBounds j u) { cls := .type "list", data := .seq its.toArray n } = { cls := .type "list", data := .seq (its.set j u).toArray n } := by
  simp [Obj.mapSeq]
theorem Inv.lst {pins : List (Addr × Obj)} {σ : St} {H : Hp} {s : Shared} {p : Addr} {xs : List V} (I : Inv X pins σ H s) (h : H p = some (.lst xs)) :
    ∃ (its : List Value) (n : Nat), Vals xs its ∧ s.heap.get? p = some { cls := .type "list", data := .seq its.toArray n } ∧ xs.length ≤ sizeLine := by
  obtain ⟨z, its, n, r, e⟩ := I.hok p _ h
  exact ⟨its, n, r, e, z⟩
/-- the list at p is written by an update of its object -/
theorem Inv.lstUpd {pins : List (Addr × Obj)} {σ : St} {H : Hp} {s : Shared} {p : Addr} {xs ys : List V} {its its' : List Value} {n n' : Nat} {f : Obj → Obj} (I : Inv X pins σ H s) (h : H p = some (.lst xs))
    (ho : s.heap.get? p = some { cls := .type "list", data := .seq its.toArray n }) (hf : f { cls := .type "list", data := .seq its.toArray n } = { cls := .type "list", data := .seq its'.toArray n' }) (r : Vals ys its') (hz : ys.length ≤ sizeLine) (t : Nat) :
    Inv X pins σ (upd H p (.lst ys)) { s with heap := s.heap.update p f, toks := t } := by
  have e : (s.heap.update p f).get? p = some { cls := .type "list", data := .seq its'.toArray n' } := by
    rw [Heap.get?_update_self f ho (by rw [hf] <;> rfl), hf]
  refine I.write (x := p) (e := p) (by rw [h]; trivial) (.inl rfl) (fun b u hb q => (Heap.get?_update_other _ _ (Ne.symm hb)).trans q) ⟨_, e⟩ ?_
  exact ⟨hz, its', n', r, e⟩
def rSetL : V → V → V → Hp → (Hp → Prop) → Prop := fun o i v H Q => ∃ p xs k j, o = .ref p ∧ i = .int k ∧ H p = some (.lst xs) ∧ ixN xs.length k = some j ∧ Q (upd H p (.lst (xs.set j v)))
theorem set_list : PSet X rSetL := by
  intro pins s σ H o i v ov iv u Q I ro ri rv h
  obtain ⟨p, xs, k, j, rfl, rfl, hp, hj, q⟩ := h
  cases ro
  obtain ⟨t, rfl⟩ := ri
  obtain ⟨its, n, r, ho, hz⟩ := I.lst hp
  obtain ⟨h1, h2, h3, h4⟩ := ixN_seq hj
  have hl := r.length
  have hn := line63
  have I' : Inv X pins σ (upd H p (.lst (xs.set j v))) { s with heap := s.heap.update p (Obj.mapSeq (·.setIfInBounds j u)) } :=
    I.lstUpd hp ho (mapSeq_set its n j u) (r.set rv j) (by rw [List.length_set]; exact hz) s.toks
  by_cases h0 : 0 ≤ k
  · have hk : k.toNat = j := by
      rw [seqIndex_of h0 h4] at h1
      exact Option.some.inj h1
    exact PySem.W.ki_setAt ho h0 (by omega) (by rw [List.size_toArray, ← hl]; exact h4) (by rw [hk]; exact ⟨_, I', q⟩)
  · have hk : (k + (its.toArray.size : Int)).toNat = j := by
      rw [seqIndex_neg (by omega) h3] at h1
      rw [List.size_toArray, ← hl]
      exact Option.some.inj h1
    exact PySem.W.ki_setBack ho (by omega) (by rw [List.size_toArray, ← hl]; exact h3) (by omega) (by rw [hk]; exact ⟨_, I', q⟩)

/-! ### slices -/
theorem slice_bounds (lo hi : Option Int) (n : Nat) : (sliceBounds lo hi none n).1 = ((HT.sIx n 0 lo : Nat) : Int) ∧ (sliceBounds lo hi none n).2.1 = ((HT.sIx n n hi : Nat) : Int) ∧ (sliceBounds lo hi none n).2.2 = 1 := by
  refine ⟨?_, ?_, rfl⟩
  · cases lo with
    | none => simp [sliceBounds, HT.sIx]
    | some i =>
      simp only [sliceBounds, HT.sIx, Option.getD_none, show (1 : Int) > 0 by decide, if_true]
      by_cases h : i < 0
      · simp only [h, if_true] <;> omega
      · simp only [h, if_false] <;> omega
  · cases hi with
    | none => simp [sliceBounds, HT.sIx]
    | some i =>
      simp only [sliceBounds, HT.sIx, Option.getD_none, show (1 : Int) > 0 by decide, if_true]
      by_cases h : i < 0
      · simp only [h, if_true] <;> omega
      · simp only [h, if_false] <;> omega
theorem slicePick_cut (its : List Value) (lo hi : Option Int) : slicePick its.toArray lo hi none = ((its.drop (HT.sIx its.length 0 lo)).take (HT.sIx its.length its.length hi - HT.sIx its.length 0 lo)).toArray := by
  obtain ⟨h1, h2, h3⟩ := slice_bounds lo hi its.toArray.size
  unfold slicePick
  rw [h1, h2, h3]
  simp only [sliceRange_one, pick_run, List.size_toArray] <;> rfl
/-- xs[lo:hi] of a list: a new list -/
def rSlL (K : PySem.W.Frag) : V → Option Int → Option Int → Hp → VK → Prop := fun x lo hi H Q => ∃ a xs, x = .ref a ∧ SqL K H a xs ∧ ∀ p, H p = none → Q (.ref p) (upd H p (.lst (cutV xs lo hi)))
theorem sl_list : SlR X (rSlL X.K) := by
  intro pins s σ H x v vl vu lo hi sl Q I rx hs pl pu h
  obtain ⟨a, xs, rfl, hx, q⟩ := h
  cases rx
  obtain ⟨its, r, ht, hz⟩ := I.list hx
  have hlen := r.length
  refine ⟨"list", _, slot_list_getitem.lookup, ht.isList.typeIs, ?_⟩
  refine wpAny_getItem_list_slice ht.isList hs pl pu .none (by simp) ?_ (by rw [List.size_toArray] <;> omega)
  rw [slicePick_cut, ← hlen]
  refine ⟨.ref s.heap.objs.size, _, I.laid (t' := s.toks) (o := .lst (cutV xs lo hi)) (fun b ob q => Heap.get?_push_of_some _ q) (Nat.le_refl _) ?_, rfl, q _ (I.hok.fresh (Nat.le_refl _))⟩
  exact ⟨Nat.le_trans (cutV_length xs lo hi) hz, _, 0, (r.drop (HT.sIx xs.length 0 lo)).take (HT.sIx xs.length xs.length hi - HT.sIx xs.length 0 lo), Heap.get?_push_size _ rfl⟩

/-! ### in, not in: flat items -/
/-! ### len, list(x), tuple(x) of any list or tuple that is read -/
theorem call_len_seq : CallR X (.builtin "len") (fun xs H Q => ∃ p ys, xs = [.ref p] ∧ (SqL X.K H p ys ∨ SqT X.K H p ys) ∧ Q (.int ys.length) H) := by
  intro pins s σ H xs us Q I r h
  obtain ⟨p, ys, rfl, hq, q⟩ := h
  obtain ⟨u, rfl, rx⟩ := vals1 r
  cases rx
  have hn := line63
  rcases hq with hq | hq
  · obtain ⟨its, r', pl, hz⟩ := I.list hq
    have hlen := r'.length
    exact Calls.call_len_list pl.isList (by simp only [List.size_toArray] <;> omega) ⟨.int ys.length, H, I.tok _, ⟨s.toks + 1, by rw [List.size_toArray, hlen]⟩, q⟩
  · obtain ⟨its, r', pl, hz⟩ := I.tuple hq
    have hlen := r'.length
    exact len_tuple pl (by simp only [List.size_toArray] <;> omega) ⟨.int ys.length, H, I.tok _, ⟨s.toks + 1, by rw [List.size_toArray, hlen]⟩, q⟩
theorem CallR.or {f : Value} {r r' : List V → Hp → VK → Prop} (h : CallR X f r) (h' : CallR X f r') : CallR X f (fun xs H Q => r xs H Q ∨ r' xs H Q) := by
  intro pins s σ H xs us Q I rs q
  rcases q with q | q
  · exact h pins s σ H xs us Q I rs q
  · exact h' pins s σ H xs us Q I rs q
theorem call_list_of : CallR X (.type "list") (fun xs H Q => ∃ p ys, xs = [.ref p] ∧ (SqL X.K H p ys ∨ SqT X.K H p ys) ∧ ∀ l, H l = none → Q (.ref l) (upd H l (.lst ys))) := by
  intro pins s σ H xs us Q I r h
  obtain ⟨p, ys, rfl, hq, q⟩ := h
  obtain ⟨u, rfl, rx⟩ := vals1 r
  cases rx
  have fin : ∀ (its : List Value), Vals ys its → ys.length ≤ sizeLine → ∀ (h' : Heap) (c' : Nat), (∀ b o', s.heap.get? b = some o' → h'.get? b = some o') →
      h'.get? s.heap.objs.size = some { cls := .type "list", dict := none, data := .seq its.toArray c', slots := #[] } → EP X pins σ Q (.ref s.heap.objs.size) { s with heap := h' } := fun its r' hz h' c' kp e =>
    ⟨.ref s.heap.objs.size, _, I.laid (t' := s.toks) kp (Nat.le_refl _) (show ObjOk X.prog X.w _ h' _ (.lst ys) from ⟨hz, its, c', r', e⟩), rfl, q _ (I.hok.fresh (Nat.le_refl _))⟩
  rcases hq with hq | hq
  · obtain ⟨its, r', pl, hz⟩ := I.list hq
    have hlen := r'.length
    obtain ⟨o, ho, hc, n, hd⟩ := pl.isList
    exact call_list_seq p (.inl rfl) ho hc hd (fun h' c' kp e => fin its r' hz h' c' kp e) (by simp only [List.size_toArray] <;> omega)
  · obtain ⟨its, r', pl, hz⟩ := I.tuple hq
    have hlen := r'.length
    obtain ⟨o, ho, hc, n, hd⟩ := pl
    exact call_list_seq p (.inr rfl) ho hc hd (fun h' c' kp e => fin its r' hz h' c' kp e) (by simp only [List.size_toArray] <;> omega)
theorem call_tuple_of : CallR X (.type "tuple") (fun xs H Q => ∃ p ys, xs = [.ref p] ∧ ((SqL X.K H p ys ∧ ∀ l, H l = none → Q (.ref l) (upd H l (.tup ys))) ∨ (SqT X.K H p ys ∧ Q (.ref p) H))) := by
  intro pins s σ H xs us Q I r h
  obtain ⟨p, ys, rfl, h⟩ := h
  obtain ⟨u, rfl, rx⟩ := vals1 r
  cases rx
  rcases h with ⟨hq, q⟩ | ⟨hq, q⟩
  · obtain ⟨its, r', pl, hz⟩ := I.list hq
    have hlen := r'.length
    refine call_tuple_list pl.isList (fun h' kp => ?_) (by simp only [List.size_toArray] <;> omega)
    have I1 : Inv X pins σ H { s with heap := h' } := I.kept (t' := s.toks) kp
    have I2 : Inv X pins σ (upd H h'.objs.size (.tup ys)) { s with heap := h'.push { cls := .type "tuple", data := .seq its.toArray } } :=
      I1.laid (t' := s.toks) (fun b o e => Heap.get?_push_of_some _ e) (Nat.le_refl _) (show ObjOk X.prog X.w _ _ _ (.tup ys) from ⟨hz, its, r', IsTup.new _ _⟩)
    exact ⟨.ref h'.objs.size, _, I2, rfl, q _ (I1.hok.fresh (Nat.le_refl _))⟩
  · obtain ⟨its, r', pl, hz⟩ := I.tuple hq
    exact call_tuple_same pl ⟨.ref p, H, I, rfl, q⟩

/-! ### the call of a builtin's method: o.m(..) -/
/-- the value is of that builtin type -/
def tyV (K : PySem.W.Frag) (T : String) (x : V) (H : Hp) : Prop := match x with
  | .str _ => T = "str"
  | .int _ => T = "int"
  | .ref p => (T = "list" ∧ ∃ xs, SqL K H p xs) ∨ (T = "tuple" ∧ ∃ o, K.lookup p = some o ∧ o.cls = .type "tuple" ∧ o.dict = none) ∨
      (T = "dict" ∧ ((∃ kvs, H p = some (.dK kvs)) ∨ ∃ kvs, H p = some (.dT kvs))) ∨ (T = "set" ∧ ∃ S n, H p = some (.set S n))
  | _ => False
theorem tyV_is {pins : List (Addr × Obj)} {σ : St} {H : Hp} {s : Shared} {T : String} {x : V} {v : Value} (I : Inv X pins σ H s) (r : RelV x v) (ty : tyV X.K T x H) :
    s.TypeIs v T ∧ ∀ a, v = .ref a → ∃ ob, s.heap.get? a = some ob ∧ ob.dict = none := by
  cases x with
  | str z =>
    obtain ⟨t, rfl⟩ := r
    cases (show T = "str" from ty)
    exact ⟨typeIs_str s z t, fun _ e => nomatch e⟩
  | int i =>
    obtain ⟨t, rfl⟩ := r
    cases (show T = "int" from ty)
    exact ⟨typeIs_int s i t, fun _ e => nomatch e⟩
  | ref p =>
    cases r
    rcases ty with ⟨rfl, xs, hq⟩ | ⟨rfl, o, hk, hc, hd⟩ | ⟨rfl, hk⟩ | ⟨rfl, S, n, hk⟩
    · obtain ⟨its, _, pl, _⟩ := I.list hq
      refine ⟨pl.isList.typeIs, fun a e => ?_⟩
      cases e
      obtain ⟨o, n, e, c, hd, _⟩ := pl
      exact ⟨o, e, hd⟩
    · refine ⟨⟨o, I.kIn p o hk, hc⟩, fun a e => ?_⟩
      cases e
      exact ⟨o, I.kIn _ o hk, hd⟩
    · have z : ∃ o, s.heap.get? p = some o ∧ o.ExactDict := by
        rcases hk with ⟨kvs, hk⟩ | ⟨kvs, hk⟩
        · obtain ⟨_, _, _, _, o, _, _, e, ex, _⟩ := I.hok p _ hk
          exact ⟨o, e, ex⟩
        · obtain ⟨_, _, _, _, o, _, _, e, ex, _⟩ := I.hok p _ hk
          exact ⟨o, e, ex⟩
      obtain ⟨o, e, ex⟩ := z
      refine ⟨⟨o, e, ex.1⟩, fun a e2 => ?_⟩
      cases e2
      exact ⟨o, e, ex.2.1⟩
    · obtain ⟨o, _, _, _, e, ex, _⟩ := I.hok p _ hk
      refine ⟨⟨o, e, ex.1⟩, fun a e2 => ?_⟩
      cases e2
      exact ⟨o, e, ex.2.1⟩
  | _ => exact False.elim ty
def tBM (K : PySem.W.Frag) (T : String) (r : V → List V → Hp → VK → Prop) (to : TE) (t : TA) : TE := fun σ H Q => to σ H fun x H1 => tyV K T x H1 ∧ t σ H1 fun xs H2 => r x xs H2 Q
variable {o e : Expr} {es : List Expr} {to : TE} {t : TA} {name : Str} {apos cpos : Pos} {T id : String} {r : V → List V → Hp → VK → Prop}
theorem pe_bm (pa : PlainAttrs T) (slot : Slot T name id) (hty : typeOf (.builtin id) = pure (.type "method_descriptor")) (hm : MtR X id r) (ho : PE X o to) (ha : PA X (e :: es) t)
    (hbase : attributeBase o name X.env (eval o X.env) = eval o X.env := by rfl)
    (hfew : ((backTo cpos (starEach (e :: es) X.env)).all (fun x => !x.1) && (backToKw cpos (keywordEach [] X.env)).all (fun x => x.1.isSome)
      && decide ((e :: es).length + ([] : List Keyword).length + (if ([] : List Keyword).isEmpty then 0 else 1) < 30)) = true := by rfl)
    (hline : (apos.endLine == cpos.line) = true := by rfl) (hs : starEach (e :: es) X.env = (false, eval e X.env) :: starEach es X.env := by rfl) (hplain : (backTo cpos (starEach es X.env)).any (·.1) = false := by rfl) :
    PE X (.Call (.Attribute o name apos) (e :: es) [] cpos) (tBM X.K T r to t) := by
  intro pins s σ H Q I h
  refine wpAny_Call_method_late hbase hfew hline rfl (thn (ho pins s σ H _ I h) fun v s1 ⟨x, H1, I1, r1, ty, q1⟩ => ?_)
  obtain ⟨h1, h2⟩ := tyV_is I1 r1 ty
  refine ⟨T, id, pa, slot, hty, h1, h2, ?_⟩
  have hA := ha cpos pins s1 σ H1 _ I1 q1
  rw [hs] at hA ⊢
  refine Calls.callWith_builtin (by show (false || (backTo cpos (starEach es X.env)).any (·.1)) = false; rw [hplain] <;> rfl) (Calls.evalArgs_plain ?_)
  exact thn hA fun us s2 ⟨vs, H2, I2, r2, q2⟩ => hm pins s2 σ H2 x vs v us Q I2 r1 r2 q2
/- xs.append(e), list.index on a module's tuple .. are MtR facts of 06m -/
end
end L2

namespace L2
open PySem PySem.Spec PyProof.Rows

def MtM (X : Cx) (id : String) (r : V → List V → Hp → VK → Prop) : Prop :=
  ∀ (pins : List (Addr × Obj)) (s : Shared) (σ : St) (H : Hp) (x : V) (xs : List V) (v : Value) (us : List Value) (Q : VK), Inv X pins σ H s → RelV x v → Vals xs us → r x xs H Q →
    wpAny (model X.prog X.w) X.A (call (.builtin id) (v :: us)) (EP X pins σ Q) X.xe s

/-! ### lists of values -/
theorem Vals.one : ∀ {x : V} {us : List Value}, Vals [x] us → ∃ u, us = [u] ∧ RelV x u
  | _, _, .cons r .nil => ⟨_, rfl, r⟩
theorem Vals.two : ∀ {x y : V} {us : List Value}, Vals [x, y] us → ∃ u v, us = [u, v] ∧ RelV x u ∧ RelV y v
  | _, _, _, .cons r (.cons q .nil) => ⟨_, _, rfl, r, q⟩
theorem Vals.zero : ∀ {us : List Value}, Vals [] us → us = []
  | _, .nil => rfl
theorem Vals.reverse {xs : List V} {us : List Value} (h : Vals xs us) : Vals xs.reverse us.reverse := by
  induction h with
  | nil => exact .nil
  | cons r t ih => rw [List.reverse_cons, List.reverse_cons]; exact Vals.append ih (.cons r .nil)
section
variable {X : Cx} {pins : List (Addr × Obj)} {σ : St} {H : Hp} {s : Shared} {l b : Addr} {xs ys zs : List V}

/-! ### the two steps: a tracked list is rewritten, a new list is laid -/
theorem Inv.lset {its its' : List Value} {n : Nat} {f : Array Value → Array Value} {t' : Nat} (I : Inv X pins σ H s) (hH : H l = some (.lst xs))
    (e : s.heap.get? l = some { cls := .type "list", data := .seq its.toArray n }) (hf : f its.toArray = its'.toArray) (hv : Vals ys its') (hz : ys.length ≤ sizeLine) :
    Inv X pins σ (upd H l (.lst ys)) { s with heap := s.heap.update l (Obj.mapSeq f), toks := t' } := by
  have q := PySem.IsL.update e f
  rw [hf] at q
  refine I.write (x := l) (e := l) (by rw [hH]; exact trivial) (.inl rfl) (fun b' u hb hu => (Heap.get?_update_other s.heap (Obj.mapSeq f) (Ne.symm hb)).trans hu) ⟨_, q⟩ ?_
  exact ⟨hz, its', _, hv, q⟩
theorem Inv.lnew {its : List Value} {t' : Nat} (I : Inv X pins σ H s) (hv : Vals ys its) (hz : ys.length ≤ sizeLine) :
    Inv X pins σ (upd H s.heap.objs.size (.lst ys)) { s with heap := s.heap.push { cls := .type "list", data := .seq its.toArray }, toks := t' } :=
  I.laid (fun _ _ q => Heap.get?_push_of_some _ q) (Nat.le_refl _) ⟨hz, its, 0, hv, Heap.get?_push_size _ rfl⟩
theorem Inv.fresh (I : Inv X pins σ H s) : H s.heap.objs.size = none := I.hok.fresh (Nat.le_refl _)
theorem Inv.lstM (I : Inv X pins σ H s) (hH : H l = some (.lst xs)) : xs.length ≤ sizeLine ∧ ∃ (its : List Value) (n : Nat), Vals xs its ∧ xs.length = its.length ∧ s.heap.get? l = some { cls := .type "list", data := .seq its.toArray n } := by
  obtain ⟨z, its, n, r, e⟩ := I.hok l _ hH
  exact ⟨z, its, n, r, r.length, e⟩

end

section
variable {X : Cx}

/-! ### methods -/
def rAppend : V → List V → Hp → VK → Prop := fun x vs H Q => ∃ l xs y, x = .ref l ∧ vs = [y] ∧ H l = some (.lst xs) ∧ xs.length < sizeLine ∧ Q .non (upd H l (.lst (xs ++ [y])))
theorem mt_append : MtM X "list.append" rAppend := by
  intro pins s σ H x vs v us Q I rx rv h
  obtain ⟨l, xs, y, rfl, rfl, hH, hz, q⟩ := h
  cases rx
  obtain ⟨u, rfl, ru⟩ := rv.one
  obtain ⟨z, its, n, r, hl, e⟩ := I.lstM hH
  refine call_meets F.slot_list_append ⟨_, e, rfl⟩ F.entry_list_append (F.args_list_append_2 _ _) (PySem.list_append l its.toArray n u (by rw [List.size_toArray]; omega)) ⟨e, ?_⟩
  refine ⟨.non, _, I.lset (its' := its ++ [u]) hH e (by simp) (r.append (.cons ru .nil)) ?_, rfl, q⟩
  rw [List.length_append, List.length_singleton]
  omega

/-! ### list + list, list += list, list * int -/
def rCat : R2 := fun x y H Q => ∃ l b xs zs, x = .ref l ∧ y = .ref b ∧ H l = some (.lst xs) ∧ H b = some (.lst zs) ∧ xs.length + zs.length ≤ sizeLine ∧ ∀ p, H p = none → Q (.ref p) (upd H p (.lst (xs ++ zs)))
theorem op_cat : OpR X (binaryOp .Add) rCat := by
  intro pins s σ H x y v u Q I rx ry h
  obtain ⟨l, b, xs, zs, rfl, rfl, hH, hB, hz, q⟩ := h
  cases rx
  cases ry
  obtain ⟨z, its, n, r, hl, e⟩ := I.lstM hH
  obtain ⟨z2, its2, n2, r2, hl2, e2⟩ := I.lstM hB
  refine PySem.P.add_list e e2 ?_ (by rw [List.size_toArray, List.size_toArray]; omega)
  have ea : its.toArray ++ its2.toArray = (its ++ its2).toArray := by simp
  rw [ea]
  exact ⟨.ref _, _, I.lnew (t' := s.toks) (r.append r2) (by rw [List.length_append]; omega), rfl, q _ I.fresh⟩
/-! ### del xs[i] -/
end

/-! ### xs[a:b] = ys -/
section
variable {prog : Program} {w : World} {A : Around} {E : Value → Shared → Prop} {s : Shared}
end

section
variable {X : Cx}
end
end L2

namespace L2
open PySem PySem.Spec PyProof.Rows

theorem Vals.strs : ∀ {xs : List Str} {us : List Value}, Vals (xs.map V.str) us → StrsAre us xs
  | [], us, h => by
    rw [List.map_nil] at h
    cases h
    exact StrsAre.nil
  | x :: xs, us, h => by
    rw [List.map_cons] at h
    cases h with
    | cons r t =>
      obtain ⟨k, rfl⟩ := r
      exact StrsAre.cons x k (Vals.strs t)
theorem Vals.bls : ∀ {bs : List Bool} {us : List Value}, Vals (bs.map V.bl) us → us = bs.map Value.bool
  | [], us, h => by
    rw [List.map_nil] at h
    cases h
    rfl
  | b :: bs, us, h => by
    rw [List.map_cons] at h
    cases h with
    | cons r t =>
      cases r
      rw [Vals.bls t, List.map_cons]
theorem Vals.ref1 {a : Addr} {us : List Value} (r : Vals [V.ref a] us) : us = [Value.ref a] := by
  cases r with
  | cons r t =>
    cases t
    cases r
    rfl
/-! ### the library's walks over a list of ints, kept objects alone -/
section
variable {prog : Program} {w : World} {A : Around} {E : Value → Shared → Prop} {s : Shared} {l : Addr} {its : List Value} {ns : List Int} {Q : Value → Shared → Prop}
end

/-! ### the calls, by values (CallR of 03t; MtR of 06l) -/
section
variable {X : Cx}
/-! sorted, sort (fewer than 64 items: the library's own bound) -/
end

/-! ### list.index, flat items -/
section
variable {X : Cx}
end

/-! ### type(x) of an own instance; is, is not of a module's class -/
section
variable {X : Cx}
end

/-! ### any(xs), all(xs) of a list of bools -/
theorem iter_any {prog : Program} {w : World} {A : Around} {E : Value → Shared → Prop} {s : Shared} {l : Addr} {items : Array Value} {Q : Value → Shared → Prop} (hl : s.heap.IsList l items)
    (h : ∀ s₂ : Shared, s₂ = { s with heap := s.heap.push { cls := .type "list_iterator", data := .fields #[.ref l, .int 0 0] } } →
      (s₂.heap.IsListIter s.heap.objs.size l 0 ∧ s₂.heap.IsList l items) → l ≠ s.heap.objs.size → Q (.ref s.heap.objs.size) s₂) : wpAny (model prog w) A (pyIter (.ref l)) Q E s := by
  have hlt : l < s.heap.objs.size := by obtain ⟨_, e, _⟩ := hl; exact Heap.lt_size e
  exact wpAny_pyIter_list hl (h _ rfl ⟨⟨_, Heap.get?_push_size _ rfl, rfl, rfl⟩, hl.push _⟩ (Nat.ne_of_lt hlt))
theorem truth_bools {prog : Program} {w : World} {A : Around} {bs : List Bool} {its : List Value} (e : its = bs.map Value.bool) :
    TruthOf prog w A (fun i v => its.toArray[i]? = some v) (fun i => bs.getD i false) := fun i v s Q E hv hq => by
  have hv' : its[i]? = some v := by simpa using hv
  rw [e, List.getElem?_map] at hv'
  obtain ⟨b, hb, rfl⟩ := Option.map_eq_some_iff.mp hv'
  have hg : bs.getD i false = b := by rw [List.getD_eq_getElem?_getD, hb] <;> rfl
  have hq' : Q (bs.getD i false) s := hq
  rw [hg] at hq'
  exact wpAny_truthy_bool hq'
theorem all_range : ∀ bs : List Bool, (List.range bs.length).all (fun i => bs.getD i false) = bs.all id
  | [] => rfl
  | b :: bs => by
    rw [List.length_cons, List.range_succ_eq_map, List.all_cons, List.all_map, List.all_cons, ← all_range bs]
    all_goals rfl
section
variable {X : Cx}
def rAll (K : PySem.W.Frag) : List V → Hp → VK → Prop := fun vs H Q => ∃ (a : Addr) (bs : List Bool), vs = [V.ref a] ∧ SqL K H a (bs.map V.bl) ∧ Q (.bl (bs.all id)) H
theorem cr_all (hc : X.calm = true) : CallR X (.builtin "all") (rAll X.K) := by
  intro pins s σ H vs us Q I r h
  obtain ⟨a, bs, rfl, hs, q⟩ := h
  obtain ⟨its, rv, hl, _⟩ := I.list hs
  rw [Vals.ref1 r]
  have hb := rv.bls
  refine call_all_walk (iter_any hl.isList fun s₂ e2 st hne => ?_)
  subst e2
  refine ⟨_, _, _, _, _, _, _, rfl, Walks.list (A := X.A.in1) (I.ok.hd hc) _ a hne its.toArray, st, truth_bools hb, fun h' tk hk => ?_⟩
  refine ⟨.bl _, H, I.kept fun b o eo => hk b o (fun hmem => ?_) (Heap.get?_push_of_some _ eo), ?_, q⟩
  · rcases List.mem_cons.mp hmem with e1 | hmem
    · exact absurd (e1 ▸ Heap.lt_size eo) (Nat.lt_irrefl _)
    · cases hmem
  · show Value.bool _ = Value.bool _
    rw [← all_range, hb, List.size_toArray, List.length_map]
end

/-! ### == and != of data at any depth: none, bools, ints, texts, lists, tuples -/
mutual
inductive Dp (K : PySem.W.Frag) (H : Hp) : V → PyData → Prop
  | non : Dp K H .non .none
  | bl (b : Bool) : Dp K H (.bl b) (.bool b)
  | int (i : Int) : Dp K H (.int i) (.int i)
  | str (x : Str) : Dp K H (.str x) (.str x)
  | lst {a : Addr} {xs : List V} {ds : List PyData} : SqL K H a xs → DpAll K H xs ds → Dp K H (.ref a) (.list ds)
  | tup {a : Addr} {xs : List V} {ds : List PyData} : SqT K H a xs → DpAll K H xs ds → Dp K H (.ref a) (.tuple ds)
inductive DpAll (K : PySem.W.Frag) (H : Hp) : List V → List PyData → Prop
  | nil : DpAll K H [] []
  | cons {v : V} {vs : List V} {d : PyData} {ds : List PyData} : Dp K H v d → DpAll K H vs ds → DpAll K H (v :: vs) (d :: ds)
end
section
variable {X : Cx} {pins : List (Addr × Obj)} {σ : St} {H : Hp} {s : Shared}
mutual
theorem Dp.reads (I : Inv X pins σ H s) : ∀ (d : PyData) (v : V) (u : Value), Dp X.K H v d → RelV v u → ∃ as, Reads s.heap u d as
  | .none, _, _, h, r => by
    cases h
    cases r
    exact ⟨_, Reads.none⟩
  | .bool b, _, _, h, r => by
    cases h
    cases r
    exact ⟨_, Reads.bool b⟩
  | .int i, _, _, h, r => by
    cases h
    obtain ⟨t, rfl⟩ := r
    exact ⟨_, Reads.int i t⟩
  | .str x, _, _, h, r => by
    cases h
    obtain ⟨t, rfl⟩ := r
    exact ⟨_, Reads.str x t⟩
  | .list ds, _, _, h, r => by
    cases h with
    | lst hs ha =>
      cases r
      obtain ⟨its, rv, ⟨o, n, ho, hc, _, hd⟩, _⟩ := I.list hs
      obtain ⟨as, hr⟩ := Dp.readsAll I ds _ its ha rv
      exact ⟨_, Reads.list ho hc hd hr⟩
  | .tuple ds, _, _, h, r => by
    cases h with
    | tup hs ha =>
      cases r
      obtain ⟨its, rv, ⟨o, ho, hc, n, hd⟩, _⟩ := I.tuple hs
      obtain ⟨as, hr⟩ := Dp.readsAll I ds _ its ha rv
      exact ⟨_, Reads.tuple ho hc hd hr⟩
  | .dict _, _, _, h, _ => by cases h
theorem Dp.readsAll (I : Inv X pins σ H s) : ∀ (ds : List PyData) (vs : List V) (us : List Value), DpAll X.K H vs ds → Vals vs us → ∃ as, ReadsAll s.heap us ds as
  | [], _, _, h, r => by
    cases h
    cases r
    exact ⟨_, ReadsAll.nil⟩
  | d :: ds, _, _, h, r => by
    cases h with
    | cons h1 h2 =>
      cases r with
      | cons r1 r2 =>
        obtain ⟨as, q1⟩ := Dp.reads I d _ _ h1 r1
        obtain ⟨bs, q2⟩ := Dp.readsAll I ds _ _ h2 r2
        exact ⟨_, ReadsAll.cons q1 q2⟩
end
end
section
variable {X : Cx}
def rEqD (K : PySem.W.Frag) : R2 := fun x y H Q => ∃ d e, Dp K H x d ∧ Dp K H y e ∧ SeqAt.shaped d = true ∧ SeqAt.shaped e = true ∧ Q (.bl (PyData.eqv d e)) H
def rNeD (K : PySem.W.Frag) : R2 := fun x y H Q => ∃ d e, Dp K H x d ∧ Dp K H y e ∧ SeqAt.shaped d = true ∧ SeqAt.shaped e = true ∧ Q (.bl (!PyData.eqv d e)) H
theorem op_eqD (hu : X.A.units + 64 < cLine) : OpR X (compareOp .Eq) (rEqD X.K) := by
  intro pins s σ H x y v u Q I rx ry h
  obtain ⟨d, e, hd, he, sd, se, q⟩ := h
  obtain ⟨as, r1⟩ := Dp.reads I d x v hd rx
  obtain ⟨bs, r2⟩ := Dp.reads I e y u he ry
  exact SeqAt.compareEq_shaped r1 r2 sd se hu ⟨.bl _, H, I, rfl, q⟩
theorem op_neD (hu : X.A.units + 64 < cLine) : OpR X (compareOp .NotEq) (rNeD X.K) := by
  intro pins s σ H x y v u Q I rx ry h
  obtain ⟨d, e, hd, he, sd, se, q⟩ := h
  obtain ⟨as, r1⟩ := Dp.reads I d x v hd rx
  obtain ⟨bs, r2⟩ := Dp.reads I e y u he ry
  exact SeqAt.compareNe_shaped r1 r2 sd se hu ⟨.bl _, H, I, rfl, q⟩
end
end L2

namespace L2
open PySem PySem.Spec PyProof.Rows
abbrev CellAt (h : Heap) (c : Addr) (v : Option Value) : Prop := h.IsCell c v
def relS (scope sc : Scope) : Scope :=
  { scope with names := scope.names.map fun (n, k) => if (k == .free && sc.kind == .function && sc.names.lookup n == some .cell) then (n, .cell) else (n, k) }

def cloFrom (cells : List (Str × Addr)) : List (Str × NameKind) → List (Str × Addr) → List (Str × Addr)
  | [], acc => acc
  | (n, k) :: r, acc => if k == .free then cloFrom cells r ((n, (cells.lookup n).getD 0) :: acc) else cloFrom cells r acc

theorem closure_loop (env : Env) (f : Str × NameKind → List (Str × Addr) → Sem (ForInStep (List (Str × Addr))))
    (hf : ∀ n k c, f (n, k) c = if k == .free then (do let a ← cellOf env n; pure (.yield ((n, a) :: c))) else pure (.yield c)) :
    ∀ (names : List (Str × NameKind)) (acc : List (Str × Addr)), (∀ y ∈ names, y.2 = .free → ∃ c, env.cells.lookup y.1 = some c) → forIn names acc f = pure (cloFrom env.cells names acc)
  | [], acc, _ => by rw [List.forIn_nil]; rfl
  | (n, k) :: r, acc, h => by
    rw [List.forIn_cons, hf]
    have ih := fun acc => closure_loop env f hf r acc fun y hy => h y (List.mem_cons_of_mem _ hy)
    unfold cloFrom
    by_cases hk : (k == NameKind.free) = true
    · rw [if_pos hk, if_pos hk]
      obtain ⟨c, hc⟩ := h (n, k) List.mem_cons_self (by simpa using hk)
      have e : cellOf env n = pure c := by unfold cellOf; rw [hc]
      rw [e]
      have e2 : (env.cells.lookup n).getD 0 = c := by rw [hc]; rfl
      rw [e2]
      exact ih _
    · rw [if_neg hk, if_neg hk]
      exact ih _
theorem closure_ok {scope : Scope} {env : Env} (h : ∀ y ∈ scope.names, y.2 = .free → ∃ c, env.cells.lookup y.1 = some c) : closureFor scope env = pure (cloFrom env.cells scope.names []) := by
  simp only [closureFor]
  rw [closure_loop env _ (fun n k c => rfl) scope.names [] h]
  rfl

theorem mem_lookup {α : Type} : ∀ {l : List (Str × α)} {n : Str} {c : α}, (n, c) ∈ l → ∃ c', l.lookup n = some c'
  | (k, v) :: r, n, c, h => by
    rw [List.lookup_cons]
    cases hb : n == k with
    | true => exact ⟨_, rfl⟩
    | false =>
      rcases List.mem_cons.mp h with e | h
      · cases e; simp at hb
      · exact mem_lookup h

theorem cloFrom_mem {cells : List (Str × Addr)} : ∀ {names : List (Str × NameKind)} {acc : List (Str × Addr)} {n : Str} {c : Addr}, (n, c) ∈ cloFrom cells names acc → (n, c) ∈ acc ∨ ((n, .free) ∈ names ∧ c = (cells.lookup n).getD 0)
  | [], _, _, _, h => .inl h
  | (m, k) :: r, acc, n, c, h => by
    unfold cloFrom at h
    split at h
    · rename_i hk
      have hk : k = .free := by simpa using hk
      rcases cloFrom_mem h with h | ⟨h1, h2⟩
      · rcases List.mem_cons.mp h with e | h
        · cases e; exact .inr ⟨hk ▸ List.mem_cons_self, rfl⟩
        · exact .inl h
      · exact .inr ⟨List.mem_cons_of_mem _ h1, h2⟩
    · rcases cloFrom_mem h with h | ⟨h1, h2⟩
      · exact .inl h
      · exact .inr ⟨List.mem_cons_of_mem _ h1, h2⟩
theorem cloFrom_acc {cells : List (Str × Addr)} : ∀ {names : List (Str × NameKind)} {acc : List (Str × Addr)} {p : Str × Addr}, p ∈ acc → p ∈ cloFrom cells names acc
  | [], _, _, h => h
  | (m, k) :: r, acc, p, h => by
    unfold cloFrom
    split
    · exact cloFrom_acc (List.mem_cons_of_mem _ h)
    · exact cloFrom_acc h
theorem cloFrom_has {cells : List (Str × Addr)} : ∀ {names : List (Str × NameKind)} {acc : List (Str × Addr)} {n : Str}, (n, .free) ∈ names → (n, (cells.lookup n).getD 0) ∈ cloFrom cells names acc
  | (m, k) :: r, acc, n, h => by
    unfold cloFrom
    rcases List.mem_cons.mp h with e | h
    · cases e
      exact cloFrom_acc List.mem_cons_self
    · split
      · exact cloFrom_has h
      · exact cloFrom_has h

theorem cells_mem : ∀ {names : List (Str × NameKind)} {h : Heap} {acc : List (Str × Addr)} {x : Str} {c : Addr}, (x, c) ∈ cellsFrom h.objs.size names acc →
    (x, c) ∈ acc ∨ ((x, .cell) ∈ names ∧ h.objs.size ≤ c ∧ CellAt (pushCells h names) c none)
  | [], _, _, _, _, h => .inl h
  | (n, k) :: r, h, acc, x, c, hm => by
    unfold cellsFrom at hm
    unfold pushCells
    split at hm
    · rename_i hk
      rw [if_pos hk]
      have hk : k = .cell := by simpa using hk
      rw [← Heap.size_push h { cls := .type "cell", data := .cell none }] at hm
      rcases cells_mem hm with hm | ⟨h1, h2, h3⟩
      · rcases List.mem_cons.mp hm with e | hm
        · cases e
          exact .inr ⟨hk ▸ List.mem_cons_self, Nat.le_refl _, _, pushCells_keeps r _ _ _ (Heap.get?_push_size _ rfl), rfl⟩
        · exact .inl hm
      · rw [Heap.size_push] at h2
        exact .inr ⟨List.mem_cons_of_mem _ h1, Nat.le_of_succ_le h2, h3⟩
    · rename_i hk
      rw [if_neg hk]
      rcases cells_mem hm with hm | ⟨h1, h2, h3⟩
      · exact .inl hm
      · exact .inr ⟨List.mem_cons_of_mem _ h1, h2, h3⟩
theorem cells_acc : ∀ {names : List (Str × NameKind)} {n : Nat} {acc : List (Str × Addr)} {p : Str × Addr}, p ∈ acc → p ∈ cellsFrom n names acc
  | [], _, _, _, h => h
  | (m, k) :: r, n, acc, p, h => by
    unfold cellsFrom
    split
    · exact cells_acc (List.mem_cons_of_mem _ h)
    · exact cells_acc h
theorem cells_has : ∀ {names : List (Str × NameKind)} {n : Nat} {acc : List (Str × Addr)} {x : Str}, (x, .cell) ∈ names → ∃ c, (x, c) ∈ cellsFrom n names acc
  | (m, k) :: r, n, acc, x, h => by
    unfold cellsFrom
    rcases List.mem_cons.mp h with e | h
    · cases e
      exact ⟨n, cells_acc List.mem_cons_self⟩
    · split
      · exact cells_has h
      · exact cells_has h
theorem cells_inj : ∀ {names : List (Str × NameKind)} {h : Heap} {acc : List (Str × Addr)} {x y : Str} {c : Addr}, (∀ p ∈ acc, p.2 < h.objs.size) → (∀ x y c, (x, c) ∈ acc → (y, c) ∈ acc → x = y) →
    (x, c) ∈ cellsFrom h.objs.size names acc → (y, c) ∈ cellsFrom h.objs.size names acc → x = y
  | [], _, _, _, _, _, _, hi, h1, h2 => hi _ _ _ h1 h2
  | (n, k) :: r, h, acc, x, y, c, hl, hi, h1, h2 => by
    unfold cellsFrom at h1 h2
    split at h1
    · rename_i hk
      rw [if_pos hk] at h2
      rw [← Heap.size_push h { cls := .type "cell", data := .cell none }] at h1 h2
      refine cells_inj (h := h.push _) (fun p hp => ?_) (fun x y c a b => ?_) h1 h2
      · rw [Heap.size_push]
        rcases List.mem_cons.mp hp with rfl | hp
        · exact Nat.lt_succ_self _
        · exact Nat.lt_succ_of_lt (hl p hp)
      · rcases List.mem_cons.mp a with e | a <;> rcases List.mem_cons.mp b with e' | b
        · cases e; cases e'; rfl
        · cases e; exact absurd (hl _ b) (Nat.lt_irrefl _)
        · cases e'; exact absurd (hl _ a) (Nat.lt_irrefl _)
        · exact hi _ _ _ a b
    · rename_i hk
      rw [if_neg hk] at h2
      exact cells_inj hl hi h1 h2

theorem newEnv_comp {M : Model} {A : Around} {E : Value → Shared → Prop} {s : Shared} {scope : Scope} {globals : Addr} {closure : List (Str × Addr)} {qual : Str} {func : Option Addr} {code : Value} {around : Env} {builtins : Addr} {Q : Env → Shared → Prop}
    (h : Q (newEnv scope s.heap.objs.size globals (cellsFrom (s.heap.objs.size + 1) scope.names closure) qual func code (some around) builtins)
      { s with heap := pushCells (s.heap.push { cls := .type "dict", data := .dict #[] }) scope.names }) :
    wpAny M A (newFunctionEnv scope globals closure [] qual func code (some around) builtins) Q E s := by
  simp only [newFunctionEnv, Option.isSome_some, if_true]
  refine wpAny_bind (wpAny_alloc ?_)
  refine wpAny_bind (wpAny_layCells _ (fun n k c => rfl) scope.names closure _ _ ?_)
  rw [show ({ s with heap := s.heap.push { cls := .type "dict", data := .dict #[] } } : Shared).heap.objs.size = s.heap.objs.size + 1 from Heap.size_push ..]
  rw [List.forIn_nil]
  exact wpAny_bind (wpAny_pure (wpAny_pure h))

/-- every name of the written scope, in the scope that runs -/
theorem lookup_relS {sc : Scope} : ∀ {names : List (Str × NameKind)} {x : Str} {k : NameKind},
    (names.map fun (n, k) => if (k == NameKind.free && sc.kind == .function && sc.names.lookup n == some .cell) then (n, NameKind.cell) else (n, k)).lookup x = some k →
    ∃ k', names.lookup x = some k' ∧ (k = k' ∨ (k' = .free ∧ k = .cell))
  | [], _, _, h => by simp at h
  | (n, k₀) :: r, x, k, h => by
    have ih := @lookup_relS sc r x k
    have h' : List.lookup x ((if (k₀ == NameKind.free && sc.kind == .function && sc.names.lookup n == some .cell) = true then (n, NameKind.cell) else (n, k₀)) :: (r.map _)) = some k := h
    cases hx : x == n with
    | true =>
      simp only [List.lookup_cons, hx]
      by_cases hc : (k₀ == NameKind.free && sc.kind == .function && sc.names.lookup n == some .cell) = true
      · rw [if_pos hc] at h'
        simp only [List.lookup_cons, hx] at h'
        cases h'
        simp only [Bool.and_eq_true, beq_iff_eq] at hc
        exact ⟨k₀, rfl, .inr ⟨hc.1.1, rfl⟩⟩
      · rw [if_neg hc] at h'
        simp only [List.lookup_cons, hx] at h'
        cases h'
        exact ⟨_, rfl, .inl rfl⟩
    | false =>
      simp only [List.lookup_cons, hx]
      by_cases hc : (k₀ == NameKind.free && sc.kind == .function && sc.names.lookup n == some .cell) = true
      · rw [if_pos hc] at h'
        simp only [List.lookup_cons, hx] at h'
        exact ih h'
      · rw [if_neg hc] at h'
        simp only [List.lookup_cons, hx] at h'
        exact ih h'
/-- the names of a comprehension's block: its own (with their places in N), or captured -/
structure BlkOk (N : List Str) (sc scope : Scope) (own : List (Str × Nat)) : Prop where
  kind : scope.kind = .function
  uniq : ∀ y ∈ scope.names, scope.names.lookup y.1 = some y.2
  ix : ∀ p ∈ own, N[p.2]? = some p.1
  free : ∀ y ∈ scope.names, y.2 = .free → sc.names.lookup y.1 = some .cell ∨ sc.names.lookup y.1 = some .free
  own : ∀ y ∈ scope.names, y.2 = .local ∨ y.2 = .cell → y.1 ∈ own.map (·.1) ∨ y.1 ∉ N
/-- the slots of the block's own names forgotten -/
def wipe (σ : St) : List Nat → St
  | [] => σ
  | v :: vs => (wipe σ vs).set v none
theorem wipe_length (σ : St) : ∀ vs : List Nat, (wipe σ vs).length = σ.length
  | [] => rfl
  | v :: vs => by unfold wipe; rw [List.length_set, wipe_length σ vs]
theorem wipe_some {σ : St} {i : Nat} {x : V} : ∀ {vs : List Nat}, (wipe σ vs)[i]? = some (some x) → σ[i]? = some (some x) ∧ i ∉ vs
  | [], h => ⟨h, by simp⟩
  | v :: vs, h => by
    unfold wipe at h
    by_cases hi : v = i
    · subst hi
      by_cases hv : v < (wipe σ vs).length
      · rw [List.getElem?_set_self hv] at h; cases h
      · rw [List.getElem?_eq_none (by simpa using hv)] at h; cases h
    · rw [List.getElem?_set_ne hi] at h
      obtain ⟨h1, h2⟩ := wipe_some h
      exact ⟨h1, by simp only [List.mem_cons, not_or]; exact ⟨fun e => hi e.symm, h2⟩⟩

/-- the context of a block that starts at s, its iterator's objects at fp -/
abbrev Cx.blk (X : Cx) (s : Shared) (H : Hp) (scope : Scope) (cenv : Env) (fp : List Addr) : Cx := { X with s_0 := s, H_0 := H, env := cenv, outer := X.stack, ex := fp, fn := fun x => scope.names.lookup x == some .cell, pn := [], xe := fun _ _ => False }
section
variable {X : Cx} {pins : List (Addr × Obj)} {σ : St} {H : Hp} {s : Shared}
theorem block_start {scope : Scope} {own : List (Str × Nat)} {fp : List Addr} (I : Inv X pins σ H s) (ok : BlkOk X.N X.env.scope scope own) (hN : X.N.Nodup) (hfp : ∀ b ∈ fp, FpOk X pins H b ∧ b < s.heap.objs.size) :
    Inv (X.blk s H scope (compEnvC scope (cellsFrom (s.heap.objs.size + 1) scope.names (cloFrom X.env.cells scope.names [])) s.heap.objs.size X.env) fp) [] (wipe σ (own.map (·.2))) H { s with heap := pushCells (s.heap.push { cls := .type "dict", data := .dict #[] }) scope.names } := by
  have hfree : ∀ y ∈ scope.names, y.2 = .free → ∃ c, X.env.cells.lookup y.1 = some c := fun y hy e => by
    rcases ok.free y hy e with k | k
    · exact I.ok.has _ (.inl k)
    · exact I.ok.has _ (.inr k)
  generalize hcenv : compEnvC scope (cellsFrom (s.heap.objs.size + 1) scope.names (cloFrom X.env.cells scope.names [])) s.heap.objs.size X.env = cenv
  have kp : ∀ b o, s.heap.get? b = some o → (pushCells (s.heap.push { cls := .type "dict", data := .dict #[] }) scope.names).get? b = some o := fun b o e => pushCells_keeps _ _ _ _ (Heap.get?_push_of_some _ e)
  have hL : cenv.locals = s.heap.objs.size := by rw [← hcenv]; rfl
  have hcl : cenv.cells = cellsFrom (s.heap.objs.size + 1) scope.names (cloFrom X.env.cells scope.names []) := by rw [← hcenv]; rfl
  have hsc : cenv.scope = relS scope X.env.scope := by rw [← hcenv]; rfl
  rw [← Heap.size_push s.heap { cls := .type "dict", data := .dict #[] }] at hcl
  have cm : ∀ {y c}, (y, c) ∈ cloFrom X.env.cells scope.names [] → X.env.cells.lookup y = some c ∧ c < s.heap.objs.size := fun {y c} hm => by
    rcases cloFrom_mem hm with hm | ⟨h1, rfl⟩
    · cases hm
    · obtain ⟨c, hc⟩ := hfree _ h1 rfl
      rw [hc]
      obtain ⟨w, z⟩ := I.cell _ _ hc
      exact ⟨rfl, z.lt⟩
  have mem : ∀ {y c}, cenv.cells.lookup y = some c → (X.env.cells.lookup y = some c ∧ c < s.heap.objs.size) ∨ (s.heap.objs.size + 1 ≤ c ∧ CellAt (pushCells (s.heap.push { cls := .type "dict", data := .dict #[] }) scope.names) c none) := fun {y c} e => by
    rw [hcl] at e
    rcases cells_mem (PySem.mem_of_lookup e) with hm | ⟨_, h2, h3⟩
    · exact .inl (cm hm)
    · rw [Heap.size_push] at h2; exact .inr ⟨h2, h3⟩
  have look : ∀ {y}, scope.names.lookup y = some .free → ∃ c, cenv.cells.lookup y = some c ∧ X.env.cells.lookup y = some c := fun {y} hl => by
    have hy : (y, NameKind.free) ∈ scope.names := PySem.mem_of_lookup hl
    obtain ⟨c', e'⟩ := mem_lookup (cells_acc (names := scope.names) (n := (s.heap.push { cls := .type "dict", data := .dict #[] }).objs.size) (cloFrom_has (cells := X.env.cells) (acc := []) hy))
    rw [← hcl] at e'
    refine ⟨c', e', ?_⟩
    rw [hcl] at e'
    rcases cells_mem (PySem.mem_of_lookup e') with hm | ⟨h1, _, _⟩
    · exact (cm hm).1
    · have := ok.uniq _ h1
      rw [hl] at this; cases this
  have okB : (X.blk s H scope cenv fp).Ok := by
    refine ⟨I.ok.mod, by show cenv.scope.kind = _; rw [hsc]; exact ok.kind, by show cenv.globals = _; rw [← hcenv]; exact I.ok.glob, by show cenv.builtins = _; rw [← hcenv]; exact I.ok.blt, by show s.heap.objs.size ≤ cenv.locals; rw [hL]; exact Nat.le_refl _,
      fun y z c e1 e2 => ?_, fun y hy => ?_, fun y c z e => ?_, I.ok.hd, I.ok.frames, .inl rfl, fun b hb => ⟨?_, fun y c e z => ?_⟩, I.bs, Nat.le_trans I.ok.bsz I.sz, fun b o e hb => ?_, fun b hb z => ?_, I.stack, I.stkFree⟩
    · have e1 : cenv.cells.lookup y = some c := e1
      have e2 : cenv.cells.lookup z = some c := e2
      rw [hcl] at e1 e2
      refine cells_inj (fun p hp => ?_) (fun y z c a b => I.ok.inj y z c (cm a).1 (cm b).1) (PySem.mem_of_lookup e1) (PySem.mem_of_lookup e2)
      rw [Heap.size_push]
      exact Nat.lt_succ_of_lt (cm (y := p.1) (c := p.2) hp).2
    · show ∃ c, cenv.cells.lookup y = some c
      have key : ∀ k, cenv.kindOf y = some k → (k = .cell ∨ k = .free) → ∃ c, cenv.cells.lookup y = some c := fun k hk hk' => by
        unfold Env.kindOf at hk
        rw [hsc] at hk
        obtain ⟨k', e, r⟩ := lookup_relS hk
        have : k' = .cell ∨ k' = .free := by
          rcases r with rfl | ⟨rfl, _⟩
          · exact hk'
          · exact .inr rfl
        rcases this with rfl | rfl
        · obtain ⟨c, hm⟩ := cells_has (n := (s.heap.push { cls := .type "dict", data := .dict #[] }).objs.size) (acc := cloFrom X.env.cells scope.names []) (PySem.mem_of_lookup e)
          obtain ⟨c', e'⟩ := mem_lookup hm
          exact ⟨c', by rw [hcl]; exact e'⟩
        · obtain ⟨c, h1, _⟩ := look e
          exact ⟨c, h1⟩
      rcases hy with hy | hy
      · exact key _ hy (.inl rfl)
      · exact key _ hy (.inr rfl)
    · have z : (scope.names.lookup y == some NameKind.cell) = true := z
      have z : scope.names.lookup y = some .cell := by simpa using z
      have e : cenv.cells.lookup y = some c := e
      rw [hcl] at e
      rcases cells_mem (PySem.mem_of_lookup e) with hm | ⟨_, h2, _⟩
      · rcases cloFrom_mem hm with hm | ⟨h1, _⟩
        · cases hm
        · have q := ok.uniq _ h1
          rw [z] at q; cases q
      · rw [Heap.size_push] at h2
        exact Nat.le_of_succ_le h2
    · show b ≠ cenv.locals
      rw [hL]; exact Nat.ne_of_lt (hfp b hb).2
    · have e : cenv.cells.lookup y = some c := e
      rcases mem e with ⟨h1, _⟩ | ⟨h1, _⟩
      · exact (hfp b hb).1.2.2.2.2.1 y c h1 z
      · have h2 : s.heap.objs.size + 1 ≤ b := by rw [← z]; exact h1
        exact absurd (Nat.lt_of_lt_of_le (hfp b hb).2 (Nat.le_of_succ_le h2)) (Nat.lt_irrefl _)
    · rcases (hfp b hb).1.2.2.2.1 with z | z
      · exact I.ok.noex b o e z
      · exact absurd (Nat.lt_of_lt_of_le (Heap.lt_size e) (Nat.le_trans I.ok.bsz z)) (Nat.lt_irrefl _)
    · rcases List.mem_cons.mp (I.stkSub b z) with z | z
      · exact (hfp b hb).1.2.1 z
      · exact (hfp b hb).1.2.2.1 z
  refine ⟨okB, rfl, I.bare, Un.kept kp, ⟨fun _ => none, ?_, fun i y av e1 e2 e3 => ?_⟩, fun y c e => ?_, ?_, fun y c e => ?_, fun p hp => ?_, I.hok.kept kp, by rw [wipe_length]; exact I.len⟩
  · show Heap.Ns _ cenv.locals _
    rw [hL]
    exact Heap.Ns.keeps (Heap.Ns.new ..) fun b o e => pushCells_keeps _ _ _ _ e
  · obtain ⟨e2, hne⟩ := wipe_some e2
    have hfr : scope.names.lookup y = some .free ∧ (cenv.kindOf y = some .cell ∨ cenv.kindOf y = some .free) := by
      have key : ∀ k, cenv.scope.names.lookup y = some k → k = .local ∨ k = .cell ∨ k = .free → scope.names.lookup y = some .free ∧ (cenv.kindOf y = some .cell ∨ cenv.kindOf y = some .free) := fun k hk hk' => by
        have hk0 := hk
        rw [hsc] at hk
        obtain ⟨k', e, r⟩ := lookup_relS hk
        have no : ¬ (k' = .local ∨ k' = .cell) := fun hh => by
          rcases ok.own _ (PySem.mem_of_lookup e) hh with e' | e'
          · obtain ⟨p, hp, hpy⟩ := List.mem_map.mp e'
            have e3 := ok.ix p hp
            have : p.1 = y := hpy
            rw [this] at e3
            exact hne (List.mem_map.mpr ⟨p, hp, nodup_ix hN e3 e1⟩)
          · exact e' (List.mem_of_getElem? e1)
        rcases r with rfl | ⟨rfl, rfl⟩
        · rcases hk' with rfl | rfl | rfl
          · exact absurd (.inl rfl) no
          · exact absurd (.inr rfl) no
          · exact ⟨e, .inr hk0⟩
        · exact ⟨e, .inl hk0⟩
      have e3 : Vis cenv.scope y := e3
      rcases e3 with e3 | e3 | e3
      · exact key _ e3 (.inl rfl)
      · exact key _ e3 (.inr (.inl rfl))
      · exact key _ e3 (.inr (.inr rfl))
    obtain ⟨m, hn, hl⟩ := I.loc
    have hvis : Vis X.env.scope y := (ok.free _ (PySem.mem_of_lookup hfr.1) rfl).elim (fun k => .inr (.inl k)) (fun k => .inr (.inr k))
    obtain ⟨w, r, q⟩ := hl i y av e1 e2 hvis
    refine ⟨w, r, .inr ⟨hfr.2, ?_⟩⟩
    obtain ⟨c, h1, h2⟩ := look hfr.1
    rcases q with ⟨k, _⟩ | ⟨_, c', e', z⟩
    · have k : X.env.scope.names.lookup y = some .local := k
      rcases ok.free _ (PySem.mem_of_lookup hfr.1) rfl with k' | k' <;> rw [show X.env.scope.names.lookup y = _ from k'] at k <;> cases k
    · rw [h2] at e'; cases e'
      exact ⟨c, h1, z.keeps kp⟩
  · have e : cenv.cells.lookup y = some c := e
    rcases mem e with ⟨h1, _⟩ | ⟨_, z⟩
    · obtain ⟨w, z⟩ := I.cell y c h1
      exact ⟨w, z.keeps kp⟩
    · exact ⟨_, z⟩
  · show H cenv.locals = none
    rw [hL]; exact I.hok.fresh (Nat.le_refl _)
  · have e : cenv.cells.lookup y = some c := e
    rcases mem e with ⟨h1, _⟩ | ⟨h1, _⟩
    · exact I.freeC y c h1
    · exact I.hok.fresh (Nat.le_of_succ_le h1)
  · exact absurd (show p ∈ ([] : List (Addr × Obj)) ++ [] from hp) (by simp)

/-- an item appended to a tracked list -/
theorem app_ok {E : Value → Shared → Prop} {D : Addr} {xs : List V} {y : V} {v : Value} {Q : Value → Shared → Prop} (I : Inv X pins σ H s) (hD : H D = some (.lst xs)) (hz : xs.length < sizeLine) (r : RelV y v)
    (h : ∀ s', Inv X pins σ (upd H D (.lst (xs ++ [y]))) s' → Q .none s') : wpAny (model X.prog X.w) X.A (call (.builtin "list.append") [.ref D, v]) Q E s := by
  obtain ⟨hz', its, n, ri, e⟩ := I.hok D _ hD
  have hl := ri.length
  refine append_at (hsz := by rw [List.size_toArray]; omega) e fun h' sb ho' => ?_
  refine h { s with heap := h' } (I.write (t' := s.toks) (by rw [hD]; trivial) (.inl rfl) (fun b u hb q => (sb.2 b hb).trans q) ⟨_, ho'⟩ ⟨by rw [List.length_append]; exact hz, its ++ [v], n + 1, ri.append (.cons r .nil), ?_⟩)
  rw [ho']
  simp

/-- a clause's tests -/
def PTs (X : Cx) (ifs : List Expr) (t : TT) : Prop :=
  ∀ (pins : List (Addr × Obj)) (s : Shared) (σ : St) (H : Hp) (Q : Bool → Hp → Prop), Inv X pins σ H s → t σ H Q →
    wpAny (model X.prog X.w) X.A (forIn ifs true fun c r => if r = true then do let ok ← isTrue c X.env (eval c X.env); pure (ForInStep.yield ok) else pure (ForInStep.yield r)) (TP X pins σ Q) X.xe s
def tYes : TT := fun _ H Q => Q true H
theorem pts_nil : PTs X [] tYes := fun _ _ _ H _ I h => wpAny_tests_nil ⟨H, I, h⟩
end

theorem thnF {α : Type} {t : Sem α} {Q Q' : α → Shared → Prop} {M : Model} {A : Around} {E : Value → Shared → Prop} {s : Shared} (h : wpAny M A t Q (fun _ _ => False) s) (hQ : ∀ a s, Q a s → Q' a s) : wpAny M A t Q' E s := wpAny_mono h hQ fun _ _ z => False.elim z

/-- the loop of a list comprehension's block, the target of any form (codeAny_compLoop_tests asks a target that no tuple goes to; statement and proof follow it, PyProof/CompMap.lean:41-61, with the step letOwnedTupleGo kept) -/
theorem compLoop_any {prog : Program} {w : World} {A : Around} {R : Result → Shared → Prop} {s : Shared} {elt target iter : Expr} {ifs : List Expr} {scope : Scope} {pos : Pos} {it acc : Value} {env : Env} (I : Nat → Shared → Prop)
    (turn : ∀ n s, I n s → wpAny (model prog w) A (pyNext it) (fun r s₁ => match r with
      | none => R (.ok .next) s₁
      | some v => wpAny (model prog w) A (letOwnedTupleGo target it v) (fun _ s₁' => wpAny (model prog w) A (assign target env v) (fun _ s₂ =>
          wpAny (model prog w) A (forIn ifs true fun c r => if r = true then do let ok ← isTrue c env (eval c env); pure (ForInStep.yield ok) else pure (ForInStep.yield r)) (fun ok s₃ =>
            if ok = true then wpAny (model prog w) A (eval elt env) (fun x s₄ =>
              wpAny (model prog w) A (call (.builtin "list.append") [acc, x]) (fun _ s₅ => ∃ m, m < n ∧ I m s₅) (notedBy (model prog w) A env fun e s' => R (.error e) s') s₄) (notedBy (model prog w) A env fun e s' => R (.error e) s') s₃
            else ∃ m, m < n ∧ I m s₃) (notedBy (model prog w) A env fun e s' => R (.error e) s') s₂) (notedBy (model prog w) A env fun e s' => R (.error e) s') s₁') (notedBy (model prog w) A env fun e s' => R (.error e) s') s₁) (notedBy (model prog w) A env fun e s' => R (.error e) s') s)
    (n : Nat) (h : I n s) :
    codeAny (model prog w) A (.compLoop (.ListComp elt [⟨target, iter, ifs, 0⟩] scope pos) 0 it acc env) R s := by
  refine codeAny_loop rfl I (fun n s hI => ?_) n h
  show wpAny _ A ((compTurn (.ListComp elt [⟨target, iter, ifs, 0⟩] scope pos) 0 it acc env).onRaise (fun x => do noteFrame x env; theTreesLotGoes x)) _ _ s
  refine wpAny_noted ?_
  rw [compTurn_list]
  refine wpAny_bind (wpAny_standAt (wpAny_bind (wpAny_mono (turn n s hI) (fun r s₁ h₁ => ?_) fun _ _ h' => h')))
  cases r with
  | none => exact wpAny_pure h₁
  | some v =>
    refine wpAny_bind (wpAny_mono h₁ (fun _ s₁' h₁' => ?_) fun _ _ h' => h')
    refine wpAny_bind (wpAny_mono h₁' (fun _ s₂ h₂ => wpAny_bind (wpAny_mono h₂ (fun ok s₃ h₃ => ?_) fun _ _ h' => h')) fun _ _ h' => h')
    cases ok with
    | false => exact wpAny_pure ⟨rfl, h₃⟩
    | true =>
      exact wpAny_bind (wpAny_bind (wpAny_mono h₃ (fun x s₄ h₄ => wpAny_bind (wpAny_mono h₄ (fun _ s₅ h₅ => wpAny_pure (wpAny_pure ⟨rfl, h₅⟩)) fun _ _ h' => h')) fun _ _ h' => h'))

section
variable {X : Cx}
/-- [elt for target in iter if ..]: D the new list; W by the turn and a measure, Nx what a turn is to reach -/
def tLc (wi : TI) (g : TG) (tt : TT) (te : TE) (vs : List Nat) : TE := fun σ H Q => wi σ H fun J H1 => ∀ D, H1 D = none → ∃ W : Nat → Nat → Hp → Prop, (∃ m, W 0 m (upd H1 D (.lst []))) ∧ ∀ i m H, W i m H →
  (J.stop i H ∧ Q (.ref D) H) ∨ (J.go i H ∧ ∃ Nx : Hp → Prop, (∀ H', Nx H' → ∃ m', m' < m ∧ W (i + 1) m' H') ∧ ∀ x H', J.yld i H x H' → g x (wipe σ vs) H' fun σ2 H2 => wipe σ2 vs = wipe σ vs ∧ tt σ2 H2 fun b H3 =>
    if b = true then te σ2 H3 fun y H4 => ∃ acc, H4 D = some (.lst acc) ∧ acc.length < sizeLine ∧ Nx (upd H4 D (.lst (acc ++ [y]))) else Nx H3)
theorem lc_core {pins : List (Addr × Obj)} {s : Shared} {σ : St} {H : Hp} {Q : VK} {elt tg iter : Expr} {ifs : List Expr} {scope : Scope} {own : List (Str × Nat)} {pos pos' : Pos} {wi : TI} {g : TG} {tt : TT} {te : TE} {use : Option (Value → Sem Unit)} {Qf : Value → Shared → Prop}
    (hc : X.calm = true) (hN : X.N.Nodup) (I : Inv X pins σ H s) (hi : PI X tg iter wi) (ok : BlkOk X.N X.env.scope scope own)
    (hg : ∀ (s : Shared) (H : Hp) (C : Addr) (cl : List (Str × Addr)) (fp : List Addr), PG (X.blk s H scope (compEnvC scope cl C X.env) fp) tg g) (ht : ∀ (s : Shared) (H : Hp) (C : Addr) (cl : List (Str × Addr)) (fp : List Addr), PTs (X.blk s H scope (compEnvC scope cl C X.env) fp) ifs tt)
    (he : ∀ (s : Shared) (H : Hp) (C : Addr) (cl : List (Str × Addr)) (fp : List Addr), PE (X.blk s H scope (compEnvC scope cl C X.env) fp) elt te) (hs : ∀ x, foldedSetIterable iter X.env x = pure x)
    (h : tLc wi g tt te (own.map (·.2)) σ H Q)
    (hRR : ∀ D C s' m H', Inv X pins σ H' s' → Q (.ref D) H' → s'.heap.Ns C m → FpOk X pins H' C → compPost (model X.prog X.w) X.A X.xe use Qf (.ref D) C (.ok .next) s') :
    wpAny (model X.prog X.w) X.A (comprehension (.ListComp elt [⟨tg, iter, ifs, 0⟩] scope pos) scope X.env pos' (newList []) false (eval iter X.env) use) Qf X.xe s := by
  have hfree : ∀ y ∈ scope.names, y.2 = .free → ∃ c, X.env.cells.lookup y.1 = some c := fun y hy e => by
    rcases ok.free y hy e with k | k
    · exact I.ok.has _ (.inl k)
    · exact I.ok.has _ (.inr k)
  refine wpAny_comprehension_free (use := use) rfl hs (closure_ok hfree) ok.kind (fun y hy e => by rw [ok.uniq y hy, e])
    (thn (hi pins s σ H _ I h) fun xv s1 hx => thn hx fun itv s2 h2 => ?_)
  obtain ⟨it, fp, tn, J, H2, e, I2, T, st2, f2, q⟩ := h2
  subst e
  refine wpAny_newObj_type (newEnv_comp ?_) (by show 0 ≤ sizeLine; decide)
  generalize hD : s2.heap.objs.size = D
  have hDn : H2 D = none := I2.hok.fresh (Nat.le_of_eq hD)
  obtain ⟨W, ⟨m0, w0⟩, turn⟩ := q D hDn
  -- the new list
  generalize hs3 : ({ s2 with heap := s2.heap.push { cls := .type "list", data := .seq ([] : List Value).toArray } } : Shared) = s3
  have I3 : Inv X pins σ (upd H2 D (.lst [])) s3 := by
    rw [← hs3]
    refine I2.laid (t' := s2.toks) (fun b o e => Heap.get?_push_of_some _ e) (Nat.le_of_eq hD) ⟨Nat.zero_le _, [], 0, .nil, ?_⟩
    rw [← hD]
    exact Heap.get?_push_size _ rfl
  have h3 : s3.heap = s2.heap.push { cls := .type "list", data := .seq ([] : List Value).toArray } := by rw [← hs3]
  have sz : ∀ b ∈ fp, b < s2.heap.objs.size := fun b hb => by
    obtain ⟨o, e, _⟩ := T.obj _ _ st2 b hb
    exact Heap.lt_size e
  have f3 : ∀ b ∈ fp, FpOk X pins (upd H2 D (.lst [])) b ∧ b < s3.heap.objs.size := fun b hb => by
    have hlt := sz b hb
    refine ⟨⟨?_, (f2 b hb).2⟩, by rw [h3, Heap.size_push]; exact Nat.lt_succ_of_lt hlt⟩
    rw [upd_ne (by rw [← hD]; exact Nat.ne_of_lt hlt)]
    exact (f2 b hb).1
  have st3 : tn 0 s3.heap := T.keep _ _ _ st2 fun b _ o e => by rw [h3]; exact Heap.get?_push_of_some _ e
  have I4 := block_start I3 ok hN f3
  have pg := hg s3 (upd H2 D (.lst [])) s3.heap.objs.size (cellsFrom (s3.heap.objs.size + 1) scope.names (cloFrom X.env.cells scope.names [])) fp
  have pt := ht s3 (upd H2 D (.lst [])) s3.heap.objs.size (cellsFrom (s3.heap.objs.size + 1) scope.names (cloFrom X.env.cells scope.names [])) fp
  have pe := he s3 (upd H2 D (.lst [])) s3.heap.objs.size (cellsFrom (s3.heap.objs.size + 1) scope.names (cloFrom X.env.cells scope.names [])) fp
  show codeAny _ _ (.compStart (.ListComp elt [⟨tg, iter, ifs, 0⟩] scope pos) 0 (.ref it) (.ref D) (compEnvC scope (cellsFrom (s3.heap.objs.size + 1) scope.names (cloFrom X.env.cells scope.names [])) s3.heap.objs.size X.env)) (compPost (model X.prog X.w) X.A X.xe use Qf (.ref D) s3.heap.objs.size) { s3 with heap := pushCells (s3.heap.push { cls := .type "dict", data := .dict #[] }) scope.names }
  have nfp : ∀ b ∈ fp, (upd H2 D (.lst [])) b = none := fun b hb => (f3 b hb).1.1
  generalize hce : compEnvC scope (cellsFrom (s3.heap.objs.size + 1) scope.names (cloFrom X.env.cells scope.names [])) s3.heap.objs.size X.env = ce at I4 pg pt pe ⊢
  have cL : ce.locals = s3.heap.objs.size := by subst hce; rfl
  generalize hH3 : upd H2 D (.lst []) = H3 at I3 I4 pg pt pe w0 nfp f3
  generalize hs4 : ({ s3 with heap := pushCells (s3.heap.push { cls := .type "dict", data := .dict #[] }) scope.names } : Shared) = s4 at I4 ⊢
  have st4 : tn 0 s4.heap := T.keep _ _ _ st3 fun b _ o e => by rw [← hs4]; exact pushCells_keeps _ _ _ _ (Heap.get?_push_of_some _ e)
  have stat : ∀ {σ' : St} {H' : Hp} {s' : Shared}, Inv (X.blk s3 H3 scope ce fp) [] σ' H' s' → (∀ b ∈ fp, H' b = none) → ∀ b ∈ fp, FpOk (X.blk s3 H3 scope ce fp) [] H' b := fun {σ' H' s'} I' hn b hb =>
    ⟨hn b hb, (I'.ok.exf b hb).1, I'.ok.exfs b hb, .inl hb, fun x c e => (I'.ok.exf b hb).2 x c e, fun p hp => absurd (show p ∈ ([] : List (Addr × Obj)) ++ [] from hp) (by simp)⟩
  have loop : codeAny (model X.prog X.w) X.A (.compLoop (.ListComp elt [⟨tg, iter, ifs, 0⟩] scope pos) 0 (.ref it) (.ref D) ce) (compPost (model X.prog X.w) X.A X.xe use Qf (.ref D) s3.heap.objs.size) s4 := by
    refine compLoop_any (fun n s' => ∃ i H', Inv (X.blk s3 H3 scope ce fp) [] (wipe σ (own.map (·.2))) H' s' ∧ tn i s'.heap ∧ (∀ b ∈ fp, H' b = none) ∧ W i n H') ?_ m0 ⟨0, H3, I4, st4, nfp, w0⟩
    rintro n s5 ⟨i, H5, I5, st5, n5, w5⟩
    rcases turn i n H5 w5 with ⟨stop, qq⟩ | ⟨go, Nx, hNx, step⟩
    · have td := T.done (X.blk s3 H3 scope ce fp) rfl rfl rfl hc i [] s5 _ H5 (fun _ _ => False) I5 (stat I5 n5) st5 stop
      refine thnF td fun r s6 ⟨hr, I6⟩ => ?_
      subst hr
      -- back in the def's context
      have I7 : Inv X pins σ H5 s6 := I3.call' (ch := fp) I6.os I6.base I6.hok I6.bare fun b hb => ⟨(f3 b hb).1.2.2.2.1, (f3 b hb).1.2.1, (f3 b hb).1.2.2.2.2.1, (f3 b hb).1.2.2.2.2.2⟩
      have nC : H5 s3.heap.objs.size = none := by
        have z : H5 ce.locals = none := I6.free
        rw [cL] at z
        exact z
      obtain ⟨m, hn, _⟩ := I6.loc
      have hn : s6.heap.Ns ce.locals m := hn
      rw [cL] at hn
      exact hRR D s3.heap.objs.size s6 m H5 I7 qq hn (I3.fpOk (Nat.le_refl _) nC)
    · have ti := T.item (X.blk s3 H3 scope ce fp) rfl rfl rfl hc i [] s5 _ H5 (fun _ _ => False) I5 (stat I5 n5) st5 go
      refine thnF ti fun r s6 ⟨u, hr, h6⟩ => ?_
      subst hr
      refine thnF h6 fun _ s7 ⟨x, H7, I7, r7, y7, st7, n7⟩ => ?_
      have I7' := I7.pinned (stat I7 n7) (T.obj _ _ st7)
      refine thnF (pg _ s7 _ H7 x u _ I7' r7 (step x H7 y7)) fun _ s8 ⟨σ8, H8, I8, hw8, q8⟩ => ?_
      refine thnF (pt _ s8 σ8 H8 _ I8 q8) fun b s9 ⟨H9, I9, q9⟩ => ?_
      -- the turn's end
      have fin : ∀ {s' : Shared} {H' : Hp}, Inv (X.blk s3 H3 scope ce fp) ([] ++ pinsAt fp s7.heap) σ8 H' s' → Nx H' → ∃ m, m < n ∧ ∃ i H', Inv (X.blk s3 H3 scope ce fp) [] (wipe σ (own.map (·.2))) H' s' ∧ tn i s'.heap ∧ (∀ b ∈ fp, H' b = none) ∧ W i m H' := fun {s' H'} I' nx => by
        obtain ⟨m', hm, w'⟩ := hNx H' nx
        have pin' : ∀ b ∈ fp, ∀ o, s7.heap.get? b = some o → s'.heap.get? b = some o ∧ H' b = none := fun b hb o e =>
          let z := I'.pin (b, o) (List.mem_append_right _ (List.mem_append_right _ (mem_pinsAt hb e)))
          ⟨z.1, z.2.1⟩
        have hl : (wipe σ (own.map (·.2))).length = σ8.length := by rw [← hw8, wipe_length]
        refine ⟨m', hm, i + 1, H', (I'.unpinned (pins := [])).weak hl (fun j v e => ?_), T.keep _ _ _ st7 fun b hb o e => (pin' b hb o e).1, fun b hb => ?_, w'⟩
        · rw [← hw8] at e
          exact (wipe_some e).1
        · obtain ⟨o, e, _⟩ := T.obj _ _ st7 b hb
          exact (pin' b hb o e).2
      cases b with
      | false =>
        simp only [Bool.false_eq_true, if_false] at q9 ⊢
        exact fin I9 q9
      | true =>
        simp only [if_true] at q9 ⊢
        refine thnF (pe _ s9 σ8 H9 _ I9 q9) fun z s10 ⟨yv, H10, I10, r10, acc, hD10, hz10, nx⟩ => ?_
        exact app_ok (X := X.blk s3 H3 scope ce fp) I10 hD10 hz10 r10 fun s11 I11 => fin I11 nx
  exact codeAny_compStart_list loop (T.self X.A 0 _ _ _ st4 loop)
/-- as a value -/
theorem pe_lc {elt tg iter : Expr} {ifs : List Expr} {scope : Scope} {own : List (Str × Nat)} {pos : Pos} {wi : TI} {g : TG} {tt : TT} {te : TE} (hc : X.calm = true) (hN : X.N.Nodup) (hi : PI X tg iter wi) (ok : BlkOk X.N X.env.scope scope own)
    (hg : ∀ (s : Shared) (H : Hp) (C : Addr) (cl : List (Str × Addr)) (fp : List Addr), PG (X.blk s H scope (compEnvC scope cl C X.env) fp) tg g) (ht : ∀ (s : Shared) (H : Hp) (C : Addr) (cl : List (Str × Addr)) (fp : List Addr), PTs (X.blk s H scope (compEnvC scope cl C X.env) fp) ifs tt)
    (he : ∀ (s : Shared) (H : Hp) (C : Addr) (cl : List (Str × Addr)) (fp : List Addr), PE (X.blk s H scope (compEnvC scope cl C X.env) fp) elt te) (hs : ∀ x, foldedSetIterable iter X.env x = pure x := by intro _; rfl) :
    PE X (.ListComp elt [⟨tg, iter, ifs, 0⟩] scope pos) (tLc wi g tt te (own.map (·.2))) := by
  intro pins s σ H Q I h
  rw [eval_ListComp]
  refine lc_core hc hN I hi ok hg ht he hs h fun D C s' m H' I' q hn f => ⟨m, hn, fun h'' sb => ?_⟩
  obtain ⟨f0, f1, f2, f3, f4, f5⟩ := f
  exact ⟨.ref D, H', I'.turned (t' := s'.toks) (fun b o hb e => (sb.2 b hb).trans e) f0 f1 f3 f4 f5, rfl, q⟩
/-- name = [..] on one line, the name a local -/
theorem ps_setLc {i : Nat} {y : Str} {py : Pos} {elt tg iter : Expr} {ifs : List Expr} {scope : Scope} {own : List (Str × Nat)} {pos spos : Pos} {wi : TI} {g : TG} {tt : TT} {te : TE} (hc : X.calm = true) (hN : X.N.Nodup) (hy : X.N[i]? = some y) (hyl : X.env.scope.names.lookup y = some .local)
    (hsw : swapsWith (.ListComp elt [⟨tg, iter, ifs, 0⟩] scope pos) (some (.Name y py)) spos.line X.env = pure true) (hi : PI X tg iter wi) (ok : BlkOk X.N X.env.scope scope own)
    (hg : ∀ (s : Shared) (H : Hp) (C : Addr) (cl : List (Str × Addr)) (fp : List Addr), PG (X.blk s H scope (compEnvC scope cl C X.env) fp) tg g) (ht : ∀ (s : Shared) (H : Hp) (C : Addr) (cl : List (Str × Addr)) (fp : List Addr), PTs (X.blk s H scope (compEnvC scope cl C X.env) fp) ifs tt)
    (he : ∀ (s : Shared) (H : Hp) (C : Addr) (cl : List (Str × Addr)) (fp : List Addr), PE (X.blk s H scope (compEnvC scope cl C X.env) fp) elt te) (hs : ∀ x, foldedSetIterable iter X.env x = pure x := by intro _; rfl) :
    PS X (.Assign [.Name y py] (.ListComp elt [⟨tg, iter, ifs, 0⟩] scope pos) spos) (tAsg (tLc wi g tt te (own.map (·.2))) (gName i)) := by
  intro pins s σ H D I h
  rw [exec_Assign_Name_used _ _ _ _ hsw]
  refine wpAny_bind (wpAny_standAt (wpAny_bind ?_))
  show wpAny _ X.A (do let _ ← comprehension (.ListComp elt [⟨tg, iter, ifs, 0⟩] scope pos) scope X.env (firstIterPos [⟨tg, iter, ifs, 0⟩] pos) (newList []) false (eval iter X.env) (some (assign (.Name y py) X.env))) _ _ s
  have h : tLc wi g tt te (own.map (·.2)) σ H (fun x H1 => gName i x σ H1 D.nx) := h
  refine wpAny_bind (thn (lc_core (Qf := fun _ s' => SP X pins D .next s') hc hN I hi ok hg ht he hs h fun L C s' m H' I' q hn f => ?_) fun _ s' hq => wpAny_pure (wpAny_pure hq))
  show wpAny _ _ (assign (.Name y py) X.env (.ref L)) _ _ _
  refine wpAny_assign_Name (store_ok2 (v := V.ref L) I' hN hy (.inl hyl) rfl (fun s2 I2 ⟨a, sb, ha⟩ => ?_) (.inr hyl))
  obtain ⟨f0, f1, f2, f3, f4, f5⟩ := f
  have haC : C ≠ a := by
    rcases ha with z | z
    · rw [z]; exact f1
    · exact fun e => f4 y a z e.symm
  refine ⟨m, hn.sameBut sb haC, fun h3 sb3 => ?_⟩
  exact ⟨_, H', I2.turned (t' := s2.toks) (fun b o hb e => (sb3.2 b hb).trans e) f0 f1 f3 f4 f5, q⟩
theorem sw_true {elt : Expr} {gs : List Comprehension} {scope : Scope} {pos py : Pos} {y : Str} {l : Nat} {env : Env} (hk : env.scope.kind = .function) (hy : env.scope.names.lookup y = some .local) (hl : (py.line == pos.line) = true)
    (ha : (scope.names.any fun (n, k) => n == y && (k == .local || k == .cell)) = false) : swapsWith (.ListComp elt gs scope pos) (some (.Name y py)) l env = pure true := by
  have ky : env.kindOf y = some .local := hy
  have hb : env.blockKind = .function := by unfold Env.blockKind; rw [hk]; rfl
  unfold swapsWith
  simp only [hb, ky, ha, Expr.pos, hl]
  rfl
end

/-! ### the forms one uses -/
/-- over a list that the block leaves as it is -/
theorem lc_list {K : PySem.W.Frag} {a : Addr} {xs : List V} {g : TG} {tt : TT} {te : TE} {vs : List Nat} {σ : St} {H1 : Hp} {D : Addr} {Qd : Hp → Prop} (Pv : Nat → Hp → Prop) (h0 : Pv 0 (upd H1 D (.lst []))) (hl : ∀ i H, i ≤ xs.length → Pv i H → SqL K H a xs)
    (hs : ∀ i x H, xs[i]? = some x → Pv i H → g x (wipe σ vs) H fun σ2 H2 => wipe σ2 vs = wipe σ vs ∧ tt σ2 H2 fun b H3 =>
      if b = true then te σ2 H3 fun y H4 => ∃ acc, H4 D = some (.lst acc) ∧ acc.length < sizeLine ∧ Pv (i + 1) (upd H4 D (.lst (acc ++ [y]))) else Pv (i + 1) H3) (hd : ∀ H, Pv xs.length H → Qd H) :
    ∃ W : Nat → Nat → Hp → Prop, (∃ m, W 0 m (upd H1 D (.lst []))) ∧ ∀ i m H, W i m H →
      ((Itl K a).stop i H ∧ Qd H) ∨ ((Itl K a).go i H ∧ ∃ Nx : Hp → Prop, (∀ H', Nx H' → ∃ m', m' < m ∧ W (i + 1) m' H') ∧ ∀ x H', (Itl K a).yld i H x H' → g x (wipe σ vs) H' fun σ2 H2 => wipe σ2 vs = wipe σ vs ∧ tt σ2 H2 fun b H3 =>
        if b = true then te σ2 H3 fun y H4 => ∃ acc, H4 D = some (.lst acc) ∧ acc.length < sizeLine ∧ Nx (upd H4 D (.lst (acc ++ [y]))) else Nx H3) := by
  refine ⟨fun i m H => m = xs.length - i ∧ i ≤ xs.length ∧ Pv i H, ⟨xs.length, by simp, Nat.zero_le _, h0⟩, ?_⟩
  rintro i m H ⟨rfl, hi, p⟩
  have q := hl i H hi p
  by_cases hlt : i < xs.length
  · refine .inr ⟨⟨xs, xs[i], q, by simp [hlt]⟩, Pv (i + 1), fun H' p' => ⟨xs.length - (i + 1), by omega, rfl, hlt, p'⟩, fun x H' y => ?_⟩
    obtain ⟨e, y⟩ := y
    subst e
    exact hs i x _ (y xs q) p
  · have e : i = xs.length := by omega
    subst e
    exact .inl ⟨⟨xs, q, Nat.le_refl _⟩, hd H p⟩
/-- over a tuple -/
theorem lc_tup {K : PySem.W.Frag} {a : Addr} {xs : List V} {g : TG} {tt : TT} {te : TE} {vs : List Nat} {σ : St} {H1 : Hp} {D : Addr} {Qd : Hp → Prop} (Pv : Nat → Hp → Prop) (h0 : Pv 0 (upd H1 D (.lst []))) (hl : ∀ i H, i ≤ xs.length → Pv i H → SqT K H a xs)
    (hs : ∀ i x H, xs[i]? = some x → Pv i H → g x (wipe σ vs) H fun σ2 H2 => wipe σ2 vs = wipe σ vs ∧ tt σ2 H2 fun b H3 =>
      if b = true then te σ2 H3 fun y H4 => ∃ acc, H4 D = some (.lst acc) ∧ acc.length < sizeLine ∧ Pv (i + 1) (upd H4 D (.lst (acc ++ [y]))) else Pv (i + 1) H3) (hd : ∀ H, Pv xs.length H → Qd H) :
    ∃ W : Nat → Nat → Hp → Prop, (∃ m, W 0 m (upd H1 D (.lst []))) ∧ ∀ i m H, W i m H →
      ((Itt K a).stop i H ∧ Qd H) ∨ ((Itt K a).go i H ∧ ∃ Nx : Hp → Prop, (∀ H', Nx H' → ∃ m', m' < m ∧ W (i + 1) m' H') ∧ ∀ x H', (Itt K a).yld i H x H' → g x (wipe σ vs) H' fun σ2 H2 => wipe σ2 vs = wipe σ vs ∧ tt σ2 H2 fun b H3 =>
        if b = true then te σ2 H3 fun y H4 => ∃ acc, H4 D = some (.lst acc) ∧ acc.length < sizeLine ∧ Nx (upd H4 D (.lst (acc ++ [y]))) else Nx H3) := by
  refine ⟨fun i m H => m = xs.length - i ∧ i ≤ xs.length ∧ Pv i H, ⟨xs.length, by simp, Nat.zero_le _, h0⟩, ?_⟩
  rintro i m H ⟨rfl, hi, p⟩
  have q := hl i H hi p
  by_cases hlt : i < xs.length
  · refine .inr ⟨⟨xs, xs[i], q, by simp [hlt]⟩, Pv (i + 1), fun H' p' => ⟨xs.length - (i + 1), by omega, rfl, hlt, p'⟩, fun x H' y => ?_⟩
    obtain ⟨e, y⟩ := y
    subst e
    exact hs i x _ (y xs q) p
  · have e : i = xs.length := by omega
    subst e
    exact .inl ⟨⟨xs, q, Nat.le_refl _⟩, hd H p⟩
def blkC (N : List Str) (sc scope : Scope) (own : List (Str × Nat)) : Bool :=
  (match scope.kind with | .function => true | _ => false) && (scope.names.all fun y => decide (scope.names.lookup y.1 = some y.2)) && (own.all fun p => decide (N[p.2]? = some p.1)) &&
    (scope.names.all fun y => match y.2 with
      | .free => (match sc.names.lookup y.1 with | some .cell => true | some .free => true | _ => false)
      | .local => decide (y.1 ∈ own.map (·.1)) || decide (y.1 ∉ N)
      | .cell => decide (y.1 ∈ own.map (·.1)) || decide (y.1 ∉ N)
      | _ => true)
theorem blkOk_by {N : List Str} {sc scope : Scope} {own : List (Str × Nat)} (h : blkC N sc scope own = true) : BlkOk N sc scope own := by
  unfold blkC at h
  simp only [Bool.and_eq_true, List.all_eq_true, decide_eq_true_eq] at h
  obtain ⟨⟨⟨h1, h2⟩, h3⟩, h4⟩ := h
  refine ⟨?_, h2, h3, fun y hy e => ?_, fun y hy e => ?_⟩
  · split at h1
    · assumption
    · cases h1
  · have q := h4 y hy
    simp only [e] at q
    split at q <;> first | exact .inl (by assumption) | exact .inr (by assumption) | cases q
  · have q := h4 y hy
    rcases e with e | e <;> (simp only [e, Bool.or_eq_true, decide_eq_true_eq] at q; exact q)
end L2

namespace L2
open PySem PySem.Spec PyProof.Rows

section
variable {prog : Program} {w : World} {A : Around} {R : Result → Shared → Prop} {s : Shared} {elt t0 i0 t1 i1 : Expr} {ifs0 ifs1 : List Expr} {scope : Scope} {pos : Pos} {it acc : Value} {env : Env}
end

section
variable {X : Cx}
end
end L2

namespace L2
open PySem PySem.Spec PyProof.Rows

/-! ### lists of pairs as tables -/
section
variable {κ : Type} [DecidableEq κ]
def valV (kvs : List (κ × V)) (k : κ) : Option V := (kvs.find? fun kv => decide (kv.1 = k)).map (·.2)
/-- in its place, or at the end -/
def putK (kvs : List (κ × V)) (k : κ) (v : V) : List (κ × V) :=
  if (kvs.any fun kv => decide (kv.1 = k)) = true then kvs.map (fun kv => if kv.1 = k then (kv.1, v) else kv) else kvs ++ [(k, v)]
def dropK (kvs : List (κ × V)) (k : κ) : List (κ × V) := kvs.filter fun kv => decide (kv.1 ≠ k)

theorem RelO.getD {o : Option V} {u : Option Value} {d : V} {d' : Value} (r : RelO o u) (rd : RelV d d') : RelV (o.getD d) (u.getD d') := by
  cases o with
  | none => cases u with
    | none => exact rd
    | some _ => exact (show False from r).elim
  | some _ => cases u with
    | none => exact (show False from r).elim
    | some _ => exact r

theorem KV.any {kvs : List (κ × V)} {vs : List (κ × Value)} (r : KV kvs vs) (k : κ) : (kvs.any fun kv => decide (kv.1 = k)) = vs.any fun kv => decide (kv.1 = k) := by
  unfold KV at r
  induction r with
  | nil => rfl
  | cons h t ih => rw [List.any_cons, List.any_cons, ih, h.1]
theorem KV.drop {kvs : List (κ × V)} {vs : List (κ × Value)} (r : KV kvs vs) (k : κ) : KV (dropK kvs k) (without vs k) := by
  unfold KV at r ⊢
  unfold dropK without
  induction r with
  | nil => exact .nil
  | @cons p q ps qs h t ih =>
    obtain ⟨h1, h2⟩ := h
    rw [List.filter_cons, List.filter_cons]
    by_cases e : p.1 = k
    · have a : ¬ decide (p.1 ≠ k) = true := by simp [e]
      have b : ¬ decide (q.1 ≠ k) = true := by simp [h1.symm.trans e]
      rw [if_neg a, if_neg b]; exact ih
    · have e' : ¬ q.1 = k := fun z => e (h1.trans z)
      have a : decide (p.1 ≠ k) = true := by simp [e]
      have b : decide (q.1 ≠ k) = true := by simp [e']
      rw [if_pos a, if_pos b]; exact .cons ⟨h1, h2⟩ ih
theorem KV.length {kvs : List (κ × V)} {vs : List (κ × Value)} (r : KV kvs vs) : kvs.length = vs.length := Paired.length r
end


/-! ### a tracked dict, its keys ints and texts or tuples of these -/
/-- raw entries of a dict with tuple keys -/
abbrev KT (H : Hp) : List (List Key × V) → List (List Key × Addr × Value) → Prop := Paired fun p q => p.1 = q.1 ∧ H q.2.1 = some (.tup (p.1.map kV)) ∧ RelV p.2 q.2.2
theorem KT.keeps {H H' : Hp} {kvs : List (List Key × V)} {xs : List (List Key × Addr × Value)} (r : KT H kvs xs) (ht : ∀ b ys, H b = some (.tup ys) → H' b = some (.tup ys)) : KT H' kvs xs :=
  Paired.mapP r fun _ _ z => ⟨z.1, ht _ _ z.2.1, z.2.2⟩

section
variable {P : Program} {w : World} {H : Hp} {h : Heap} {a : Addr}
end

/-- what the dict at a holds at the key y -/
def DGet (H : Hp) (a : Addr) (y : V) (r : Option V) : Prop :=
  (∃ kvs k, Rd H a (.dK kvs) ∧ y = kV k ∧ r = valV kvs k) ∨ ∃ kvs k b, Rd H a (.dT kvs) ∧ y = .ref b ∧ H b = some (.tup (k.map kV)) ∧ r = valV kvs k
/-- the heap behind a[y] = v -/
def DPut (H : Hp) (a : Addr) (y v : V) (H' : Hp) : Prop :=
  (∃ kvs k, H a = some (.dK kvs) ∧ y = kV k ∧ kvs.length < sizeLine ∧ H' = upd H a (.dK (putK kvs k v))) ∨
  ∃ kvs k b, H a = some (.dT kvs) ∧ y = .ref b ∧ H b = some (.tup (k.map kV)) ∧ kvs.length < sizeLine ∧ H' = upd H a (.dT (putK kvs k v))
theorem DGet.k {H : Hp} {a : Addr} {kvs : List (Key × V)} {k : Key} (e : H a = some (.dK kvs)) : DGet H a (kV k) (valV kvs k) := .inl ⟨kvs, k, .inl e, rfl, rfl⟩
theorem DGet.t {H : Hp} {a b : Addr} {kvs : List (List Key × V)} {k : List Key} (e : H a = some (.dT kvs)) (eb : H b = some (.tup (k.map kV))) : DGet H a (.ref b) (valV kvs k) := .inr ⟨kvs, k, b, .inl e, rfl, eb, rfl⟩
theorem DPut.k {H : Hp} {a : Addr} {kvs : List (Key × V)} {k : Key} {v : V} (e : H a = some (.dK kvs)) (hl : kvs.length < sizeLine) : DPut H a (kV k) v (upd H a (.dK (putK kvs k v))) := .inl ⟨kvs, k, e, rfl, hl, rfl⟩
theorem DPut.t {H : Hp} {a b : Addr} {kvs : List (List Key × V)} {k : List Key} {v : V} (e : H a = some (.dT kvs)) (eb : H b = some (.tup (k.map kV))) (hl : kvs.length < sizeLine) :
    DPut H a (.ref b) v (upd H a (.dT (putK kvs k v))) := .inr ⟨kvs, k, b, e, rfl, eb, hl, rfl⟩


section
variable {X : Cx} {pins : List (Addr × Obj)} {σ : St} {H : Hp} {s : Shared} {a : Addr} {y v : V} {u r : Value} {o : Option V} {A : Around} {E : Value → Shared → Prop}

end

section
variable {X : Cx} {pins : List (Addr × Obj)} {σ : St} {H : Hp} {s : Shared} {a : Addr} {kvs : List (Key × V)} {k : Key} {u : Value} {A : Around} {E : Value → Shared → Prop}
end


/-! ### readings and rules -/
section
variable {X : Cx} {o i e value : Expr} {pos pos' tpos : Pos} {td ty tv : TE}
end


/-! ### displays -/
section
variable {X : Cx} {pos : Pos}
end

/-! ### methods -/
/-- a method call o.m(e) of a built-in, with one argument: what must be seen of the text -/
structure M1 (X : Cx) (o : Expr) (m : Str) (apos : Pos) (e : Expr) (cpos : Pos) : Prop where
  base : attributeBase o m X.env (eval o X.env) = eval o X.env
  few : ((backTo cpos (starEach [e] X.env)).all (fun x => !x.1) && (backToKw cpos (keywordEach [] X.env)).all (fun x => x.1.isSome)
    && decide (([e] : List Expr).length + ([] : List Keyword).length + (if ([] : List Keyword).isEmpty then 0 else 1) < 30)) = true
  line : (apos.endLine == cpos.line) = true
  trees : backTo cpos (starEach [e] X.env) = [(false, eval e X.env)]
structure M2 (X : Cx) (o : Expr) (m : Str) (apos : Pos) (e f : Expr) (cpos : Pos) : Prop where
  base : attributeBase o m X.env (eval o X.env) = eval o X.env
  few : ((backTo cpos (starEach [e, f] X.env)).all (fun x => !x.1) && (backToKw cpos (keywordEach [] X.env)).all (fun x => x.1.isSome)
    && decide (([e, f] : List Expr).length + ([] : List Keyword).length + (if ([] : List Keyword).isEmpty then 0 else 1) < 30)) = true
  line : (apos.endLine == cpos.line) = true
  trees : backTo cpos (starEach [e, f] X.env) = [(false, eval e X.env), (false, eval f X.env)]

section
variable {X : Cx} {pins : List (Addr × Obj)} {σ : St} {H : Hp} {s : Shared} {a : Addr} {y d : V} {u r : Value} {o : Option V} {A : Around} {E : Value → Shared → Prop}
end

section
variable {X : Cx} {o e f : Expr} {apos cpos : Pos} {td ty tx : TE}
end

/-! ### dict(d): a copy -/
section
variable {X : Cx} {pins : List (Addr × Obj)} {σ : St} {H : Hp} {s : Shared} {a : Addr} {kvs : List (Key × V)} {A : Around} {E : Value → Shared → Prop}
end


section
variable {X : Cx} {pins : List (Addr × Obj)} {σ : St} {H : Hp} {s : Shared} {a : Addr} {y : V} {u : Value} {A : Around} {E : Value → Shared → Prop}
end
end L2

namespace L2
open PySem PySem.Spec PyProof.Rows

section
variable {prog : Program} {w : World} {A : Around} {E : Value → Shared → Prop}
end

section
variable {X : Cx}
end
end L2

namespace L2
open PySem PySem.Spec PyProof.Rows

section
variable {X : Cx} {pins : List (Addr × Obj)} {σ : St} {H : Hp} {s : Shared} {h' : Heap}
/-! ### locking a thing while a statement runs -/
end
section
variable {X : Cx}
/-! ### one iterator just laid -/
end

/-! ### range with a step -/
/-- range(i, j, c): small bounds, n items -/
def RgC (i j c : Int) (n : Nat) : Prop := c ≠ 0 ∧ c.natAbs < 1073741824 ∧ Builtin.Range.small i j c = true ∧ Builtin.Range.rangeSize i j c = n
theorem RgC.neg {i j : Int} (ha : -(2 ^ 62) ≤ i) (ha' : i < 2 ^ 62) (hb : -(2 ^ 62) ≤ j) (hb' : j < 2 ^ 62) : RgC i j (-1) (i - j).toNat :=
  ⟨by decide, by decide, PySem.W.small_down ha ha' hb hb', PySem.W.rangeSize_downNat i j⟩
section
variable {X : Cx} {tg : Expr}
end
/-! ### reversed(list) -/
section
variable {X : Cx} {tg : Expr}
end

/-! ### a str -/
/-! ### a dict's keys: any dict's entries -/
section
variable {prog : Program} {w : World} {A : Around} {E : Value → Shared → Prop} {s : Shared}
end

/-! ### a locked dict -/
section
variable {X : Cx} {pins : List (Addr × Obj)} {σ : St} {H : Hp} {s : Shared} {d : Addr} {o : Obj}
end

section
variable {P : Program} {w : World} {K : PySem.W.Frag} {tg : Expr} {d : Addr} {o : Obj} {es : Array DictEntry} {ep : Nat}
end

/-! ### for k in d, d.keys(), d.values(), d.items() -/
section
variable {X : Cx} {tg e : Expr} {td : TE} {apos cpos : Pos}
end

/-! ### enumerate(list) -/
/-- the list at a as it stands at each turn, each item in a new pair -/
def Ite (K : PySem.W.Frag) (a : Addr) : It :=
  ⟨fun i H => ∃ (xs : List V) (x : V), SqL K H a xs ∧ xs[i]? = some x, fun i H v H' => ∃ T x, v = .ref T ∧ H T = none ∧ H' = upd H T (.tup [.int (i : Nat), x]) ∧ ∀ xs, SqL K H a xs → xs[i]? = some x, fun i H => ∃ xs : List V, SqL K H a xs ∧ xs.length ≤ i⟩
def iEnum (K : PySem.W.Frag) (ta : TA) : TI := fun σ H R => ta σ H fun vs H1 => ∃ a xs, vs = [.ref a] ∧ SqL K H1 a xs ∧ R (Ite K a) H1
/-! ### zip(list, list) -/
/-- the lists at a and b as they stand at each turn, the items in new pairs -/
def Itz (K : PySem.W.Frag) (a b : Addr) : It :=
  ⟨fun i H => ∃ (xs ys : List V) (x y : V), SqL K H a xs ∧ SqL K H b ys ∧ xs[i]? = some x ∧ ys[i]? = some y,
    fun i H v H' => ∃ T x y, v = .ref T ∧ H T = none ∧ H' = upd H T (.tup [x, y]) ∧ (∀ xs, SqL K H a xs → xs[i]? = some x) ∧ ∀ ys, SqL K H b ys → ys[i]? = some y,
    fun i H => ∃ xs ys : List V, SqL K H a xs ∧ SqL K H b ys ∧ (xs.length ≤ i ∨ ys.length ≤ i)⟩
def iZip (K : PySem.W.Frag) (ta : TA) : TI := fun σ H R => ta σ H fun vs H1 => ∃ a b xs ys, vs = [.ref a, .ref b] ∧ SqL K H1 a xs ∧ SqL K H1 b ys ∧ R (Itz K a b) H1
end L2

section 
namespace Bits
open PySem PyProof.Rows

end Bits
end 

section 
namespace TL
open PySem PySem.Builtin PySem.Builtin.Str PySem.StrLaws

abbrev tl (x : Str) : List Nat := x.cps.toList
/-! ### the list functions -/
/-- S stands at the head of l -/
def pre (S l : List Nat) : Bool := l.take S.length == S
/-- l cut at each S from the left; k signs are still to be passed over -/
def spl (S : List Nat) : Nat → List Nat → List Nat → List (List Nat)
  | _, acc, [] => [acc]
  | 0, acc, c :: r => if pre S (c :: r) = true then acc :: spl S (S.length - 1) [] r else spl S 0 (acc ++ [c]) r
  | k + 1, acc, _ :: r => spl S k acc r
/-- what stands before the first S, and behind it -/
def par (S : List Nat) : List Nat → List Nat → Option (List Nat × List Nat)
  | _, [] => none
  | acc, c :: r => if pre S (c :: r) = true then some (acc, (c :: r).drop S.length) else par S (acc ++ [c]) r

theorem spl_nil (S : List Nat) (k : Nat) (acc : List Nat) : spl S k acc [] = [acc] := by cases k <;> rfl
theorem pre_of_head {s c : Nat} (S r : List Nat) (h : c ≠ s) : pre (s :: S) (c :: r) = false := by
  cases hp : pre (s :: S) (c :: r) with
  | false => rfl
  | true =>
    have e : (c :: r).take (s :: S).length = s :: S := eq_of_beq hp
    rw [List.length_cons, List.take_succ_cons] at e
    injection e with e1 e2
    exact absurd e1 h
/-! ### the model's split and partition are these -/
/-! ### computing spl and par -/
/-- the separator's first sign is not in the part -/
theorem free_of {s : Nat} {S p q : List Nat} (h : s ∉ p) : ∀ i, i < p.length → pre (s :: S) ((p ++ q).drop i) = false := fun i hi => by
  have hlt : i < (p ++ q).length := by rw [List.length_append]; omega
  have e : (p ++ q).drop i = (p ++ q)[i] :: (p ++ q).drop (i + 1) := List.drop_eq_getElem_cons hlt
  rw [e]
  refine pre_of_head _ _ fun z => h ?_
  have e1 : (p ++ q)[i] = p[i] := List.getElem_append_left hi
  rw [← z, e1]
  exact List.getElem_mem hi
/-! ### digits -/
/-! ### words: x.split() -/
end TL
end 

namespace L2
open PySem PySem.Spec PyProof.Rows

section
variable {X : Cx} {pins : List (Addr × Obj)} {σ : St} {H : Hp} {s : Shared} {Q : VK}
end

section
variable {X : Cx}

/-! ### of a text alone -/
/-! ### of a text and a text -/
end

section
variable {X : Cx} {o e : Expr} {to te : TE}
end
end L2

namespace L2
open PySem PySem.Spec PyProof.Rows

section
variable {X : Cx}
end

/-! ### slices of a text -/
end L2

namespace Att
open PySem PySem.W PySem.Calls PyProof.Rows

/-! ### the script -/
theorem ints_of_wellAll {P : Params} {h : Heap} : ∀ (ns : List Int) (vs : List Value), WellAll P h vs (ns.map WData.int) → IntsAre vs ns := by
  intro ns
  induction ns with
  | nil =>
    intro vs w
    rw [List.map_nil] at w
    cases w
    exact .nil
  | cons n ns ih =>
    intro vs w
    rw [List.map_cons] at w
    cases w with
    | cons a b =>
      cases a
      exact .cons _ _ (ih _ b)

theorem script_of {l : OpenLaw} {n : Nat} (hn : l.most = some n) {P : Params} {h : Heap} {args : List WData} {vals : List Value}
    (hpre : l.row.toRowW.claim.pre args = true) (hwl : WellAll P h vals args) :
    ∃ a vs ns, vals = [Value.ref a] ∧ args = [WData.list (ns.map WData.int)] ∧ h.get? a = some { cls := .type "list", data := .seq vs.toArray } ∧ IntsAre vs ns ∧ ns.length ≤ n := by
  have hsh : WShape.hasAll [] args [.list .int] = true := (pre_splitW hpre).1
  have hc : l.pre.holds [] { args := args } = true := (pre_splitW hpre).2
  obtain ⟨d, r, rfl, h1, h2⟩ := hasAllW_cons hsh
  obtain rfl := hasAllW_nil h2
  obtain ⟨xs, rfl, h3⟩ := hasW_list h1
  obtain ⟨ns, rfl⟩ := items_int h3
  have hlen : ns.length ≤ n := by
    unfold OpenLaw.pre at hc
    have h4 : (WTm.not (.lt (.lit (.int (n : Int))) (.len (.arg 0)))).holds [] { args := [.list (ns.map .int)] } = true := by
      have h4 := (holds_andW hc).1
      rw [hn] at h4
      exact h4
    have h5 := condW_of h4 (w_not (w_lt w_lit (w_len_list (w_arg rfl))))
    rw [List.length_map] at h5
    refine Nat.le_of_not_lt fun q => ?_
    have q' : (n : Int) < ((ns.length : Nat) : Int) := by omega
    first
      | (rw [decide_eq_true q'] at h5; exact absurd h5 (by decide))
      | (simp at h5; omega)
  cases hwl with
  | cons w1 w2 =>
    cases w2
    cases w1 with
    | list ho hall => exact ⟨_, _, ns, rfl, rfl, ho, ints_of_wellAll ns _ hall, hlen⟩

theorem post_true (l : OpenLaw) (args : List WData) : l.row.toRowW.claim.post args (.bool true) args = true :=
  postW_of (r := l.row.toRowW) (X := (true == true))
    (show WShape.has [] (.bool true) .bool = true by first | rfl | decide | simp [WShape.has, WShape.arms, WShape.armsAll])
    (show (WTm.eq .res (.lit (.bool true))).value [] { args := args, res := some (.bool true), after := args } = some (.bool (true == true)) from w_eq_bool (w_res rfl) w_lit) rfl

/-! ### the attachment: holds_open's last premise (the goal 'hc' behind k_head) from a wpAny of the law's body -/
/-- the same from a codeAny of the CALL (for a layer whose function contracts speak of calls) -/
theorem attach_call {l : OpenLaw} {n : Nat} {q : Program} {loose : List Str} {XP : (Str → Option Value) → Heap → Prop} {YP : World → Heap → Prop} {d : DefRec}
    (hn : l.most = some n) (hdf : d.params.defaults = [])
    (call : ∀ (w : World) (s₀ s₁ : Shared) (mg mb : Str → Option Value) (fa : Addr) (o : Obj) (pm cd doc : Value) (a : Addr) (vs : List Value) (ns : List Int),
      Ground q loose [] XP w s₀ mg mb s₁.heap → YP w s₁.heap →
      s₁.heap.get? fa = some o → o.data = .func (docDef d.name d.params d.body d.scope pm cd doc) → s₁.heap.CodeRec cd d.name → mg d.name = some (.ref fa) →
      s₁.heap.get? a = some { cls := .type "list", data := .seq vs.toArray } → IntsAre vs ns → ns.length ≤ n → s₁.gens = #[] →
      codeAny (model l.prog w) callerA (.call (.ref fa) ⟨[.ref a], []⟩) (fun r s' => r = .ok (.ret (.bool true)) ∧ OldK s₁.heap s'.heap ∧ s'.os = s₁.os ∧ AllBare s'.gens) s₁) :
    WalkO q loose XP YP l.row.toRowW d [] (fun f vs => PySem.call f vs) := by
  intro w s₀ s₁ mg mb G Y fa o pm cd doc dV kV ho hd hcd hD hmg hg args vals as hpre hlay hrd hwl hlo
  obtain rfl : dV = .none := Dflts.none hD hdf
  obtain rfl : kV = .none := Dflts.noKw hD
  obtain ⟨a, vs, ns, rfl, rfl, hobj, hints, hlen⟩ := script_of hn hpre hwl
  refine enter_call (codeAny_mono (call w s₀ s₁ mg mb fa o pm cd doc a vs ns G Y ho (fd_plain hd) hcd hmg hobj hints hlen hg) fun r s' hq => ?_)
  obtain ⟨rfl, h2, h3, h4⟩ := hq
  exact ⟨.inl ⟨.bool true, .bool true, [], rfl, fun _ => rfl, .bool true, post_true l _, fun _ => ⟨List.Pairwise.nil, fun _ hm => (nomatch hm)⟩⟩, h2, h3, h4⟩

/-! ### rules over ANY heap (no ledger) from facts about the written part K: the library's own take a ledger (News) for what they write -/
section
variable {prog : Program} {w : World} {A : Around} {E : Value → Shared → Prop} {s : Shared} {K : Frag}

/-! the whole heap as the ledger: makes every rule that writes through a ledger a rule over any heap -/
end
end Att

namespace L2
open PySem PySem.Spec PyProof.Rows

theorem vals_ints : ∀ {vs : List Value} {ns : List Int}, IntsAre vs ns → Vals (ns.map V.int) vs
  | _, _, .nil => .nil
  | _, _, .cons n t h => .cons ⟨t, rfl⟩ (vals_ints h)

end L2

namespace L2
open PySem PySem.Spec PyProof.Rows

end L2

/- THE LAST THEOREM (shape; LID, My.* are yours):
   My.Adr: a structure of the addresses that your layer names (classes, functions); My.Txt K t: a structure (Prop) of the equations over K;
   My.txt_mk : {K} {implicit addresses ..} (e1 : nsIn K mainGlobals "law" = some (some (.ref f))) (e2 : K.lookup f = some ⟨oc, od, .func (fnOf "law" "law" params body scope dV kV doc pm an cdv ct), sl⟩) (e3 : codeIn K cdv "law" = true) .. : ∃ t, My.Txt K t

set_option maxRecDepth 100000 in
set_option maxHeartbeats 0 in
theorem PySem.Challenge.cw_LID_holds : PySem.Challenge.rw_LID.Holds := by
  w_on; o_law; k_head; (case hw => w_witness2)
  k_fill
  refine L2.walk_of (l := PySem.Challenge.rw_LID) (n := 63) (k := 40) (x := "script") (CX := fun w => ..) (sp := fun _ => My.sp_law) rfl (by decide) rfl ⟨rfl, by decide, by decide⟩ (fun w h Y => PySem.W.kIn_of Y) ?F ?S ?C
  case F =>
    intro w mg fa h KX G hmg
    have T : ∃ t, My.Txt (L2.KOf KX) t := by
      dsimp only [L2.KOf]                          -- K must stand as «<heap const> w.params» for k_is
      refine' My.txt_mk ?e1 ?e2 ?e3 ..
      (case e1 => PySem.W.k_is)                    -- in the order: a name -> its address -> its object -> its parts
      (case e2 => PySem.W.k_is)
      ..
    obtain ⟨t, T⟩ := T
    have e0 := hmg.symm.trans (PySem.W.mg_of KX G T.law)
    cases e0                                       -- fa is the law's own address
    exact ⟨_, fun s u => .of_eq rfl, fun base kb nb => My.law_fn T kb nb⟩     -- if «.of_eq rfl» comes too early: refine' ⟨_, ?b, fun base kb nb => My.law_fn T kb nb⟩; exact fun s u => .of_eq rfl
  case S => exact fun w H a ns hl hO hS => ..
  case C => exact ..
(the tactic k_is has no namespace: write k_is) -/

/-! SHORT WORDS over the layer: a def of the text, its body, what a loop and a test want. -/
namespace L2
open PySem PySem.Spec PyProof.Rows

/-! ### the text by places -/
def defArgs (s : Stmt) : Arguments := match s with
  | .FunctionDef _ a _ _ _ _ _ _ _ _ => a
  | _ => { posonlyargs := [], args := [], vararg := none, kwonlyargs := [], kw_defaults := [], kwarg := none, defaults := [] }
def defBody (s : Stmt) : List Stmt := match s with
  | .FunctionDef _ _ b _ _ _ _ _ _ _ => b
  | _ => []
def defScope (s : Stmt) : Scope := match s with
  | .FunctionDef _ _ _ _ _ _ sc _ _ _ => sc
  | _ => { kind := .function, names := [], isGenerator := false, isCoroutine := false }

/-! ### no exception leaves a def -/
abbrev CX0 : CXT := fun _ _ _ _ _ _ => False
abbrev E0 : XK := fun _ _ _ => False
theorem pass0 {X : Cx} : Passes CX0 X E0 := fun _ _ _ _ _ _ _ h => h.elim

/-! ### a def (or method) of the text as it stands behind the top -/
structure Fun (K : PySem.W.Frag) (x qual : Str) (st : Stmt) (f : Addr) (fd : FuncData) : Prop where
  ex : ∃ (oc : Value) (od : Option Addr) (kV doc pm : Value) (an : Option Addr) (cdv ct : Value) (osl : Array (Option Value)),
    fd = PySem.W.fnOf x qual (defArgs st) (defBody st) (defScope st) .none kV doc pm an cdv ct ∧ K.lookup f = some ⟨oc, od, .func fd, osl⟩ ∧ PySem.W.codeIn K cdv qual = true
  kp : PySem.W.keepIn K (.ref f) = true
section
variable {P : Program} {w : World} {K : PySem.W.Frag} {mg : Str → Option Value} {base : Heap}
/-- THE RULE for a def: its body as a term of rules, and the reading of that term -/
theorem Fun.ok {x qual : Str} {st : Stmt} {f : Addr} {fd : FuncData} {N ps : List Str} {k : Nat} {sp : Sp} (F : Fun K x qual st f fd) (S : FnScope N ps (defScope st)) (len : ∀ vs H Q E, sp vs H Q E → vs.length = ps.length)
    (hbody : ∀ (cdv : Value) (A : Around) (outer : List Env) (s : Shared) (H : Hp) (vs : List V) (Q : VK) (E : XK), Room k (A.deeper (envOfC qual (defScope st) s.heap.objs.size f cdv)) → sp vs H Q E →
      ∃ t, PSs (cxOf CX0 P w K mg base N qual (defScope st) f cdv A outer s H E).nox (defBody st) t ∧ t { nx := fun _ H' => Q .non H', rt := Q } (start N vs) H) : FnOk P w K mg base CX0 (k + 1) f fd ps sp := by
  obtain ⟨oc, od, kV, doc, pm, an, cdv, ct, osl, rfl, lk, hcd⟩ := F.ex
  refine fn_of lk hcd S len fun A outer s H vs Q E hr hsp => ?_
  obtain ⟨t, h, q⟩ := hbody cdv A outer s H vs Q E hr hsp
  exact ⟨t, h.nox, q⟩
/-- how its arguments bind (no defaults): h is «fun _ _ _ _ _ _ us hl => match us, hl with | [_, _], _ => rfl», one _ a parameter -/
theorem Fun.binds {x qual : Str} {st : Stmt} {f : Addr} {fd : FuncData} {ps : List Str} (F : Fun K x qual st f fd)
    (h : ∀ (kV doc pm : Value) (an : Option Addr) (cdv ct : Value) (us : List Value), us.length = ps.length → bindArgs (PySem.W.fnOf x qual (defArgs st) (defBody st) (defScope st) .none kV doc pm an cdv ct) ⟨us, []⟩ = pure (ps.zip us)) : Binds K fd ps [] := by
  obtain ⟨oc, od, kV, doc, pm, an, cdv, ct, osl, rfl, lk, hcd⟩ := F.ex
  exact .all (h kV doc pm an cdv ct)
theorem fun_mk {x qual : Str} {st : Stmt} {f : Addr} {oc : Value} {od an : Option Addr} {osl : Array (Option Value)} {kV doc pm cdv ct : Value} (l : K.lookup f = some ⟨oc, od, .func (PySem.W.fnOf x qual (defArgs st) (defBody st) (defScope st) .none kV doc pm an cdv ct), osl⟩)
    (c : PySem.W.codeIn K cdv qual = true) (k : PySem.W.keepIn K (.ref f) = true) : Fun K x qual st f (PySem.W.fnOf x qual (defArgs st) (defBody st) (defScope st) .none kV doc pm an cdv ct) := ⟨⟨oc, od, kV, doc, pm, an, cdv, ct, osl, rfl, l, c⟩, k⟩
end
theorem small1000 {n : Nat} (h : n ≤ 1000) : n < sizeLine := Nat.lt_of_le_of_lt h (by decide)

/-! ### expressions in short: the name that stands in the i-th slot -/
section
variable {X : Cx}
theorem pv (i : Nat) {x : Str} {pos : Pos} (hN : X.N[i]? = some x := by rfl) (hv : Vis X.env.scope x := by first | exact Or.inl rfl | exact Or.inr (Or.inl rfl) | exact Or.inr (Or.inr rfl)) (hd : (x == ("__debug__" : Str)) = false := by decide)
    (hcd : (x == ("__classdict__" : Str)) = false := by decide) : PE X (.Name x pos) (tVar i) := pe_var hN hv hd hcd
end

/-! ### tests -/
/-! ### heaps -/
/-- all that was tracked is as it was -/
def Same (H H' : Hp) : Prop := ∀ b o, H b = some o → H' b = some o
theorem Same.refl (H : Hp) : Same H H := fun _ _ h => h
theorem Same.trans {H H1 H2 : Hp} (a : Same H H1) (b : Same H1 H2) : Same H H2 := fun c o h => b c o (a c o h)
theorem Same.free {H H' : Hp} (e : Same H H') {l : Addr} (h : H' l = Option.none) : H l = Option.none := by
  cases q : H l with
  | none => rfl
  | some o =>
    rw [e l o q] at h
    cases h
theorem Same.seq {K : PySem.W.Frag} {H H' : Hp} {a : Addr} {xs : List V} (e : Same H H') (h : SqL K H a xs) : SqL K H' a xs := by
  rcases h with (h | ⟨o, h⟩) | h
  · exact .inl (.inl (e _ _ h))
  · exact .inl (.inr ⟨o, e _ _ h⟩)
  · exact .inr h

/-! ### a dict's pairs: keys that differ -/
section
variable {κ : Type} [DecidableEq κ]
end
/-! ### lists -/
/-- a new instance and its __init__ leave all that was tracked as it was -/
theorem Same.made {H H1 : Hp} {x dx C : Addr} (nx : H x = Option.none) (nd : H dx = Option.none) (k : ∀ b o, (upd (upd H dx (.own x)) x (.ins C dx [])) b = some o → b ≠ x → H1 b = some o) : Same H H1 := fun b o e =>
  k b o (by rw [upd_ne (ne_of_none e nx), upd_ne (ne_of_none e nd)]; exact e) (ne_of_none e nx)
end L2
end
section
set_option Elab.async false
set_option linter.all false
set_option maxRecDepth 100000
namespace L2
open PySem PySem.Spec PyProof.Rows
section
variable {X : Cx}
def CDivB (_i j : Int) : Prop := j ≠ 0 ∧ j.natAbs < 2 ^ 8000
theorem CDivB.no {i j : Int} (h : CDivB i j) : Builtin.divisionGoesByPylong i j = false := by
  refine PyProof.noPylong_of_log2 ?_
  have h0 : j.natAbs ≠ 0 := by have := h.1; omega
  have := (Nat.log2_lt h0).mpr h.2
  omega
theorem op_fdivB : OpR X (binaryOp .FloorDiv) (rI CDivB fun i j => .int (i.fdiv j)) := opI fun _ _ _ _ _ _ _ hc q => floordiv_int hc.1 q (.inl hc.no)
theorem op_mulB : OpR X (binaryOp .Mult) (rI IntMulOk fun i j => .int (i * j)) := opI fun _ _ _ _ _ _ _ hc q => mul_int q hc
theorem mulOk {a b : Int} {m n : Nat} (ha : a.natAbs < 2 ^ m) (hb : b.natAbs < 2 ^ n) (h : m + n ≤ 134217728) : IntMulOk a b :=
  mulOk_of_bits (intBits_le_iff.mpr ha) (intBits_le_iff.mpr hb) h
theorem mulOkR {a b : Int} (hb : b.natAbs < 2 ^ 64) : IntMulOk a b := .of_right (intBits_le_iff.mpr hb)
theorem mulOkL {a b : Int} (hb : a.natAbs < 2 ^ 64) : IntMulOk a b := .of_left (intBits_le_iff.mpr hb)
/-- ints, texts, lists -/
def rAddA : R2 := fun x y H Q => rI0 (fun i j => .int (i + j)) x y H Q ∨ rCat x y H Q
theorem op_addA : OpR X (binaryOp .Add) rAddA := OpR.or op_add op_cat
def rNotB : R2 := fun x y H Q => ∃ a b, x = .bl a ∧ y = .bl b ∧ Q (.bl (!(a == b))) H
def rNotA : R2 := fun x y H Q => (y = .non ∧ Q (.bl (!decide (x = .non))) H) ∨ rNotB x y H Q
def rEqA (K : PySem.W.Frag) : R2 := fun x y H Q => rEq x y H Q ∨ rEqD K x y H Q
def rNeA (K : PySem.W.Frag) : R2 := fun x y H Q => rNe x y H Q ∨ rNeD K x y H Q
theorem op_eqA (hu : X.A.units + 64 < cLine) : OpR X (compareOp .Eq) (rEqA X.K) := OpR.or op_eq (op_eqD hu)
theorem op_neA (hu : X.A.units + 64 < cLine) : OpR X (compareOp .NotEq) (rNeA X.K) := OpR.or op_ne (op_neD hu)
/-- isinstance(x, c), c a type's own name or a class -/
def rIsi (K : PySem.W.Frag) : List V → Hp → VK → Prop := fun xs H Q => ∃ x y c t b, xs = [x, y] ∧ (y = .ty c) ∧ TyOf K H x t ∧ PySem.W.kitOne K t (.type c) = some b ∧ Q (.bl b) H
theorem call_isi : CallR X (.builtin "isinstance") (rIsi X.K) := by
  intro pins s σ H xs us Q I r h
  obtain ⟨x, y, c, t, b, rfl, rfl, ty, e, q⟩ := h
  cases r with
  | cons rx r' =>
    cases r' with
    | cons ry r'' =>
      cases r''
      cases ry
      exact isinst_ok I rx ty e fun tk => ⟨.bl b, H, I.tok _, rfl, q⟩
end
end L2
end
section
namespace My
/-- the divisor with the bottom's sign -/
def sg (t b : Int) : Int := if b < 0 then -((t.natAbs.gcd b.natAbs : Nat) : Int) else ((t.natAbs.gcd b.natAbs : Nat) : Int)
theorem gcd_pos {t b : Int} (hb : b ≠ 0) : 0 < t.natAbs.gcd b.natAbs := Nat.gcd_pos_of_pos_right _ (by omega)
theorem sg_ne {t b : Int} (hb : b ≠ 0) : sg t b ≠ 0 := by
  have h := gcd_pos (t := t) hb
  unfold sg
  split <;> omega
theorem sg_abs {t b : Int} : (sg t b).natAbs = t.natAbs.gcd b.natAbs := by
  unfold sg
  split <;> omega
theorem sg_le {t b : Int} (hb : b ≠ 0) : (sg t b).natAbs ≤ b.natAbs := by
  rw [sg_abs]
  exact Nat.le_of_dvd (by omega) (Nat.gcd_dvd_right _ _)
theorem low_num {t b : Int} (hb : b ≠ 0) : t.fdiv (sg t b) = (Rat.divInt t b).num := by
  rw [Rat.num_divInt]
  have hg := gcd_pos (t := t) hb
  have d1 : ((t.natAbs.gcd b.natAbs : Nat) : Int) ∣ t := Int.ofNat_dvd_left.mpr (Nat.gcd_dvd_left _ _)
  have e : b.gcd t = t.natAbs.gcd b.natAbs := by rw [Int.gcd, Nat.gcd_comm]
  rw [e]
  obtain ⟨c, hc⟩ := d1
  generalize hG : ((t.natAbs.gcd b.natAbs : Nat) : Int) = G at *
  have hG0 : G ≠ 0 := by omega
  unfold sg
  rw [hG]
  by_cases h : b < 0
  · rw [if_pos h, Int.sign_eq_neg_one_of_neg h, hc, Int.fdiv_neg, Int.neg_one_mul, ← Int.mul_neg, Int.mul_ediv_cancel_left _ hG0]
    have hdv : G ∣ G * c := Int.dvd_mul_right _ _
    rw [if_pos hdv, Int.mul_fdiv_cancel_left _ hG0]
    exact hG0
  · rw [if_neg h, Int.sign_eq_one_of_pos (by omega), hc, Int.one_mul, Int.mul_ediv_cancel_left _ hG0, Int.mul_fdiv_cancel_left _ hG0]
theorem low_den {t b : Int} (hb : b ≠ 0) : b.fdiv (sg t b) = ((Rat.divInt t b).den : Int) := by
  rw [Rat.den_divInt, if_neg hb]
  have hg := gcd_pos (t := t) hb
  have e : b.gcd t = t.natAbs.gcd b.natAbs := by rw [Int.gcd, Nat.gcd_comm]
  rw [e]
  obtain ⟨c, hc⟩ := Nat.gcd_dvd_right t.natAbs b.natAbs
  generalize hG : t.natAbs.gcd b.natAbs = G at *
  have e2 : b.natAbs / G = c := by rw [hc, Nat.mul_div_cancel_left _ hg]
  rw [e2]
  unfold sg
  rw [hG]
  have hG0 : (G : Int) ≠ 0 := by omega
  by_cases h : b < 0
  · rw [if_pos h]
    have : b = (-(G : Int)) * c := by
      have : (b.natAbs : Int) = (G : Int) * c := by rw [hc]; simp
      rw [Int.neg_mul]; omega
    rw [this, Int.mul_fdiv_cancel_left _ (by omega)]
  · rw [if_neg h]
    have : b = (G : Int) * c := by
      have : (b.natAbs : Int) = (G : Int) * c := by rw [hc]; simp
      omega
    rw [this, Int.mul_fdiv_cancel_left _ hG0]
theorem den_le {t b : Int} (hb : b ≠ 0) : (Rat.divInt t b).den ≤ b.natAbs := by
  rw [Rat.den_divInt, if_neg hb]
  exact Nat.div_le_self _ _
theorem q_add (q r : Rat) : Rat.divInt (q.num * r.den + r.num * q.den) (q.den * r.den) = q + r := by
  have h1 := q.den_nz
  have h2 := r.den_nz
  rw [← Rat.divInt_add_divInt _ _ (by omega) (by omega), Rat.num_divInt_den, Rat.num_divInt_den]
theorem q_sub (q r : Rat) : Rat.divInt (q.num * r.den - r.num * q.den) (q.den * r.den) = q - r := by
  have h1 := q.den_nz
  have h2 := r.den_nz
  rw [← Rat.divInt_sub_divInt _ _ (by omega) (by omega), Rat.num_divInt_den, Rat.num_divInt_den]
theorem q_mul (q r : Rat) : Rat.divInt (q.num * r.num) (q.den * r.den) = q * r := by
  rw [← Rat.divInt_mul_divInt, Rat.num_divInt_den, Rat.num_divInt_den]
theorem dd_ne (q r : Rat) : (q.den : Int) * r.den ≠ 0 := by
  have h1 := q.den_nz
  have h2 := r.den_nz
  exact Int.mul_ne_zero (by omega) (by omega)
end My
end
section
set_option Elab.async false
set_option linter.all false
set_option maxRecDepth 100000
namespace L2
open PySem PySem.Spec PyProof.Rows
/-- a def that may be called by its name -/
structure Cal (P : Program) (w : World) (K : PySem.W.Frag) (mg : Str → Option Value) (base : Heap) (k : Nat) (x : Str) (ps : List Str) (sp : Sp) : Prop where
  ex : ∃ f fd, FnOk P w K mg base CX0 k f fd ps sp ∧ mg x = some (.ref f) ∧ PySem.W.keepIn K (.ref f) = true ∧ Binds K fd ps []
theorem pe_callC {X : Cx} {k j : Nat} {x : Str} {ps : List Str} {sp : Sp} {p pos : Pos} {e : Expr} {es : List Expr} {t : TA} (C : Cal X.prog X.w X.K X.mg X.base k x ps sp) (hr : Room j X.A) (hj : k ≤ j) (hg : Gl X x)
    (ha : PA X (e :: es) t) (hdb : (x == ("__debug__" : Str)) = false := by decide) (he : starEach (e :: es) X.env = (false, eval e X.env) :: starEach es X.env := by rfl) (hpl : (backTo pos (starEach es X.env)).any (·.1) = false := by rfl) :
    PE X (.Call (.Name x p) (e :: es) [] pos) (tCall sp [] E0 t) := by
  obtain ⟨f, fd, F, m, k, b⟩ := C.ex
  exact pe_call F (hr.mono hj) hg m k b .nil pass0 ha hdb he hpl
theorem cal_of {P : Program} {w : World} {K : PySem.W.Frag} {mg : Str → Option Value} {base : Heap} {x qual : Str} {st : Stmt} {f : Addr} {fd : FuncData} {N ps : List Str} {k : Nat} {sp : Sp} (F : Fun K x qual st f fd) (S : FnScope N ps (defScope st)) (m : mg x = some (.ref f)) (b : Binds K fd ps [])
    (len : ∀ vs H Q E, sp vs H Q E → vs.length = ps.length)
    (hbody : ∀ (cdv : Value) (A : Around) (outer : List Env) (s : Shared) (H : Hp) (vs : List V) (Q : VK) (E : XK), Room k (A.deeper (envOfC qual (defScope st) s.heap.objs.size f cdv)) → sp vs H Q E →
      ∃ t, PSs (cxOf CX0 P w K mg base N qual (defScope st) f cdv A outer s H E).nox (defBody st) t ∧ t { nx := fun _ H' => Q .non H', rt := Q } (start N vs) H) : Cal P w K mg base (k + 1) x ps sp :=
  ⟨f, fd, F.ok S len hbody, m, F.kp, b⟩
/-- a fraction -/
structure Fr (m : Nat) (H : Hp) (v : V) (q : Rat) : Prop where
  at_ : ∃ a, v = .ref a ∧ H a = some (.tup [.int q.num, .int q.den])
  nb : q.num.natAbs < 2 ^ m
  db : q.den < 2 ^ m
theorem Fr.mono {m : Nat} {H H' : Hp} {v : V} {q : Rat} (s : Same H H') (h : Fr m H v q) : Fr m H' v q := by
  obtain ⟨⟨a, e, h1⟩, h2, h3⟩ := h
  exact ⟨⟨a, e, s _ _ h1⟩, h2, h3⟩
theorem same_upd {H : Hp} {p : Addr} {o : HO} (h : H p = none) : Same H (upd H p o) := fun b u e => by
  rw [upd_ne (ne_of_none e h)]; exact e
end L2
end
section
set_option Elab.async false
set_option linter.all false
set_option maxRecDepth 100000
namespace L2
open PySem PySem.Spec PyProof.Rows
theorem bt_abs : bootBuiltins "abs" = some (.builtin "abs") := by decide +kernel
theorem bt_isinstance : bootBuiltins "isinstance" = some (.builtin "isinstance") := by decide +kernel
theorem bt_int : bootBuiltins "int" = some (.type "int") := by decide +kernel
theorem bt_bool : bootBuiltins "bool" = some (.type "bool") := by decide +kernel
theorem bt_tuple : bootBuiltins "tuple" = some (.type "tuple") := by decide +kernel
theorem bt_list : bootBuiltins "list" = some (.type "list") := by decide +kernel
theorem bt_len : bootBuiltins "len" = some (.builtin "len") := by decide +kernel
/-! ### heaps: tuples stay; all stays but r -/
def Tk (H H' : Hp) : Prop := ∀ b xs, H b = some (.tup xs) → H' b = some (.tup xs)
def Kp (r : Addr) (H H' : Hp) : Prop := ∀ b o, H b = some o → b ≠ r → H' b = some o
theorem Tk.refl (H : Hp) : Tk H H := fun _ _ h => h
theorem Tk.trans {H H1 H2 : Hp} (a : Tk H H1) (b : Tk H1 H2) : Tk H H2 := fun c o h => b c o (a c o h)
theorem Kp.refl {r : Addr} (H : Hp) : Kp r H H := fun _ _ h _ => h
theorem Kp.trans {r : Addr} {H H1 H2 : Hp} (a : Kp r H H1) (b : Kp r H1 H2) : Kp r H H2 := fun c o h n => b c o (a c o h n) n
theorem Same.tk {H H' : Hp} (s : Same H H') : Tk H H' := fun _ _ h => s _ _ h
theorem Same.kp {r : Addr} {H H' : Hp} (s : Same H H') : Kp r H H' := fun _ _ h _ => s _ _ h
theorem tk_upd {H : Hp} {r : Addr} {xs : List V} {o : HO} (h : H r = some (.lst xs)) : Tk H (upd H r o) := fun b ys e => by
  rw [upd_ne (ne_of e h (by intro z; cases z))]; exact e
theorem kp_upd {H : Hp} {r : Addr} {o : HO} : Kp r H (upd H r o) := fun b u e n => by rw [upd_ne n]; exact e
theorem Fr.tk {m : Nat} {H H' : Hp} {v : V} {q : Rat} (s : Tk H H') (h : Fr m H v q) : Fr m H' v q := by
  obtain ⟨⟨a, e, h1⟩, h2, h3⟩ := h
  exact ⟨⟨a, e, s _ _ h1⟩, h2, h3⟩
theorem Fr.le {m n : Nat} {H : Hp} {v : V} {q : Rat} (l : m ≤ n) (h : Fr m H v q) : Fr n H v q :=
  ⟨h.at_, Nat.lt_of_lt_of_le h.nb (Nat.pow_le_pow_right (by decide) l), Nat.lt_of_lt_of_le h.db (Nat.pow_le_pow_right (by decide) l)⟩
/-- a spot -/
structure Spt (m : Nat) (H : Hp) (v : V) (p : Rat × Rat) : Prop where
  ex : ∃ a x y, v = .ref a ∧ H a = some (.tup [x, y]) ∧ Fr m H x p.1 ∧ Fr m H y p.2
theorem Spt.tk {m : Nat} {H H' : Hp} {v : V} {p : Rat × Rat} (s : Tk H H') (h : Spt m H v p) : Spt m H' v p := by
  obtain ⟨a, x, y, e, h1, h2, h3⟩ := h.ex
  exact ⟨a, x, y, e, s _ _ h1, h2.tk s, h3.tk s⟩
theorem Spt.le {m n : Nat} {H : Hp} {v : V} {p : Rat × Rat} (l : m ≤ n) (h : Spt m H v p) : Spt n H v p := by
  obtain ⟨a, x, y, e, h1, h2, h3⟩ := h.ex
  exact ⟨a, x, y, e, h1, h2.le l, h3.le l⟩
/-- the row of the law's draws: a number and a count -/
structure Row (n : Nat) (H : Hp) (r : Addr) : Prop where
  ex : ∃ (c : Int) (k : Int), H r = some (.lst [.int c, .int k]) ∧ 0 ≤ k ∧ k ≤ n
theorem Row.mono {n : Nat} {H H' : Hp} {r : Addr} (s : Same H H') (h : Row n H r) : Row n H' r := by
  obtain ⟨c, k, e, l⟩ := h.ex
  exact ⟨c, k, s _ _ e, l⟩
theorem Row.tk {n : Nat} {H H' : Hp} {r : Addr} (h : Row n H r) (k : Kp r H H') : Tk H H' := fun b xs e => by
  obtain ⟨c, m, e2, l⟩ := h.ex
  exact k _ _ e (ne_of e e2 (by intro z; cases z))
theorem row_new {H : Hp} {r : Addr} {c : Int} : Row 0 (upd H r (.lst [.int c, .int 0])) r := ⟨c, 0, upd_same, by decide, by decide⟩
/-! ### items -/
section
variable {K : PySem.W.Frag} {H : Hp} {Q : VK} {x y : V} {q r : Rat} {m n : Nat} {p p' : Rat × Rat}
theorem ix_fr0 (h : Fr m H x q) (k : Q (.int q.num) H) : rIx K x (.int 0) H Q := by
  obtain ⟨a, e, h1⟩ := h.at_
  exact .inr (.inl ⟨a, _, 0, _, e, rfl, SqT.of h1, rfl, k⟩)
theorem ix_fr1 (h : Fr m H x q) (k : Q (.int q.den) H) : rIx K x (.int 1) H Q := by
  obtain ⟨a, e, h1⟩ := h.at_
  exact .inr (.inl ⟨a, _, 1, _, e, rfl, SqT.of h1, rfl, k⟩)
theorem ix_sp0 (h : Spt m H x p) (k : ∀ v, Fr m H v p.1 → Q v H) : rIx K x (.int 0) H Q := by
  obtain ⟨a, x, y, e, h1, h2, h3⟩ := h.ex
  exact .inr (.inl ⟨a, _, 0, _, e, rfl, SqT.of h1, rfl, k _ h2⟩)
theorem ix_sp1 (h : Spt m H x p) (k : ∀ v, Fr m H v p.2 → Q v H) : rIx K x (.int 1) H Q := by
  obtain ⟨a, x, y, e, h1, h2, h3⟩ := h.ex
  exact .inr (.inl ⟨a, _, 1, _, e, rfl, SqT.of h1, rfl, k _ h3⟩)
theorem ix_lst {a : Addr} {xs : List V} {j : Nat} {v : V} (h : H a = some (.lst xs)) (e : xs[j]? = some v) (k : Q v H) : rIx K (.ref a) (.int j) H Q :=
  .inl ⟨a, xs, j, v, rfl, rfl, SqL.of h, atI_nat e, k⟩
theorem ix_lst0 {a : Addr} {xs : List V} {v : V} (h : H a = some (.lst (v :: xs))) (k : Q v H) : rIx K (.ref a) (.int 0) H Q := ix_lst (j := 0) h rfl k
theorem ix_lst1 {a : Addr} {xs : List V} {u v : V} (h : H a = some (.lst (u :: v :: xs))) (k : Q v H) : rIx K (.ref a) (.int 1) H Q := ix_lst (j := 1) h rfl k
theorem add_i {i j : Int} (k : Q (.int (i + j)) H) : rAddA (.int i) (.int j) H Q := .inl ⟨i, j, rfl, rfl, k⟩
theorem eq_i {i j : Int} (k : Q (.bl (decide (i = j))) H) : rEqA K (.int i) (.int j) H Q := .inl ⟨rfl, by
  have e : decide ((V.int i) = V.int j) = decide (i = j) := by simp
  rw [e]; exact k⟩
theorem ne_i {i j : Int} (k : Q (.bl (!decide (i = j))) H) : rNeA K (.int i) (.int j) H Q := .inl ⟨rfl, by
  have e : decide ((V.int i) = V.int j) = decide (i = j) := by simp
  rw [e]; exact k⟩
theorem eq_b {i j : Bool} (k : Q (.bl (decide (i = j))) H) : rEqA K (.bl i) (.bl j) H Q := .inl ⟨rfl, by
  have e : decide ((V.bl i) = V.bl j) = decide (i = j) := by simp
  rw [e]; exact k⟩
theorem ne_b {i j : Bool} (k : Q (.bl (!decide (i = j))) H) : rNeA K (.bl i) (.bl j) H Q := .inl ⟨rfl, by
  have e : decide ((V.bl i) = V.bl j) = decide (i = j) := by simp
  rw [e]; exact k⟩
/-- a fraction as data -/
def dF (q : Rat) : PyData := .tuple [.int q.num, .int q.den]
def dS (p : Rat × Rat) : PyData := .tuple [dF p.1, dF p.2]
theorem Fr.dp (h : Fr m H x q) : Dp K H x (dF q) := by
  obtain ⟨a, e, h1⟩ := h.at_
  subst e
  exact .tup (SqT.of h1) (.cons (.int _) (.cons (.int _) .nil))
theorem Spt.dp (h : Spt m H x p) : Dp K H x (dS p) := by
  obtain ⟨a, x, y, e, h1, h2, h3⟩ := h.ex
  subst e
  exact .tup (SqT.of h1) (.cons h2.dp (.cons h3.dp .nil))
theorem dF_eqv {q r : Rat} : PyData.eqv (dF q) (dF r) = decide (q = r) := by
  have e : PyData.eqv (dF q) (dF r) = ((q.num == r.num) && ((q.den : Int) == r.den)) := by
    simp [dF, PyData.eqv, PyData.eqvAll]
  rw [e]
  by_cases h : q = r
  · subst h; simp
  · rw [decide_eq_false h]
    cases h1 : (q.num == r.num && (q.den : Int) == r.den) with
    | false => rfl
    | true =>
      rw [Bool.and_eq_true, beq_iff_eq, beq_iff_eq] at h1
      exact absurd (Rat.ext h1.1 (by omega)) h
theorem dS_eqv {q r : Rat × Rat} : PyData.eqv (dS q) (dS r) = decide (q = r) := by
  have e : PyData.eqv (dS q) (dS r) = (PyData.eqv (dF q.1) (dF r.1) && PyData.eqv (dF q.2) (dF r.2)) := by
    simp [dS, PyData.eqv, PyData.eqvAll]
  rw [e, dF_eqv, dF_eqv]
  by_cases h : q = r
  · subst h; simp
  · rw [decide_eq_false h]
    cases h1 : (decide (q.1 = r.1) && decide (q.2 = r.2)) with
    | false => rfl
    | true =>
      rw [Bool.and_eq_true, decide_eq_true_iff, decide_eq_true_iff] at h1
      exact absurd (Prod.ext h1.1 h1.2) h
theorem dF_sh (q : Rat) : SeqAt.shaped (dF q) = true := rfl
theorem dS_sh (q : Rat × Rat) : SeqAt.shaped (dS q) = true := rfl
theorem ne_f (h1 : Fr m H x q) (h2 : Fr n H y r) (k : Q (.bl (!decide (q = r))) H) : rNeA K x y H Q := .inr ⟨_, _, h1.dp, h2.dp, dF_sh q, dF_sh r, by rw [dF_eqv]; exact k⟩
theorem eq_s (h1 : Spt m H x p) (h2 : Spt n H y p') (k : Q (.bl (decide (p = p'))) H) : rEqA K x y H Q := .inr ⟨_, _, h1.dp, h2.dp, dS_sh p, dS_sh p', by rw [dS_eqv]; exact k⟩
theorem rI_ii {C : Int → Int → Prop} {g : Int → Int → V} {i j : Int} : rI C g (.int i) (.int j) H Q ↔ C i j ∧ Q (g i j) H := by
  constructor
  · rintro ⟨a, b, e1, e2, h⟩
    cases e1
    cases e2
    exact h
  · exact fun h => ⟨i, j, rfl, rfl, h⟩
theorem rI0_ii {g : Int → Int → V} {i j : Int} : rI0 g (.int i) (.int j) H Q ↔ Q (g i j) H := by
  constructor
  · rintro ⟨a, b, e1, e2, h⟩
    cases e1
    cases e2
    exact h
  · exact fun h => ⟨i, j, rfl, rfl, h⟩
theorem rU_i {g : Int → V} {i : Int} : rU g (.int i) H Q ↔ Q (g i) H := by
  constructor
  · rintro ⟨a, e1, h⟩
    cases e1
    exact h
  · exact fun h => ⟨i, rfl, h⟩
theorem add_ii {i j : Int} : rAddA (.int i) (.int j) H Q ↔ Q (.int (i + j)) H := by
  constructor
  · rintro (⟨a, b, e1, e2, h⟩ | ⟨a, b, xs, zs, e1, _⟩)
    · cases e1
      cases e2
      exact h
    · cases e1
  · exact add_i
theorem im2 {b : Int} : IntMulOk 2 b ↔ True := ⟨fun _ => trivial, fun _ => mulOkL (by decide)⟩
theorem cp10_7 : CPow 10 7 ↔ True := ⟨fun _ => trivial, fun _ => by refine ⟨?_, ?_, ?_⟩ <;> decide⟩
theorem cp10_8 : CPow 10 8 ↔ True := ⟨fun _ => trivial, fun _ => by refine ⟨?_, ?_, ?_⟩ <;> decide⟩
theorem cp10_9 : CPow 10 9 ↔ True := ⟨fun _ => trivial, fun _ => by refine ⟨?_, ?_, ?_⟩ <;> decide⟩
theorem cp10_14 : CPow 10 14 ↔ True := ⟨fun _ => trivial, fun _ => by refine ⟨?_, ?_, ?_⟩ <;> decide⟩
theorem cp10_18 : CPow 10 18 ↔ True := ⟨fun _ => trivial, fun _ => by refine ⟨?_, ?_, ?_⟩ <;> decide⟩
theorem cp10_26 : CPow 10 26 ↔ True := ⟨fun _ => trivial, fun _ => by refine ⟨?_, ?_, ?_⟩ <;> decide⟩
theorem cp10_27 : CPow 10 27 ↔ True := ⟨fun _ => trivial, fun _ => by refine ⟨?_, ?_, ?_⟩ <;> decide⟩
theorem cp10_28 : CPow 10 28 ↔ True := ⟨fun _ => trivial, fun _ => by refine ⟨?_, ?_, ?_⟩ <;> decide⟩
theorem cp10_29 : CPow 10 29 ↔ True := ⟨fun _ => trivial, fun _ => by refine ⟨?_, ?_, ?_⟩ <;> decide⟩
theorem cp10_30 : CPow 10 30 ↔ True := ⟨fun _ => trivial, fun _ => by refine ⟨?_, ?_, ?_⟩ <;> decide⟩
theorem set_l0 {a : Addr} {u v w : V} {Q : Hp → Prop} (h : H a = some (.lst [u, w])) (k : Q (upd H a (.lst [v, w]))) : rSetL (.ref a) (.int 0) v H Q := ⟨a, _, 0, 0, rfl, rfl, h, rfl, k⟩
theorem set_l1 {a : Addr} {u v w : V} {Q : Hp → Prop} (h : H a = some (.lst [u, w])) (k : Q (upd H a (.lst [u, v]))) : rSetL (.ref a) (.int 1) v H Q := ⟨a, _, 1, 1, rfl, rfl, h, rfl, k⟩
/-- a test, both ways -/
theorem ite_d {c A B : Prop} [Decidable c] (h1 : c → A) (h2 : ¬ c → B) : if decide c = true then A else B := by
  by_cases h : c
  · rw [decide_eq_true h]; exact h1 h
  · rw [decide_eq_false h, if_neg Bool.false_ne_true]; exact h2 h
theorem cx_K {CX : CXT} {P : Program} {w : World} {K : PySem.W.Frag} {mg : Str → Option Value} {base : Heap} {N : List Str} {qual : Str} {scope : Scope} {f : Addr} {cd : Value} {A : Around} {outer : List Env} {s : Shared} {H : Hp} {E : XK} : (cxOf CX P w K mg base N qual scope f cd A outer s H E).K = K := rfl
theorem ite_n {c A B : Prop} [Decidable c] (h1 : ¬ c → A) (h2 : c → B) : if (!decide c) = true then A else B := by
  by_cases h : c
  · rw [decide_eq_true h]; exact h2 h
  · rw [decide_eq_false h]; exact h1 h
end
end L2
end
section
set_option Elab.async false
set_option linter.all false
set_option maxRecDepth 100000
namespace L2
open PySem PySem.Spec PyProof.Rows
section
variable {prog : Program} {w : World} {A : Around} {E : Value → Shared → Prop} {s : Shared}
theorem isList_push {h : Heap} {t : Addr} {items : Array Value} (ht : h.IsList t items) (o : Obj) : (h.push o).IsList t items :=
  let ⟨ol, ho, r⟩ := ht; ⟨ol, Heap.get?_push_of_some _ ho, r⟩
theorem isList_ext {h h' : Heap} {t b : Addr} {items : Array Value} (ht : h.IsList t items) (hs : Heap.ExtBut b h h') (hab : t ≠ b) : h'.IsList t items :=
  let ⟨ol, ho, r⟩ := ht; ⟨ol, hs t ol hab ho, r⟩
theorem draw_listL {it t : Addr} {items : Array Value} (hne : t ≠ it) : ∀ (n i : Nat) (s : Shared) (Q : List Value → Shared → Prop), s.heap.IsListIter it t i → s.heap.IsList t items → i + n ≤ items.size →
    (∀ h' : Heap, h'.IsListIter it t (i + n) → Heap.SameBut it s.heap h' → Q ((items.toList.drop i).take n) { s with heap := h' }) → wpAny (model prog w) A (draw (.ref it) n) Q E s
  | 0, i, s, Q, hit, _, _, hQ => by
    show wpAny _ _ (pure []) Q E s
    exact wpAny_pure (by simpa using hQ s.heap hit (Heap.SameBut.refl ..))
  | n + 1, i, s, Q, hit, ht, hle, hQ => by
    have hlt : i < items.size := by omega
    show wpAny _ _ (pyNext (.ref it) >>= _) Q E s
    refine wpAny_bind (wpAny_pyNext_list_item hit ht (x := items[i]) (by simp [hlt]) fun h₁ hit₁ hs₁ => ?_)
    refine wpAny_bind (wpAny_holding (draw_listL hne n (i + 1) _ _ hit₁ (isList_ext ht hs₁.extBut hne) (by omega) fun h₂ hit₂ hs₂ => wpAny_pure ?_))
    have hd : items.toList.drop i = items[i] :: items.toList.drop (i + 1) := by simp [List.drop_eq_getElem_cons, hlt]
    have := hQ h₂ (by rw [show i + (n + 1) = i + 1 + n by omega]; exact hit₂) (hs₁.trans hs₂)
    rw [hd, List.take_succ_cons] at this
    exact this
theorem unpackItems_listL {t : Addr} {items : Array Value} {Q : List Value → Shared → Prop} (hh : A.handled = none) (ht : s.heap.IsList t items)
    (hQ : ∀ h' : Heap, Heap.ExtBut s.heap.objs.size s.heap h' → Q items.toList { s with heap := h' }) : wpAny (model prog w) A (unpackItems (.ref t) items.size none) Q E s := by
  have hlt : t ≠ s.heap.objs.size := by obtain ⟨o, ho, _⟩ := ht; exact Nat.ne_of_lt (Heap.lt_size ho)
  unfold unpackItems
  refine wpAny_bind ?_
  · unfold notIterableAtAll
    refine wpAny_bind (wpAny_specialOf ht.typeIs PySem.slot_list_iter.lookup ?_)
    refine wpAny_pure ?_
    simp only [Bool.false_eq_true, if_false]
    refine wpAny_bind (wpAny_holding (wpAny_pyIter_list ht ?_))
    refine wpAny_bind (wpAny_holding (draw_listL hlt items.size 0 _ _ ⟨_, Heap.get?_push_size _ rfl, rfl, rfl⟩ (isList_push ht _) (by omega) fun h₁ hit₁ hs₁ => ?_))
    have hall : List.take items.size (List.drop 0 items.toList) = items.toList := by
      rw [List.drop_zero]; exact List.take_of_length_le (by simp)
    rw [hall]
    rw [if_neg (by simp)]
    have ht₁ : h₁.IsList t items := isList_ext (isList_push ht _) hs₁.extBut hlt
    refine wpAny_bind (wpAny_holding (wpAny_pyNext_list_end hh hit₁ ht₁ (by simp) fun h₂ he₂ => ?_))
    simp only [Option.isSome_none, Bool.false_eq_true, if_false]
    refine wpAny_pure (hQ h₂ fun b o hb e => he₂ b o hb (hs₁.extBut b o hb (Heap.get?_push_of_some _ e)))
theorem assign_Tuple_listL {env : Env} {elts : List Expr} {x1} {pos : Pos} {t : Addr} {items : Array Value} {Q : Unit → Shared → Prop} (hh : A.handled = none) (ht : s.heap.IsList t items)
    (hn : (assignEach elts env).length = items.size) (hstar : (assignEach elts env).findIdx? (·.1) = none)
    (h : ∀ h' : Heap, Heap.ExtBut s.heap.objs.size s.heap h' → wpAny (model prog w) A (assignInOrder ((assignEach elts env).map (·.2)) items.toList) Q E { s with heap := h' }) :
    wpAny (model prog w) A (assign (.Tuple elts x1 pos) env (.ref t)) Q E s := by
  rw [assign_Tuple]
  refine wpAny_bind (wpAny_standAt ?_)
  unfold unpack
  rw [hn, hstar]
  exact wpAny_bind (wpAny_holding (unpackItems_listL hh ht h))
end
/-- (a, b, ..) = a tuple, or a list, of that length -/
def gSeq (K : PySem.W.Frag) (n : Nat) (t : TGs) : TG := fun v σ H Q => ∃ a xs, v = .ref a ∧ (SqT K H a xs ∨ SqL K H a xs) ∧ xs.length = n ∧ t xs σ H Q
theorem pg_seq {X : Cx} {pos : Pos} {es : List Expr} {k : Nat} {t : TGs} {n : Nat} (hc : X.calm = true) (h : PGs X es t)
    (hn : (assignEach es X.env).length = n := by rfl) (hst : (assignEach es X.env).findIdx? (·.1) = none := by rfl) : PG X (.Tuple es k pos) (gSeq X.K n t) := by
  intro pins s σ H v u Q I r hw
  obtain ⟨a, xs, e1, hq, hl, hw⟩ := hw
  rcases hq with hq | hq
  · exact pg_tup hc h hn hst pins s σ H v u Q I r ⟨a, xs, e1, hq, hl, hw⟩
  subst e1
  cases r
  obtain ⟨its, rv, ht, hz⟩ := I.list hq
  refine assign_Tuple_listL (I.ok.hd hc) ht.isList (by simp [hn, ← hl, rv.length]) hst fun h' hx => ?_
  have I1 : Inv X pins σ H { s with heap := h' } := I.kept (t' := s.toks) fun b o e => hx b o (Nat.ne_of_lt (Heap.lt_size e)) e
  exact h pins _ σ H xs _ Q I1 (by simpa using rv) hw
section
variable {K : PySem.W.Frag} {H : Hp} {σ : St} {x : V} {q : Rat} {p : Rat × Rat} {m n : Nat} {t : TGs} {Q : St → Hp → Prop}
theorem seq_t {a : Addr} {xs : List V} (h : H a = some (.tup xs)) (hn : xs.length = n) (k : t xs σ H Q) : gSeq K n t (.ref a) σ H Q := ⟨a, xs, rfl, .inl (SqT.of h), hn, k⟩
end
/-! ### loops and comprehensions, folded -/
def ForJ (J : It) (g : TG) (tb : TS) (D : Ends) (σ : St) (H : Hp) : Prop := ∃ W : Nat → Nat → St → Hp → Prop, (∃ m, W 0 m σ H) ∧ ∀ i m σ H, W i m σ H →
  (J.stop i H ∧ D.nx σ H) ∨ (J.go i H ∧ ∃ N : St → Hp → Prop, (∀ σ' H', N σ' H' → ∃ m', m' < m ∧ W (i + 1) m' σ' H') ∧ ∀ x H', J.yld i H x H' → g x σ H' fun σ2 H2 => tb { D with nx := N, ct := N, bk := D.nx } σ2 H2)
def ForL (K : PySem.W.Frag) (a : Addr) (g : TG) (tb : TS) (D : Ends) (σ : St) (H : Hp) : Prop := (∃ xs, SqL K H a xs) ∧ ForJ (Itl K a) g tb D σ H
def ForR (lo : Int) (n : Nat) (g : TG) (tb : TS) (D : Ends) (σ : St) (H : Hp) : Prop := ForJ (Itr lo n) g tb D σ H
section
variable {K : PySem.W.Frag} {a : Addr} {g : TG} {tb : TS} {D : Ends} {σ : St} {H : Hp}
theorem tFor_list {tl : TE} : tFor (iList K tl) g tb D σ H = tl σ H fun x H1 => ∃ a, x = .ref a ∧ ForL K a g tb D σ H1 := rfl
theorem tFor_rng1 {ta : TA} : tFor (iRng1 ta) g tb D σ H = ta σ H fun vs H1 => ∃ j : Int, vs = [.int j] ∧ -(2 ^ 62) ≤ j ∧ j < 2 ^ 62 ∧ ForR 0 j.toNat g tb D σ H1 := rfl
theorem tFor_rng2 {ta : TA} : tFor (iRng2 ta) g tb D σ H = ta σ H fun vs H1 => ∃ i j : Int, vs = [.int i, .int j] ∧ (-(2 ^ 62) ≤ i ∧ i < 2 ^ 62 ∧ -(2 ^ 62) ≤ j ∧ j < 2 ^ 62) ∧ ForR i (j - i).toNat g tb D σ H1 := rfl
theorem forL {xs : List V} (Pv : Nat → St → Hp → Prop) (h0 : Pv 0 σ H) (hl : ∀ i σ H, i ≤ xs.length → Pv i σ H → SqL K H a xs)
    (hs : ∀ i x σ H, xs[i]? = some x → Pv i σ H → g x σ H fun σ2 H2 => tb { D with nx := Pv (i + 1), ct := Pv (i + 1), bk := D.nx } σ2 H2) (hd : ∀ σ H, Pv xs.length σ H → D.nx σ H) : ForL K a g tb D σ H :=
  ⟨⟨xs, hl 0 σ H (Nat.zero_le _) h0⟩, for_list Pv h0 hl hs hd⟩
theorem forR {lo : Int} {n : Nat} (Pv : Nat → St → Hp → Prop) (h0 : Pv 0 σ H)
    (hs : ∀ i σ H, i < n → Pv i σ H → g (.int (lo + i)) σ H fun σ2 H2 => tb { D with nx := Pv (i + 1), ct := Pv (i + 1), bk := D.nx } σ2 H2) (hd : ∀ σ H, Pv n σ H → D.nx σ H) : ForR lo n g tb D σ H := for_range Pv h0 hs hd
end
def LcJ (J : It) (g : TG) (tt : TT) (te : TE) (vs : List Nat) (D : Addr) (σ : St) (H1 : Hp) (Qd : Hp → Prop) : Prop := ∃ W : Nat → Nat → Hp → Prop, (∃ m, W 0 m (upd H1 D (.lst []))) ∧ ∀ i m H, W i m H →
  (J.stop i H ∧ Qd H) ∨ (J.go i H ∧ ∃ Nx : Hp → Prop, (∀ H', Nx H' → ∃ m', m' < m ∧ W (i + 1) m' H') ∧ ∀ x H', J.yld i H x H' → g x (wipe σ vs) H' fun σ2 H2 => wipe σ2 vs = wipe σ vs ∧ tt σ2 H2 fun b H3 =>
    if b = true then te σ2 H3 fun y H4 => ∃ acc, H4 D = some (.lst acc) ∧ acc.length < sizeLine ∧ Nx (upd H4 D (.lst (acc ++ [y]))) else Nx H3)
section
variable {K : PySem.W.Frag} {g : TG} {tt : TT} {te : TE} {vs : List Nat} {σ : St} {H : Hp} {Q : VK}
theorem tLc_rng1 {ta : TA} : tLc (iRng1 ta) g tt te vs σ H Q = ta σ H fun us H1 => ∃ j : Int, us = [.int j] ∧ -(2 ^ 62) ≤ j ∧ j < 2 ^ 62 ∧ ∀ D, H1 D = none → LcJ (Itr 0 j.toNat) g tt te vs D σ H1 (fun H' => Q (.ref D) H') := rfl
theorem tLc_rng2 {ta : TA} : tLc (iRng2 ta) g tt te vs σ H Q = ta σ H fun us H1 => ∃ i j : Int, us = [.int i, .int j] ∧ (-(2 ^ 62) ≤ i ∧ i < 2 ^ 62 ∧ -(2 ^ 62) ≤ j ∧ j < 2 ^ 62) ∧ ∀ D, H1 D = none → LcJ (Itr i (j - i).toNat) g tt te vs D σ H1 (fun H' => Q (.ref D) H') := rfl
theorem tLc_list {tl : TE} : tLc (iList K tl) g tt te vs σ H Q = tl σ H fun x H1 => ∃ a, x = .ref a ∧ (∃ xs, SqL K H1 a xs) ∧ ∀ D, H1 D = none → LcJ (Itl K a) g tt te vs D σ H1 (fun H' => Q (.ref D) H') := rfl
theorem lcL {a : Addr} {xs : List V} {D : Addr} {Qd : Hp → Prop} (Pv : Nat → Hp → Prop) (h0 : Pv 0 (upd H D (.lst []))) (hl : ∀ i H, i ≤ xs.length → Pv i H → SqL K H a xs)
    (hs : ∀ i x H, xs[i]? = some x → Pv i H → g x (wipe σ vs) H fun σ2 H2 => wipe σ2 vs = wipe σ vs ∧ tt σ2 H2 fun b H3 =>
      if b = true then te σ2 H3 fun y H4 => ∃ acc, H4 D = some (.lst acc) ∧ acc.length < sizeLine ∧ Pv (i + 1) (upd H4 D (.lst (acc ++ [y]))) else Pv (i + 1) H3) (hd : ∀ H, Pv xs.length H → Qd H) : LcJ (Itl K a) g tt te vs D σ H Qd := lc_list (K := K) (a := a) (xs := xs) Pv h0 hl hs hd
end
theorem cat_l {H : Hp} {Q : VK} {a b : Addr} {xs ys : List V} (h1 : H a = some (.lst xs)) (h2 : H b = some (.lst ys)) (hl : xs.length + ys.length ≤ sizeLine) (k : ∀ p, H p = none → Q (.ref p) (upd H p (.lst (xs ++ ys)))) : rAddA (.ref a) (.ref b) H Q :=
  .inr ⟨a, b, xs, ys, rfl, rfl, h1, h2, hl, k⟩
theorem cut_len {xs : List V} {n : Nat} (h : xs.length ≤ 63) (lo hi : Option Int) (hn : n ≤ 1000) : n + (cutV xs lo hi).length ≤ sizeLine := by
  have := cutV_length xs lo hi
  have e : 2000 ≤ sizeLine := by decide
  omega
theorem cut_mem {xs : List V} {lo hi : Option Int} {x : V} (h : x ∈ cutV xs lo hi) : x ∈ xs := List.mem_of_mem_drop (List.mem_of_mem_take h)
theorem cells_int {ns : List Int} {lo hi : Option Int} {x : V} (h : x ∈ V.int 0 :: cutV (ns.map V.int) lo hi) : ∃ z, x = V.int z := by
  rcases List.mem_cons.mp h with h | h
  · exact ⟨0, h⟩
  · obtain ⟨z, _, e⟩ := List.mem_map.mp (cut_mem h)
    exact ⟨z, e.symm⟩
end L2
end
section
set_option Elab.async false
set_option linter.all false
set_option maxRecDepth 100000
namespace L2
open PySem PySem.Spec PyProof.Rows
/-! ### any data: none, truths, ints, texts, tuples, lists (not at r) -/
mutual
inductive Rp (r : Addr) (H : Hp) : V → PyData → Prop
  | non : Rp r H .non .none
  | bl (b : Bool) : Rp r H (.bl b) (.bool b)
  | int (i : Int) : Rp r H (.int i) (.int i)
  | str (x : Str) : Rp r H (.str x) (.str x)
  | lst {a : Addr} {xs : List V} {ds : List PyData} : H a = some (.lst xs) → a ≠ r → RpAll r H xs ds → Rp r H (.ref a) (.list ds)
  | tup {a : Addr} {xs : List V} {ds : List PyData} : H a = some (.tup xs) → a ≠ r → RpAll r H xs ds → Rp r H (.ref a) (.tuple ds)
inductive RpAll (r : Addr) (H : Hp) : List V → List PyData → Prop
  | nil : RpAll r H [] []
  | cons {v : V} {vs : List V} {d : PyData} {ds : List PyData} : Rp r H v d → RpAll r H vs ds → RpAll r H (v :: vs) (d :: ds)
end
mutual
theorem Rp.kp {r : Addr} {H H' : Hp} (k : Kp r H H') : ∀ (d : PyData) (v : V), Rp r H v d → Rp r H' v d
  | .none, _, h => by cases h; exact .non
  | .bool b, _, h => by cases h; exact .bl b
  | .int i, _, h => by cases h; exact .int i
  | .str x, _, h => by cases h; exact .str x
  | .list ds, _, h => by
    cases h with
    | lst h1 h2 h3 => exact .lst (k _ _ h1 h2) h2 (RpAll.kp k ds _ h3)
  | .tuple ds, _, h => by
    cases h with
    | tup h1 h2 h3 => exact .tup (k _ _ h1 h2) h2 (RpAll.kp k ds _ h3)
  | .dict _, _, h => by cases h
theorem RpAll.kp {r : Addr} {H H' : Hp} (k : Kp r H H') : ∀ (ds : List PyData) (vs : List V), RpAll r H vs ds → RpAll r H' vs ds
  | [], _, h => by cases h; exact .nil
  | d :: ds, _, h => by
    cases h with
    | cons h1 h2 => exact .cons (Rp.kp k d _ h1) (RpAll.kp k ds _ h2)
end
theorem Rp.up {r : Addr} {H H' : Hp} {v : V} {d : PyData} (k : Kp r H H') (h : Rp r H v d) : Rp r H' v d := Rp.kp k d v h
mutual
theorem Rp.dp {K : PySem.W.Frag} {r : Addr} {H : Hp} : ∀ (d : PyData) (v : V), Rp r H v d → Dp K H v d
  | .none, _, h => by cases h; exact .non
  | .bool b, _, h => by cases h; exact .bl b
  | .int i, _, h => by cases h; exact .int i
  | .str x, _, h => by cases h; exact .str x
  | .list ds, _, h => by
    cases h with
    | lst h1 h2 h3 => exact .lst (SqL.of h1) (RpAll.dp ds _ h3)
  | .tuple ds, _, h => by
    cases h with
    | tup h1 h2 h3 => exact .tup (SqT.of h1) (RpAll.dp ds _ h3)
  | .dict _, _, h => by cases h
theorem RpAll.dp {K : PySem.W.Frag} {r : Addr} {H : Hp} : ∀ (ds : List PyData) (vs : List V), RpAll r H vs ds → DpAll K H vs ds
  | [], _, h => by cases h; exact .nil
  | d :: ds, _, h => by
    cases h with
    | cons h1 h2 => exact .cons (Rp.dp d _ h1) (RpAll.dp ds _ h2)
end
theorem RpAll.len {r : Addr} {H : Hp} : ∀ {vs : List V} {ds : List PyData}, RpAll r H vs ds → vs.length = ds.length
  | _, _, .nil => rfl
  | _, _, .cons _ h => by rw [List.length_cons, List.length_cons, h.len]
def tyN : PyData → String
  | .none => "NoneType" | .bool _ => "bool" | .int _ => "int" | .str _ => "str" | .list _ => "list" | .tuple _ => "tuple" | .dict _ => "dict"
theorem Rp.ty {K : PySem.W.Frag} {r : Addr} {H : Hp} {v : V} {d : PyData} (h : Rp r H v d) : TyOf K H v (.type (tyN d)) := by
  cases h with
  | non => exact .non
  | bl b => exact .bl b
  | int i => exact .int i
  | str x => exact .str x
  | lst h1 h2 h3 => exact .lst h1
  | tup h1 h2 h3 => exact .tup h1
def isInt : PyData → Bool
  | .int _ => true | .bool _ => true | _ => false
def isBool : PyData → Bool
  | .bool _ => true | _ => false
def isTup : PyData → Bool
  | .tuple _ => true | _ => false
def isLst : PyData → Bool
  | .list _ => true | _ => false
/-- a whole number -/
def isWh : PyData → Bool
  | .int _ => true | _ => false
section
variable {K : PySem.W.Frag} {r : Addr} {H : Hp} {v : V} {d : PyData} {Q : VK}
theorem isi_int (h : Rp r H v d) (k : Q (.bl (isInt d)) H) : rIsi K [v, .ty "int"] H Q := by
  refine ⟨v, _, "int", .type (tyN d), isInt d, rfl, rfl, h.ty, ?_, k⟩
  cases h <;> rfl
theorem isi_bool (h : Rp r H v d) (k : Q (.bl (isBool d)) H) : rIsi K [v, .ty "bool"] H Q := by
  refine ⟨v, _, "bool", .type (tyN d), isBool d, rfl, rfl, h.ty, ?_, k⟩
  cases h <;> rfl
theorem isi_tup (h : Rp r H v d) (k : Q (.bl (isTup d)) H) : rIsi K [v, .ty "tuple"] H Q := by
  refine ⟨v, _, "tuple", .type (tyN d), isTup d, rfl, rfl, h.ty, ?_, k⟩
  cases h <;> rfl
theorem isi_lst (h : Rp r H v d) (k : Q (.bl (isLst d)) H) : rIsi K [v, .ty "list"] H Q := by
  refine ⟨v, _, "list", .type (tyN d), isLst d, rfl, rfl, h.ty, ?_, k⟩
  cases h <;> rfl
theorem isi_bl {b : Bool} (k : Q (.bl true) H) : rIsi K [.bl b, .ty "bool"] H Q := isi_bool (r := 0) (.bl b) k
theorem isWh_and : (if isInt d = true then !isBool d else false) = isWh d := by cases d <;> rfl
/-- a fraction is data -/
theorem Fr.rp {m : Nat} {q : Rat} {xs : List V} (hr : H r = some (.lst xs)) (h : Fr m H v q) : Rp r H v (dF q) := by
  obtain ⟨a, rfl, h1⟩ := h.at_
  exact .tup h1 (ne_of h1 hr (by intro z; cases z)) (.cons (.int _) (.cons (.int _) .nil))
/-- items that are data for which P holds -/
def AllG (P : PyData → Prop) (r : Addr) (H : Hp) (xs : List V) : Prop := ∀ x ∈ xs, ∃ d, Rp r H x d ∧ P d
theorem AllG.nil {P : PyData → Prop} : AllG P r H [] := fun _ h => nomatch h
theorem AllG.cons {P : PyData → Prop} {xs : List V} (h : Rp r H v d) (p : P d) (hs : AllG P r H xs) : AllG P r H (v :: xs) := fun x hx => by
  rcases List.mem_cons.mp hx with rfl | hx
  · exact ⟨d, h, p⟩
  · exact hs x hx
theorem AllG.append {P : PyData → Prop} {xs ys : List V} (h : AllG P r H xs) (h' : AllG P r H ys) : AllG P r H (xs ++ ys) := fun x hx => (List.mem_append.mp hx).elim (h x) (h' x)
theorem AllG.kp {P : PyData → Prop} {H' : Hp} {xs : List V} (k : Kp r H H') (h : AllG P r H xs) : AllG P r H' xs := fun x hx => let ⟨d, h1, h2⟩ := h x hx; ⟨d, h1.up k, h2⟩
end
end L2
end
section
set_option Elab.async false
set_option linter.all false
set_option maxRecDepth 100000
namespace L2
open PySem PySem.Spec PyProof.Rows
def NewT (xs : List V) (H : Hp) (Q : VK) : Prop := xs.length ≤ sizeLine ∧ ∀ p, H p = none → Q (.ref p) (upd H p (.tup xs))
def NewL (xs : List V) (H : Hp) (Q : VK) : Prop := xs.length ≤ sizeLine ∧ ∀ p, H p = none → Q (.ref p) (upd H p (.lst xs))
theorem tTup_new {t : TA} {σ : St} {H : Hp} {Q : VK} : tTup t σ H Q = t σ H fun xs H1 => NewT xs H1 Q := rfl
theorem tLst_new {t : TA} {σ : St} {H : Hp} {Q : VK} : tLst t σ H Q = t σ H fun xs H1 => NewL xs H1 Q := rfl
def rLen (K : PySem.W.Frag) : List V → Hp → VK → Prop := fun xs H Q => ∃ p ys, xs = [.ref p] ∧ (SqL K H p ys ∨ SqT K H p ys) ∧ Q (.int ys.length) H
theorem call_lenA {X : Cx} : CallR X (.builtin "len") (rLen X.K) := call_len_seq
section
variable {K : PySem.W.Frag} {r : Addr} {H : Hp} {v : V} {d : PyData} {Q : VK} {n : Nat}
theorem newT {xs : List V} (hl : xs.length ≤ 1000) (k : ∀ p H', Same H H' → H p = none → H' p = some (.tup xs) → Q (.ref p) H') : NewT xs H Q :=
  ⟨Nat.le_of_lt (small1000 hl), fun p hp => k p _ (same_upd hp) hp upd_same⟩
theorem newL {xs : List V} (hl : xs.length ≤ 1000) (k : ∀ p H', Same H H' → H p = none → H' p = some (.lst xs) → Q (.ref p) H') : NewL xs H Q :=
  ⟨Nat.le_of_lt (small1000 hl), fun p hp => k p _ (same_upd hp) hp upd_same⟩
theorem newTR {xs : List V} {ds : List PyData} (hr : Row n H r) (hx : RpAll r H xs ds) (hl : xs.length ≤ 1000) (k : ∀ p H', Same H H' → Row n H' r → Rp r H' (.ref p) (.tuple ds) → Q (.ref p) H') : NewT xs H Q := by
  obtain ⟨_, _, e, _⟩ := hr.ex
  exact newT hl fun p H' s hp e2 => k p H' s (hr.mono s) (.tup e2 (ne_of_none e hp).symm (RpAll.kp s.kp _ _ hx))
theorem newLR {xs : List V} {ds : List PyData} (hr : Row n H r) (hx : RpAll r H xs ds) (hl : xs.length ≤ 1000) (k : ∀ p H', Same H H' → Row n H' r → Rp r H' (.ref p) (.list ds) → Q (.ref p) H') : NewL xs H Q := by
  obtain ⟨_, _, e, _⟩ := hr.ex
  exact newL hl fun p H' s hp e2 => k p H' s (hr.mono s) (.lst e2 (ne_of_none e hp).symm (RpAll.kp s.kp _ _ hx))
theorem RpAll.append : ∀ {xs ys : List V} {ds es : List PyData}, RpAll r H xs ds → RpAll r H ys es → RpAll r H (xs ++ ys) (ds ++ es)
  | _, _, _, _, .nil, h => h
  | _, _, _, _, .cons a t, h => .cons a (RpAll.append t h)
theorem catR {a b : V} {ds es : List PyData} (hr : Row n H r) (h1 : Rp r H a (.list ds)) (h2 : Rp r H b (.list es)) (hl : ds.length + es.length ≤ 1000) (k : ∀ p H', Same H H' → Row n H' r → Rp r H' (.ref p) (.list (ds ++ es)) → Q (.ref p) H') : rAddA a b H Q := by
  obtain ⟨_, _, e, _⟩ := hr.ex
  cases h1 with
  | lst a1 a2 a3 =>
    cases h2 with
    | lst b1 b2 b3 =>
      refine cat_l a1 b1 ?_ fun p hp => k p _ (same_upd hp) (hr.mono (same_upd hp)) (.lst upd_same (ne_of_none e hp).symm (RpAll.kp (same_upd hp).kp _ _ (a3.append b3)))
      have l1 := a3.len
      have l2 := b3.len
      have l3 := small1000 hl
      omega
theorem RpAll.at_ : ∀ {xs : List V} {ds : List PyData} {i : Nat}, RpAll r H xs ds → i < ds.length → ∃ x d, xs[i]? = some x ∧ ds[i]? = some d ∧ Rp r H x d
  | _, _, 0, .cons a _, _ => ⟨_, _, rfl, rfl, a⟩
  | _, _, i + 1, .cons _ t, h => by
    obtain ⟨x, d, h1, h2, h3⟩ := RpAll.at_ (i := i) t (by simpa using h)
    exact ⟨x, d, h1, h2, h3⟩
theorem ixT {a : V} {ds : List PyData} {j : Nat} {d : PyData} (h : Rp r H a (.tuple ds)) (e : ds[j]? = some d) (k : ∀ x, Rp r H x d → Q x H) : rIx K a (.int j) H Q := by
  cases h with
  | tup a1 a2 a3 =>
    obtain ⟨x, d', h1, h2, h3⟩ := a3.at_ (i := j) (List.getElem?_eq_some_iff.mp e).1
    rw [e] at h2
    cases h2
    exact .inr (.inl ⟨_, _, j, _, rfl, rfl, SqT.of a1, atI_nat h1, k x h3⟩)
theorem ixT0 {a : V} {ds : List PyData} (h : Rp r H a (.tuple (d :: ds))) (k : ∀ x, Rp r H x d → Q x H) : rIx K a (.int 0) H Q := ixT (j := 0) h rfl k
theorem ixT1 {a : V} {e : PyData} {ds : List PyData} (h : Rp r H a (.tuple (e :: d :: ds))) (k : ∀ x, Rp r H x d → Q x H) : rIx K a (.int 1) H Q := ixT (j := 1) h rfl k
theorem len_l {a : Addr} {xs : List V} (h : H a = some (.lst xs)) (k : Q (.int xs.length) H) : rLen K [.ref a] H Q := ⟨a, xs, rfl, .inl (SqL.of h), k⟩
theorem len_t {a : Addr} {xs : List V} (h : H a = some (.tup xs)) (k : Q (.int xs.length) H) : rLen K [.ref a] H Q := ⟨a, xs, rfl, .inr (SqT.of h), k⟩
end
end L2
end
section
set_option Elab.async false
set_option linter.all false
set_option maxRecDepth 100000
namespace L2
open PySem PySem.Spec PyProof.Rows
mutual
def noL : PyData → Bool
  | .list _ => false
  | .tuple ds => noLs ds
  | .dict _ => false
  | _ => true
def noLs : List PyData → Bool
  | [] => true
  | d :: ds => noL d && noLs ds
end
mutual
theorem Rp.tk {r : Addr} {H H' : Hp} (k : Tk H H') : ∀ (d : PyData) (v : V), noL d = true → Rp r H v d → Rp r H' v d
  | .none, _, _, h => by cases h; exact .non
  | .bool b, _, _, h => by cases h; exact .bl b
  | .int i, _, _, h => by cases h; exact .int i
  | .str x, _, _, h => by cases h; exact .str x
  | .list ds, _, n, h => by cases n
  | .tuple ds, _, n, h => by
    cases h with
    | tup h1 h2 h3 => exact .tup (k _ _ h1) h2 (RpAll.tk k ds _ n h3)
  | .dict _, _, _, h => by cases h
theorem RpAll.tk {r : Addr} {H H' : Hp} (k : Tk H H') : ∀ (ds : List PyData) (vs : List V), noLs ds = true → RpAll r H vs ds → RpAll r H' vs ds
  | [], _, _, h => by cases h; exact .nil
  | d :: ds, _, n, h => by
    have n' := Bool.and_eq_true_iff.mp n
    cases h with
    | cons h1 h2 => exact .cons (Rp.tk k d _ n'.1 h1) (RpAll.tk k ds _ n'.2 h2)
end
section
variable {K : PySem.W.Frag} {r : Addr} {H : Hp} {Q : VK} {n m : Nat} {x y : V} {a b : Rat} {p : Rat × Rat}
theorem Spt.rp {xs : List V} (hr : H r = some (.lst xs)) (h : Spt m H x p) : Rp r H x (dS p) := by
  obtain ⟨a, x, y, rfl, h1, h2, h3⟩ := h.ex
  exact .tup h1 (ne_of h1 hr (by intro z; cases z)) (.cons (h2.rp hr) (.cons (h3.rp hr) .nil))
theorem Row.at_ (h : Row n H r) : ∃ xs, H r = some (.lst xs) := let ⟨_, _, e, _⟩ := h.ex; ⟨_, e⟩
/-- a new spot out of two fractions -/
theorem newS {a b : Rat} (h1 : Fr m H x a) (h2 : Fr m H y b) (k : ∀ p H', Same H H' → Spt m H' (.ref p) (a, b) → Q (.ref p) H') : NewT [x, y] H Q :=
  newT (Nat.le_of_ble_eq_true rfl) fun p H' s _ e => k p H' s ⟨p, x, y, rfl, e, h1.mono s, h2.mono s⟩
theorem not_b {a b : Bool} (k : Q (.bl (!(a == b))) H) : rNotA (.bl a) (.bl b) H Q := .inr ⟨a, b, rfl, rfl, k⟩
theorem eq_d {d e : PyData} (h1 : Dp K H x d) (h2 : Dp K H y e) (s1 : SeqAt.shaped d = true) (s2 : SeqAt.shaped e = true) (k : Q (.bl (PyData.eqv d e)) H) : rEqA K x y H Q := .inr ⟨d, e, h1, h2, s1, s2, k⟩
end
end L2
end
section
set_option Elab.async false
set_option linter.all false
set_option maxRecDepth 100000
namespace L2
open PySem PySem.Spec PyProof.Rows
/-- a, b, c = x, y, z with plain local names -/
def tPar3 (i j l : Nat) (ta : TA) : TS := fun D σ H => ta σ H fun vs H1 => ∃ v w z, vs = [v, w, z] ∧ D.nx (((σ.set i (some v)).set j (some w)).set l (some z)) H1
/-- a tuple of two ints -/
structure TupI (H : Hp) (v : V) (n d : Int) : Prop where
  ex : ∃ a, v = .ref a ∧ H a = some (.tup [.int n, .int d])
theorem TupI.tk {H H' : Hp} {v : V} {n d : Int} (t : Tk H H') (h : TupI H v n d) : TupI H' v n d := let ⟨a, e, h1⟩ := h.ex; ⟨a, e, t _ _ h1⟩
section
variable {K : PySem.W.Frag} {H : Hp} {Q : VK} {x : V} {n d : Int} {σ : St} {t : TGs} {Qs : St → Hp → Prop}
theorem ix_ti0 (h : TupI H x n d) (k : Q (.int n) H) : rIx K x (.int 0) H Q := by
  obtain ⟨a, rfl, h1⟩ := h.ex
  exact .inr (.inl ⟨a, _, 0, _, rfl, rfl, SqT.of h1, rfl, k⟩)
theorem ix_ti1 (h : TupI H x n d) (k : Q (.int d) H) : rIx K x (.int 1) H Q := by
  obtain ⟨a, rfl, h1⟩ := h.ex
  exact .inr (.inl ⟨a, _, 1, _, rfl, rfl, SqT.of h1, rfl, k⟩)
theorem seq_ti (h : TupI H x n d) (k : t [.int n, .int d] σ H Qs) : gSeq K 2 t x σ H Qs := by
  obtain ⟨a, rfl, h1⟩ := h.ex
  exact seq_t h1 rfl k
end
theorem se_BinOp {a b c d} {rest : List Expr} {env : Env} : starEach (.BinOp a b c d :: rest) env = (false, eval (.BinOp a b c d) env) :: starEach rest env := rfl
theorem se_ListComp {a b c d} {rest : List Expr} {env : Env} : starEach (.ListComp a b c d :: rest) env = (false, eval (.ListComp a b c d) env) :: starEach rest env := rfl
theorem se_Compare {a b c d} {rest : List Expr} {env : Env} : starEach (.Compare a b c d :: rest) env = (false, eval (.Compare a b c d) env) :: starEach rest env := rfl
theorem se_Call {a b c d} {rest : List Expr} {env : Env} : starEach (.Call a b c d :: rest) env = (false, eval (.Call a b c d) env) :: starEach rest env := rfl
theorem se_Constant {a b c} {rest : List Expr} {env : Env} : starEach (.Constant a b c :: rest) env = (false, eval (.Constant a b c) env) :: starEach rest env := rfl
theorem se_Subscript {a b c} {rest : List Expr} {env : Env} : starEach (.Subscript a b c :: rest) env = (false, eval (.Subscript a b c) env) :: starEach rest env := rfl
theorem se_Name {a b} {rest : List Expr} {env : Env} : starEach (.Name a b :: rest) env = (false, eval (.Name a b) env) :: starEach rest env := rfl
theorem se_Tuple {a b c} {rest : List Expr} {env : Env} : starEach (.Tuple a b c :: rest) env = (false, eval (.Tuple a b c) env) :: starEach rest env := rfl
def notStar : Expr → Bool
  | .Starred .. => false
  | _ => true
theorem se_any {env : Env} {pos : Pos} : ∀ {es : List Expr}, es.all notStar = true → (backTo pos (starEach es env)).any (·.1) = false
  | [], _ => rfl
  | e :: es, h => by
    rw [List.all_cons, Bool.and_eq_true] at h
    have ih := se_any (env := env) (pos := pos) h.2
    have : starEach (e :: es) env = (false, eval e env) :: starEach es env := by
      cases e <;> first | rfl | (cases h.1)
    rw [this]
    show (false || (backTo pos (starEach es env)).any (·.1)) = false
    rw [ih]; rfl
theorem pe_ci2 {X : Cx} {i j : Int} {a b d : Nat} {p1 p2 p4 : Pos} : PE X (.Tuple [.Constant (.int i) a p1, .Constant (.int j) b p2] d p4) (tTup (tCons (tC (.int i)) (tCons (tC (.int j)) tNil))) :=
  pe_tup (pa_cons pe_int (pa_cons pe_int pa_nil se_Constant) se_Constant)
/-! ### statements and blocks under a lid of my own: the elaborator does not look below it -/
structure WS (X : Cx) (st : Stmt) (t : TS) : Prop where
  h : PS X st t
structure WSs (X : Cx) (st : List Stmt) (t : TS) : Prop where
  h : PSs X st t
section
variable {X : Cx} {st : Stmt} {rest : List Stmt} {t u : TS} {pos : Pos}
theorem wss_nil : WSs X [] tNext := ⟨pss_nil⟩
theorem wss_cons (h1 : WS X st t) (h2 : WSs X rest u) : WSs X (st :: rest) (tSeq t u) := ⟨pss_cons h1.h h2.h⟩
theorem wss_one (h1 : WS X st t) : WSs X [st] t := ⟨pss_one h1.h⟩
theorem ws_if {c : Expr} {a b : List Stmt} {tc : TT} (hc : PT X c tc) (ha : WSs X a t) (hb : WSs X b u) : WS X (.If c a b pos) (tIfS tc t u) := ⟨ps_if hc ha.h hb.h⟩
theorem ws_while {c : Expr} {body : List Stmt} {tc : TT} {tb : TS} (hp : PassesOwn (model X.prog X.w) X.A X.env X.xe) (hc : PT X c tc) (hb : WSs X body tb) : WS X (.While c body [] pos) (tWhile tc tb) := ⟨ps_while hp hc hb.h⟩
structure WE (X : Cx) (e : Expr) (t : TE) : Prop where
  h : PE X e t
structure WA (X : Cx) (es : List Expr) (t : TA) : Prop where
  h : PA X es t
structure WI (X : Cx) (tg iter : Expr) (wi : TI) : Prop where
  h : PI X tg iter wi
theorem ws_for {tg iter : Expr} {body : List Stmt} {wi : TI} {g : TG} {tb : TS} (hp : PassesOwn (model X.prog X.w) X.A X.env X.xe) (hc : X.calm = true) (hi : WI X tg iter wi) (hg : PG X tg g) (hb : WSs X body tb)
    (hs : ∀ x, foldedSetIterable iter X.env x = pure x := by intro _; rfl) : WS X (.For tg iter body [] pos) (tFor wi g tb) := ⟨ps_for hp hc hi.h hg hb.h hs⟩
end
theorem cal_ofW {P : Program} {w : World} {K : PySem.W.Frag} {mg : Str → Option Value} {base : Heap} {x qual : Str} {st : Stmt} {f : Addr} {fd : FuncData} {N ps : List Str} {k : Nat} {sp : Sp} (F : Fun K x qual st f fd) (S : FnScope N ps (defScope st)) (m : mg x = some (.ref f)) (b : Binds K fd ps [])
    (len : ∀ vs H Q E, sp vs H Q E → vs.length = ps.length)
    (hbody : ∀ (cdv : Value) (A : Around) (outer : List Env) (s : Shared) (H : Hp) (vs : List V) (Q : VK) (E : XK), Room k (A.deeper (envOfC qual (defScope st) s.heap.objs.size f cdv)) → sp vs H Q E →
      ∃ t, WSs (cxOf CX0 P w K mg base N qual (defScope st) f cdv A outer s H E).nox (defBody st) t ∧ t { nx := fun _ H' => Q .non H', rt := Q } (start N vs) H) : Cal P w K mg base (k + 1) x ps sp :=
  cal_of F S m b len fun cdv A outer s H vs Q E hr h => let ⟨t, h1, h2⟩ := hbody cdv A outer s H vs Q E hr h; ⟨t, h1.h, h2⟩
theorem okW {P : Program} {w : World} {K : PySem.W.Frag} {mg : Str → Option Value} {base : Heap} {x qual : Str} {st : Stmt} {f : Addr} {fd : FuncData} {N ps : List Str} {k : Nat} {sp : Sp} (F : Fun K x qual st f fd) (S : FnScope N ps (defScope st))
    (len : ∀ vs H Q E, sp vs H Q E → vs.length = ps.length)
    (hbody : ∀ (cdv : Value) (A : Around) (outer : List Env) (s : Shared) (H : Hp) (vs : List V) (Q : VK) (E : XK), Room k (A.deeper (envOfC qual (defScope st) s.heap.objs.size f cdv)) → sp vs H Q E →
      ∃ t, WSs (cxOf CX0 P w K mg base N qual (defScope st) f cdv A outer s H E).nox (defBody st) t ∧ t { nx := fun _ H' => Q .non H', rt := Q } (start N vs) H) : FnOk P w K mg base CX0 (k + 1) f fd ps sp :=
  F.ok S len fun cdv A outer s H vs Q E hr h => let ⟨t, h1, h2⟩ := hbody cdv A outer s H vs Q E hr h; ⟨t, h1.h, h2⟩
end L2
end
section
set_option Elab.async false
set_option linter.all false
set_option maxRecDepth 100000
namespace L2
open PySem PySem.Spec PyProof.Rows
/-! ### an exception in flight behind a call -/
structure FlyAt (P : Program) (w : World) (outer : List Env) (H : Hp) (s : Shared) (H' : Hp) (x C : Addr) (s' : Shared) : Prop where
  os : s'.os = s.os
  bare : AllBare s'.gens
  un : Un (frs outer) [] H H' s.heap s'.heap
  hok : HOk P w H' s'.heap
  free : H' x = none
  fly : ∃ (t : Addr) (vs : List Value) (B : Heap), Heap.FlyingW B outer x (.ref C) (.ref t) s'.heap ∧ s'.heap.TupAt t vs ∧ B.get? t = none ∧
    (∀ b u o, H' b = some u → s'.heap.get? b = some o → B.get? b = some o) ∧
    (∀ b o, s.heap.get? b = some o → H b = none → b ∉ frs outer → B.get? b = some o) ∧
    (∀ b o, s.heap.get? b = some o → b ∉ frs outer → ∃ o', B.get? b = some o')
def CX1 (P : Program) (w : World) : CXT := fun outer H s E e s' => ∃ x C H', e = .ref x ∧ FlyAt P w outer H s H' x C s' ∧ E (.ref C) (some x) H'
theorem HOk.trk {P : Program} {w : World} {H : Hp} {h h' : Heap} (x : HOk P w H h) (k : ∀ b u o, H b = some u → h.get? b = some o → h'.get? b = some o) : HOk P w H h' := fun a o e =>
  (x a o e).stay (fun b u hb q => by
    rcases hb with rfl | hb
    · exact k _ _ _ e q
    · exact k _ _ _ hb q) (fun _ q => q) fun _ _ q => q
theorem ObjOk.there {P : Program} {w : World} {H : Hp} {h : Heap} {a : Addr} {o : HO} (x : ObjOk P w H h a o) : ∃ ob, h.get? a = some ob := by
  cases o with
  | lst xs => obtain ⟨_, _, _, _, e⟩ := x; exact ⟨_, e⟩
  | tup xs => obtain ⟨_, _, _, ob, e, _⟩ := x; exact ⟨_, e⟩
  | dK kvs => obtain ⟨_, _, _, _, o, _, _, e, _⟩ := x; exact ⟨_, e⟩
  | dT kvs => obtain ⟨_, _, _, _, o, _, _, e, _⟩ := x; exact ⟨_, e⟩
  | set S n => obtain ⟨o, _, _, _, e, _⟩ := x; exact ⟨_, e⟩
  | ins C dx fs => obtain ⟨_, _, _, e, _⟩ := x; exact ⟨_, e⟩
  | own y => exact x
  | xd fs => obtain ⟨_, ⟨_, _, _, e, _⟩, _⟩ := x; exact ⟨_, e⟩
  | rng lo hi => obtain ⟨_, _, _, e⟩ := x; exact ⟨_, e⟩
  | frz ob u => obtain ⟨e, _⟩ := x; exact ⟨_, e⟩
  | tbl ps => exact ⟨_, x⟩
  | met f y => exact ⟨_, x⟩
  | ext φ => obtain ⟨_, e, _⟩ := x; exact e
section
variable {P : Program} {w : World} {K : PySem.W.Frag} {mg : Str → Option Value} {base : Heap} {N : List Str} {qual : Str} {scope : Scope} {f : Addr} {cdv : Value} {A : Around} {outer : List Env} {s : Shared} {H : Hp} {E : XK} {CX : CXT}
variable {pins : List (Addr × Obj)} {σ : St} {H1 : Hp} {s1 : Shared}
/-- the built-in bases of an own refusal -/
abbrev bmV : List Value := [.type "ValueError", .type "Exception", .type "BaseException", .type "object"]
abbrev newV : String := "ValueError.__new__"
def tRaise (te : TE) (E : XK) (C : Addr) : TS := fun _ σ H => tCons te tNil σ H fun us H1 => us.length = 1 ∧ ∀ x, H1 x = none → E (.ref C) (some x) H1
end
end L2
end
section
set_option Elab.async false
set_option linter.all false
set_option maxRecDepth 100000
namespace L2
open PySem PySem.Spec PyProof.Rows
/-! ### isinstance of an exception of a class of one's own -/
/-- what the fragment tells of an exception's class -/
structure XCls (K : PySem.W.Frag) (D : Addr) : Prop where
  ga : PySem.W.findIn K (.ref D) "__getattribute__" = some (some (.builtin "BaseException.__getattribute__"))
  gt : PySem.W.findIn K (.ref D) "__getattr__" = some none
  cl : PySem.W.findIn K (.ref D) "__class__" = some (some (.builtin "object.__class__"))
  mb : PySem.W.mroIn K D (.type "BaseException") = some true
  mo : PySem.W.mroIn K D (.type "object") = some true
def ExcAt (x D : Addr) (h : Heap) : Prop := ∃ o, h.get? x = some o ∧ o.cls = .ref D
theorem ExcAt.ty {x D : Addr} {h : Heap} (M : Model) (p : ExcAt x D h) : PySem.W.Looks M h (typeOf (.ref x)) (.ref D) := by
  obtain ⟨o, e1, e2⟩ := p
  exact e2 ▸ (PySem.W.Looks.ld e1).andThen .now
section
variable {K : PySem.W.Frag} {x D : Addr} {prog : Program} {w : World} {A : Around} {E : Value → Shared → Prop} {h : Heap} {g : Array GenState} {d : Drawn} {t : Nat} {os : OsState}
end
end L2
end
section
set_option Elab.async false
set_option linter.all false
set_option maxRecDepth 100000
namespace L2
open PySem PySem.Spec PyProof.Rows
/-! ### defs from which an exception may come -/
structure Cal1 (P : Program) (w : World) (K : PySem.W.Frag) (mg : Str → Option Value) (base : Heap) (k : Nat) (x : Str) (ps : List Str) (sp : Sp) : Prop where
  ex : ∃ f fd, FnOk P w K mg base (CX1 P w) k f fd ps sp ∧ mg x = some (.ref f) ∧ PySem.W.keepIn K (.ref f) = true ∧ Binds K fd ps []
section
variable {P : Program} {w : World} {K : PySem.W.Frag} {mg : Str → Option Value} {base : Heap}
end
theorem PS.nox {X : Cx} {st : Stmt} {t : TS} (h : PS X.nox st t) : PS X st t := fun pins s σ H D I hw =>
  wpAny_mono (h pins s σ H D (I.wish _) hw) (fun _ _ q => q.unwish) fun _ _ z => False.elim z
section
variable {P : Program} {w : World} {K : PySem.W.Frag} {mg : Str → Option Value} {base : Heap} {N : List Str} {qual : Str} {scope : Scope} {f : Addr} {cdv : Value} {A : Around} {outer : List Env} {s : Shared} {H : Hp} {E : XK}
end
/-! ### try -/
abbrev Cx.pinned (X : Cx) (pins : List (Addr × Obj)) : Cx := { X with pn := X.pn ++ pins }
theorem Cx.Ok.pinned {X : Cx} (ok : X.Ok) (pins : List (Addr × Obj)) : (X.pinned pins).Ok :=
  ⟨ok.mod, ok.kind, ok.glob, ok.blt, ok.above, ok.inj, ok.has, ok.cab, ok.hd, ok.frames, ok.stk, ok.exf, ok.bs, ok.bsz, ok.noex, ok.exfs, ok.funs, ok.frf⟩
theorem Cx.Ok.unpinned {X : Cx} {pins : List (Addr × Obj)} (ok : (X.pinned pins).Ok) : X.Ok :=
  ⟨ok.mod, ok.kind, ok.glob, ok.blt, ok.above, ok.inj, ok.has, ok.cab, ok.hd, ok.frames, ok.stk, ok.exf, ok.bs, ok.bsz, ok.noex, ok.exfs, ok.funs, ok.frf⟩
section
variable {X : Cx} {pins ps : List (Addr × Obj)} {σ : St} {H : Hp} {s : Shared}
end
def tCallT (sp : Sp) (Eσ : St → XK) (t : TA) : TE := fun σ H Q => t σ H fun vs H1 => sp vs H1 Q (Eσ σ)
section
variable {X : Cx} {pins : List (Addr × Obj)} {Eσ : St → XK}
end
/-- the classes that a handler lets in, by the fragment -/
structure XHnd (K : PySem.W.Frag) (S : Addr) : Prop where
  ty : PySem.W.typeIn K (.ref S) = some (.type "type")
  mb : PySem.W.mroIn K S (.type "BaseException") = some true
section
variable {K : PySem.W.Frag} {M : Model} {A : Around} {E : Value → Shared → Prop} {h : Heap} {g : Array GenState} {d : Drawn} {t : Nat} {os : OsState} {e C S : Addr} {r : Bool} {Q : Bool → Shared → Prop}
end
end L2
end
section
set_option Elab.async false
set_option linter.all false
set_option maxRecDepth 100000
namespace L2
open PySem PySem.Spec PyProof.Rows
section
variable {X : Cx} {pins : List (Addr × Obj)} {σ : St} {H H1 H2 : Hp} {s s0 s1 : Shared}
/-- a name is unbound -/
theorem Inv.drop {n : Str} {i : Nat} {m : Str → Option Value} {u : Option Value} {h' : Heap} (I : Inv X pins σ H s) (hN : X.N.Nodup) (hi : X.N[i]? = some n) (hl : X.env.scope.names.lookup n = some .local)
    (hm : ∀ (j : Nat) (x : Str) (v : V), X.N[j]? = some x → σ[j]? = some (some v) → Vis X.env.scope x → ∃ u, RelV v u ∧ Look X.env s.heap m x u)
    (hn' : h'.Ns X.env.locals (fun x => if x = n then u else m x)) (hs : Heap.SameBut X.env.locals s.heap h') : Inv X pins (σ.set i none) H { s with heap := h' } := by
  have cne := I.cne
  have keep : ∀ b o, b ≠ X.env.locals → s.heap.get? b = some o → h'.get? b = some o := fun b o z e => (hs.2 b z).trans e
  have nel : ∀ b o, X.s_0.heap.get? b = some o → b ≠ X.env.locals := fun b o e => Nat.ne_of_lt (Nat.lt_of_lt_of_le (Heap.lt_size e) I.ok.above)
  refine ⟨I.ok, I.os, I.bare, ⟨fun b o e z hb hx => ?_, fun b o e z hb hx => ?_, I.base.free, fun b o e hx => ?_, I.base.tups, I.base.frzs, I.base.tbls⟩, ⟨_, hn', fun j y v' e1 e2 e3 => ?_⟩, fun y c e => ?_, I.free, I.freeC, fun p hp => ?_, fun b o e => ?_, by simpa using I.len⟩
  · exact keep b o (nel b o e) (I.base.keep b o e z hb hx)
  · obtain ⟨sl, e1⟩ := I.base.slot b o e z hb hx
    exact ⟨sl, keep b _ (nel b o e) e1⟩
  · obtain ⟨o', e1⟩ := I.base.there b o e hx
    exact ⟨o', keep b _ (nel b o e) e1⟩
  · by_cases hj : j = i
    · subst hj
      have hiσ : j < σ.length := by rw [I.len]; exact (List.getElem?_eq_some_iff.mp hi).1
      rw [List.getElem?_set_self hiσ] at e2
      cases e2
    · rw [List.getElem?_set_ne (Ne.symm hj)] at e2
      obtain ⟨u', r', q⟩ := hm j y v' e1 e2 e3
      refine ⟨u', r', ?_⟩
      rcases q with ⟨k, e⟩ | ⟨k, c, e, z⟩
      · refine .inl ⟨k, ?_⟩
        have : y ≠ n := fun e => hj (nodup_ix hN e1 (e ▸ hi))
        simp [this, e]
      · exact .inr ⟨k, c, e, z.sameBut hs (cne y c e)⟩
  · obtain ⟨w', z⟩ := I.cell y c e
    exact ⟨w', z.sameBut hs (cne y c e)⟩
  · obtain ⟨e, z, ne, nf, d⟩ := I.pin p hp
    exact ⟨keep _ _ ne e, z, ne, nf, d⟩
  · refine (I.hok b o e).stay (fun c w' hc q => keep c _ ?_ q) (fun _ q => q) fun _ _ q => q
    intro z
    have hf := I.free
    rcases hc with rfl | hc
    · rw [z, hf] at e; cases e
    · rw [z, hf] at hc; cases hc
end
def tTry (K : PySem.W.Frag) (S : Addr) (i : Nat) (tb : (St → XK) → TS) (th : TS) : TS := fun D σ H =>
  tb (fun σ' Cv ox H' => ∃ C x, Cv = .ref C ∧ ox = some x ∧ PySem.W.mroIn K C (.ref S) = some true ∧ th { nx := fun σ2 H2 => D.nx (σ2.set i none) H2, rt := D.rt } (σ'.set i (some (.ref x))) (upd H' x (.ext (ExcAt x C)))) D σ H
section
variable {X : Cx} {nm n : Str} {S : Addr} {i : Nat} {body : List Stmt} {b0 : Stmt} {suite : List Stmt} {np hp pos : Pos} {tb : (St → XK) → TS} {th : TS}
end
end L2
end
section
set_option Elab.async false
set_option linter.all false
set_option maxRecDepth 100000
namespace L2
open PySem PySem.Spec PyProof.Rows
/-! ### a class of one's own, by the fragment -/
/-- all that is wanted of a refusal's class -/
structure XC (K : PySem.W.Frag) (mg : Str → Option Value) (base : Heap) (x : Str) (C S : Addr) : Prop where
  own : OwnCls x C bmV newV mg base
  cls : XCls K C
  sub : PySem.W.mroIn K C (.ref S) = some true
/-! ### isinstance of what was caught -/
section
variable {X : Cx} {pins : List (Addr × Obj)} {σ : St} {H : Hp} {s : Shared} {A : Around} {E : Value → Shared → Prop} {Q : Value → Shared → Prop} {c : Value} {b : Bool}
end
end L2
end
section
set_option Elab.async false
set_option linter.all false
set_option maxRecDepth 100000
namespace L2
open PySem PySem.Spec PyProof.Rows
end L2
end
section
set_option Elab.async false
set_option linter.all false
set_option maxRecDepth 100000
namespace L2
open PySem PySem.Spec PyProof.Rows
/-! ### x in a list or tuple of data -/
section
variable {X : Cx}
end
end L2
end
section
set_option Elab.async false
set_option linter.all false
set_option maxRecDepth 100000
namespace L2
open PySem PySem.Spec PyProof.Rows
/-! ### ways that join again -/
theorem same_of_kp {p : Addr} {H H' : Hp} (k : Kp p H H') (h : H p = none) : Same H H' := fun b o e => k b o e (ne_of_none e h)
theorem bdle {a : Int} {m n : Nat} (h : a.natAbs < 2 ^ m) (l : m ≤ n) : a.natAbs < 2 ^ n := Nat.lt_of_lt_of_le h (Nat.pow_le_pow_right (by decide) l)
/-! ### shapes of data -/
def ShN (n : Nat) (d : PyData) : Prop := d.canLay0 = true ∧ d.depth ≤ n
theorem ShN.sh {n : Nat} {d : PyData} (h : ShN n d) (hn : n ≤ 64) : SeqAt.shaped d = true := by
  unfold SeqAt.shaped
  rw [h.1, decide_eq_true (Nat.le_trans h.2 hn)]
  rfl
theorem ShN.le {m n : Nat} {d : PyData} (h : ShN m d) (l : m ≤ n) : ShN n d := ⟨h.1, Nat.le_trans h.2 l⟩
theorem ShN.all {n : Nat} : ∀ {ds : List PyData}, (∀ d ∈ ds, ShN n d) → PyData.canLayAll0 ds = true ∧ PyData.depthAll ds ≤ n
  | [], _ => ⟨rfl, by simp [PyData.depthAll]⟩
  | d :: ds, h => by
    have h1 := h d List.mem_cons_self
    have h2 := ShN.all fun e he => h e (List.mem_cons_of_mem _ he)
    have h3 := h1.2
    have h4 := h2.2
    refine ⟨by rw [PyData.canLayAll0, h1.1, h2.1]; rfl, ?_⟩
    simp only [PyData.depthAll]
    omega
theorem ShN.list {n : Nat} {ds : List PyData} (h : ∀ d ∈ ds, ShN n d) : ShN (n + 1) (.list ds) := by
  obtain ⟨h1, h2⟩ := ShN.all h
  refine ⟨by rw [PyData.canLay0]; exact h1, ?_⟩
  simp only [PyData.depth]
  omega
theorem ShN.tuple {n : Nat} {ds : List PyData} (h : ∀ d ∈ ds, ShN n d) : ShN (n + 1) (.tuple ds) := by
  obtain ⟨h1, h2⟩ := ShN.all h
  refine ⟨by rw [PyData.canLay0]; exact h1, ?_⟩
  simp only [PyData.depth]
  omega
theorem ShN.dF (q : Rat) : ShN 2 (dF q) := ⟨rfl, Nat.le_of_ble_eq_true rfl⟩
theorem ShN.dS (p : Rat × Rat) : ShN 3 (dS p) := ⟨rfl, Nat.le_of_ble_eq_true rfl⟩
theorem ne_d {K : PySem.W.Frag} {H : Hp} {Q : VK} {x y : V} {d e : PyData} (h1 : Dp K H x d) (h2 : Dp K H y e) (s1 : SeqAt.shaped d = true) (s2 : SeqAt.shaped e = true) (k : Q (.bl (!PyData.eqv d e)) H) : rNeA K x y H Q := .inr ⟨d, e, h1, h2, s1, s2, k⟩
theorem ne_same {K : PySem.W.Frag} {H : Hp} {Q : VK} {x y : V} {d : PyData} (h1 : Dp K H x d) (h2 : Dp K H y d) (s1 : SeqAt.shaped d = true) (k : Q (.bl false) H) : rNeA K x y H Q := ne_d h1 h2 s1 s1 (by rw [SeqAt.eqv_refl d (SeqAt.canLay_of_shaped s1)]; exact k)
end L2
end
section
set_option linter.all false
namespace My
/-! ### powers of a prime -/
def Pr (p : Nat) : Prop := 2 ≤ p ∧ ∀ d, d ∣ p → d = 1 ∨ d = p
def vp (p n : Nat) : Nat := if h : 2 ≤ p ∧ 0 < n ∧ n % p = 0 then 1 + vp p (n / p) else 0
termination_by n
decreasing_by exact Nat.div_lt_self h.2.1 h.1
theorem vp_step {p n : Nat} (hp : 2 ≤ p) (hn : 0 < n) (h : n % p = 0) : vp p n = 1 + vp p (n / p) := by
  rw [vp, dif_pos ⟨hp, hn, h⟩]
theorem vp_stop {p n : Nat} (h : n % p ≠ 0) : vp p n = 0 := by
  rw [vp, dif_neg (fun z => h z.2.2)]
theorem vp_eq {p : Nat} (hp : 2 ≤ p) : ∀ n, 0 < n → ∃ m, n = p ^ vp p n * m ∧ m % p ≠ 0 ∧ 0 < m := by
  intro n
  induction n using Nat.strongRecOn with
  | ind n ih =>
    intro hn
    by_cases h : n % p = 0
    · have hq : 0 < n / p := Nat.div_pos (Nat.le_of_dvd hn (Nat.dvd_of_mod_eq_zero h)) (by omega)
      obtain ⟨m, h1, h2, h3⟩ := ih (n / p) (Nat.div_lt_self hn hp) hq
      refine ⟨m, ?_, h2, h3⟩
      rw [vp_step hp hn h, Nat.add_comm, Nat.pow_succ, Nat.mul_assoc, Nat.mul_comm p m, ← Nat.mul_assoc, ← h1]
      exact (Nat.div_mul_cancel (Nat.dvd_of_mod_eq_zero h)).symm
    · exact ⟨n, by rw [vp_stop h]; simp, h, hn⟩
theorem vp_uniq {p : Nat} (hp : 2 ≤ p) : ∀ (k l m m' : Nat), m % p ≠ 0 → m' % p ≠ 0 → p ^ k * m = p ^ l * m' → k = l
  | 0, 0, _, _, _, _, _ => rfl
  | 0, l + 1, m, m', h, _, e => by
    exfalso; apply h
    rw [Nat.pow_zero, Nat.one_mul] at e
    rw [e, Nat.pow_succ, Nat.mul_assoc, Nat.mul_left_comm]
    exact Nat.mul_mod_right _ _
  | k + 1, 0, m, m', _, h, e => by
    exfalso; apply h
    rw [Nat.pow_zero, Nat.one_mul] at e
    rw [← e, Nat.pow_succ, Nat.mul_assoc, Nat.mul_left_comm]
    exact Nat.mul_mod_right _ _
  | k + 1, l + 1, m, m', h, h', e => by
    have e2 : p ^ k * m = p ^ l * m' := by
      rw [Nat.pow_succ, Nat.pow_succ, Nat.mul_assoc, Nat.mul_left_comm, Nat.mul_assoc (p ^ l), Nat.mul_left_comm (p ^ l)] at e
      exact Nat.eq_of_mul_eq_mul_left (by omega) e
    rw [vp_uniq hp k l m m' h h' e2]
theorem vp_of {p k m : Nat} (hp : 2 ≤ p) (hm : m % p ≠ 0) : vp p (p ^ k * m) = k := by
  have hm0 : 0 < m := by
    rcases Nat.eq_zero_or_pos m with z | z
    · subst z; exact absurd (Nat.zero_mod p) hm
    · exact z
  have hpos : 0 < p ^ k * m := Nat.mul_pos (Nat.pow_pos (by omega)) hm0
  obtain ⟨m', h1, h2, h3⟩ := vp_eq hp _ hpos
  exact (vp_uniq hp k _ m m' hm h2 h1).symm
theorem euclid {p a b : Nat} (hp : Pr p) (ha : a % p ≠ 0) (hb : b % p ≠ 0) : (a * b) % p ≠ 0 := by
  intro h
  have hd : p ∣ a * b := Nat.dvd_of_mod_eq_zero h
  rcases hp.2 _ (Nat.gcd_dvd_left p a) with g | g
  · have : p ∣ b := Nat.Coprime.dvd_of_dvd_mul_left (show Nat.Coprime p a from g) hd
    exact hb (Nat.mod_eq_zero_of_dvd this)
  · exact ha (Nat.mod_eq_zero_of_dvd (g ▸ Nat.gcd_dvd_right p a))
theorem vp_mul {p a b : Nat} (hp : Pr p) (ha : 0 < a) (hb : 0 < b) : vp p (a * b) = vp p a + vp p b := by
  obtain ⟨m, h1, h2, h3⟩ := vp_eq hp.1 a ha
  obtain ⟨n, k1, k2, k3⟩ := vp_eq hp.1 b hb
  have e : a * b = p ^ (vp p a + vp p b) * (m * n) := by
    rw [Nat.pow_add]
    calc a * b = (p ^ vp p a * m) * (p ^ vp p b * n) := by rw [← h1, ← k1]
      _ = p ^ vp p a * p ^ vp p b * (m * n) := by ac_rfl
  calc vp p (a * b) = vp p (p ^ (vp p a + vp p b) * (m * n)) := by rw [← e]
    _ = vp p a + vp p b := vp_of hp.1 (euclid hp h2 k2)
theorem vp_dvd {p k n : Nat} (hp : 2 ≤ p) (hn : 0 < n) : p ^ k ∣ n ↔ k ≤ vp p n := by
  obtain ⟨m, h1, h2, h3⟩ := vp_eq hp n hn
  constructor
  · rintro ⟨c, hc⟩
    have hc0 : 0 < c := by
      rcases Nat.eq_zero_or_pos c with z | z
      · subst z; omega
      · exact z
    obtain ⟨d, g1, g2, g3⟩ := vp_eq hp c hc0
    have e : n = p ^ (k + vp p c) * d := by rw [Nat.pow_add, Nat.mul_assoc, ← g1, hc]
    have e2 : vp p n = k + vp p c := by
      conv => lhs; rw [e]
      exact vp_of hp g2
    omega
  · intro h
    refine Nat.dvd_trans (Nat.pow_dvd_pow p h) ?_
    exact ⟨m, h1⟩
/-! ### of an int -/
def vi (p : Nat) (z : Int) : Nat := vp p z.natAbs
theorem vi_mul {p : Nat} {a b : Int} (hp : Pr p) (ha : a ≠ 0) (hb : b ≠ 0) : vi p (a * b) = vi p a + vi p b := by
  unfold vi
  rw [Int.natAbs_mul]
  exact vp_mul hp (by omega) (by omega)
theorem vi_dvd {p k : Nat} {z : Int} (hp : 2 ≤ p) (hz : z ≠ 0) : ((p ^ k : Nat) : Int) ∣ z ↔ k ≤ vi p z := by
  rw [Int.ofNat_dvd_left]
  exact vp_dvd hp (by omega)
theorem vi_neg {p : Nat} {z : Int} : vi p (-z) = vi p z := by unfold vi; rw [Int.natAbs_neg]
theorem vi_add {p : Nat} {a b : Int} (hp : 2 ≤ p) (ha : a ≠ 0) (hb : b ≠ 0) (h : a + b ≠ 0) : min (vi p a) (vi p b) ≤ vi p (a + b) := by
  refine (vi_dvd hp h).mp (Int.dvd_add ((vi_dvd hp ha).mpr (Nat.min_le_left _ _)) ((vi_dvd hp hb).mpr (Nat.min_le_right _ _)))
/-! ### of a fraction -/
def vq (p : Nat) (q : Rat) : Int := (vi p q.num : Int) - (vp p q.den : Int)
theorem vq_div {p : Nat} {a b : Int} (hp : Pr p) (ha : a ≠ 0) (hb : b ≠ 0) : vq p (Rat.divInt a b) = (vi p a : Int) - vi p b := by
  have hc : (Rat.divInt a b).num * b = a * (Rat.divInt a b).den := by
    have h := Rat.num_divInt_den (Rat.divInt a b)
    exact (Rat.divInt_eq_divInt_iff (by have := (Rat.divInt a b).den_nz; omega) hb).mp h
  have hd := (Rat.divInt a b).den_nz
  have hn : (Rat.divInt a b).num ≠ 0 := by
    intro z
    rw [z, Int.zero_mul] at hc
    rcases Int.mul_eq_zero.mp hc.symm with z | z
    · exact ha z
    · omega
  have e1 := vi_mul hp hn hb
  have e2 := vi_mul (a := a) (b := ((Rat.divInt a b).den : Int)) hp ha (by omega)
  rw [hc] at e1
  unfold vq
  have e3 : vi p ((Rat.divInt a b).den : Int) = vp p (Rat.divInt a b).den := by unfold vi; rw [Int.natAbs_natCast]
  rw [e3] at e2
  omega
theorem num_ne {q : Rat} (h : q ≠ 0) : q.num ≠ 0 := fun z => h (Rat.num_eq_zero.mp z)
theorem vq_neg {p : Nat} {q : Rat} : vq p (-q) = vq p q := by
  unfold vq
  rw [Rat.neg_num, Rat.neg_den, vi_neg]
theorem q_sum (q r : Rat) : Rat.divInt (q.num * r.den + r.num * q.den) (q.den * r.den) = q + r := by
  have h1 := q.den_nz
  have h2 := r.den_nz
  rw [← Rat.divInt_add_divInt _ _ (by omega) (by omega), Rat.num_divInt_den, Rat.num_divInt_den]
/-- the sum, as ints over one bottom -/
theorem vq_parts {p : Nat} {q r : Rat} (hp : Pr p) (hq : q ≠ 0) (hr : r ≠ 0) : ∃ (a b : Int) (d : Int), a ≠ 0 ∧ b ≠ 0 ∧ d ≠ 0 ∧ q + r = Rat.divInt (a + b) d ∧ vq p q = (vi p a : Int) - vi p d ∧ vq p r = (vi p b : Int) - vi p d := by
  have h1 := q.den_nz
  have h2 := r.den_nz
  refine ⟨q.num * r.den, r.num * q.den, q.den * r.den, Int.mul_ne_zero (num_ne hq) (by omega), Int.mul_ne_zero (num_ne hr) (by omega), Int.mul_ne_zero (by omega) (by omega), (q_sum q r).symm, ?_, ?_⟩
  · rw [vi_mul hp (num_ne hq) (by omega), vi_mul hp (by omega) (by omega)]
    unfold vq vi
    rw [Int.natAbs_natCast, Int.natAbs_natCast]
    omega
  · rw [vi_mul hp (num_ne hr) (by omega), vi_mul hp (by omega) (by omega)]
    unfold vq vi
    rw [Int.natAbs_natCast, Int.natAbs_natCast]
    omega
theorem divInt_ne {a d : Int} (hd : d ≠ 0) (h : Rat.divInt a d ≠ 0) : a ≠ 0 := fun z => h (by rw [z, Rat.zero_divInt])
theorem vq_add {p : Nat} {q r : Rat} (hp : Pr p) (hq : q ≠ 0) (hr : r ≠ 0) (h : q + r ≠ 0) : min (vq p q) (vq p r) ≤ vq p (q + r) := by
  obtain ⟨a, b, d, ha, hb, hd, e, e1, e2⟩ := vq_parts hp hq hr
  rw [e] at h ⊢
  have hab := divInt_ne hd h
  rw [vq_div hp hab hd, e1, e2]
  have := vi_add hp.1 ha hb hab
  omega
/-! ### the primes below 100 -/
end My
end
section
set_option Elab.async false
set_option linter.all false
set_option maxRecDepth 100000
namespace L2
open PySem PySem.Spec PyProof.Rows
/-! ### a module's tuple of ints -/
def KTup (K : PySem.W.Frag) (a : Addr) (ns : List Int) : Prop := ∃ (o : Obj) (its : Array Value) (n : Nat), K.lookup a = some o ∧ o.cls = .type "tuple" ∧ o.data = .seq its n ∧ its.size ≤ sizeLine ∧ Vals (ns.map V.int) its.toList
theorem KTup.sq {K : PySem.W.Frag} {a : Addr} {ns : List Int} {H : Hp} (h : KTup K a ns) : SqT K H a (ns.map V.int) := .inr h
/-! ### the same rules with the fragment by its name: for blocks within blocks -/
section
variable {X : Cx} {K : PySem.W.Frag}
theorem op_eqK (hu : X.A.units + 64 < cLine) (e : X.K = K) : OpR X (compareOp .Eq) (rEqA K) := e ▸ op_eqA hu
theorem ix_seqK (e : X.K = K) : IxR X (rIx K) := e ▸ ix_seq
theorem call_isiK (e : X.K = K) : CallR X (.builtin "isinstance") (rIsi K) := e ▸ call_isi
end
/-! ### the primes -/
end L2
end
section
set_option Elab.async false
set_option linter.all false
set_option maxRecDepth 100000
namespace L2
open PySem PySem.Spec PyProof.Rows
/-! ### generators are never fewer -/
theorem runs_gens {M : Model} {Γ : PySem.Ctx} {p : Pos} {t : Sem Fin} {fs : List Frame} {s s' : Shared} {e : End} (h : Runs M Γ p t fs s e s') : s.gens.size ≤ s'.gens.size := by
  induction h <;> (try simp only [Shared.setGen, Array.size_setIfInBounds, Array.size_push] at *) <;> omega
theorem wakes_gens {M : Model} {Γ : PySem.Ctx} {p : Pos} {g : Nat} {r : Resume} {s s' : Shared} {res : GenResult} (h : Wakes M Γ p g r s res s') : s.gens.size ≤ s'.gens.size := by
  have sz : ∀ (s : Shared) x, (s.setGen g x).gens.size = s.gens.size := fun s x => by simp [Shared.setGen]
  unfold Wakes at h
  split at h
  · exact h.elim
  · split at h
    · obtain ⟨e₁, s₁, hr, _, _, rfl⟩ := h
      have := runs_gens hr
      rw [sz] at this
      rw [sz]; exact this
    · rw [h.2]; first | exact Nat.le_refl _ | (rw [sz]; exact Nat.le_refl _)
    · rw [h.2]; first | exact Nat.le_refl _ | (rw [sz]; exact Nat.le_refl _)
  · obtain ⟨e₁, s₁, hr, _, _, rfl⟩ := h
    have := runs_gens hr
    rw [sz] at this
    rw [sz]; exact this
  · rw [h.2]; exact Nat.le_refl _
  · rw [h.2]; exact Nat.le_refl _
theorem wp_gens {α : Type} (M : Model) (Γ : PySem.Ctx) (n : Nat) (t : Sem α) : ∀ (Q : α → Pos → Shared → Prop) (E : Value → Pos → Shared → Prop) (p : Pos) (s : Shared), n ≤ s.gens.size → Sem.wp M Γ t Q E p s →
    Sem.wp M Γ t (fun a p' s' => n ≤ s'.gens.size ∧ Q a p' s') (fun e p' s' => n ≤ s'.gens.size ∧ E e p' s') p s := by
  induction t with
  | pure a => intro Q E p s hn h; exact ⟨hn, h⟩
  | raise e => intro Q E p s hn h; exact ⟨hn, h⟩
  | unsupported _ => intro Q E p s _ h; exact h
  | finish _ => intro Q E p s _ h; exact h
  | rule _ k ih => intro Q E p s hn h; exact ih () Q E p s hn h
  | «at» p' k ih => intro Q E p s hn h; exact ih () Q E p' s hn h
  | load a _ k ih => intro Q E p s hn h; obtain ⟨o, ho, h⟩ := h; exact ⟨o, ho, ih o Q E p s hn h⟩
  | update a _ f k ih => intro Q E p s hn h; exact ⟨h.1, ih () Q E p _ hn h.2⟩
  | loadIfAlive a k ih => intro Q E p s hn h; exact ih _ Q E p s hn h
  | point _ k ih => intro Q E p s hn h; exact ih () Q E p s hn h
  | register _ _ => intro Q E p s _ h; exact h
  | alloc o k ih => intro Q E p s hn h; exact ih _ Q E p _ hn h
  | fresh k ih => intro Q E p s hn h; exact ih _ Q E p _ hn h
  | ask k ih => intro Q E p s hn h; exact ih _ Q E p s hn h
  | choose src m k ih => intro Q E p s hn h; exact ⟨h.1, ih _ Q E p _ hn h.2⟩
  | os q _ k ih => intro Q E p s hn h; exact ih _ Q E p _ hn h
  | call c hd _ _ k ih => intro Q E p s hn h; obtain ⟨r, s', hr, h⟩ := h; exact ⟨r, s', hr, ih r Q E p s' (Nat.le_trans hn (runs_gens hr)) h⟩
  | handled own k ih => intro Q E p s hn h; exact ih _ Q E p s hn h
  | genState g k ih => intro Q E p s hn h; obtain ⟨st, hs, h⟩ := h; exact ⟨st, hs, ih _ Q E p s hn h⟩
  | newGen c k ih => intro Q E p s hn h; exact ih _ Q E p _ (Nat.le_trans hn (by simp)) h
  | resume g r _ k ih => intro Q E p s hn h; obtain ⟨res, s', hw, h⟩ := h; exact ⟨res, s', hw, ih res Q E p s' (Nat.le_trans hn (wakes_gens hw)) h⟩
  | yield _ _ _ _ => intro Q E p s _ h; exact h
  | stack k ih => intro Q E p s hn h; exact ih _ Q E p s hn h
  | fork _ _ => intro Q E p s _ h; exact h
  | thread k ih => intro Q E p s hn h; exact ih _ Q E p s hn h
  | await _ _ _ _ _ => intro Q E p s _ h; exact h
theorem wpAny_gens {α : Type} {M : Model} {A : Around} {s : Shared} {t : Sem α} {Q : α → Shared → Prop} {E : Value → Shared → Prop} {n : Nat} (hn : n ≤ s.gens.size)
    (h : wpAny M A t (fun a s' => n ≤ s'.gens.size → Q a s') (fun e s' => n ≤ s'.gens.size → E e s') s) : wpAny M A t Q E s :=
  wpAny_mono (Q := fun a s' => n ≤ s'.gens.size ∧ (n ≤ s'.gens.size → Q a s')) (E := fun e s' => n ≤ s'.gens.size ∧ (n ≤ s'.gens.size → E e s'))
    (fun Γ p hΓ => wp_gens M Γ n t _ _ p s hn (h Γ p hΓ)) (fun _ _ x => x.2 x.1) (fun _ _ x => x.2 x.1)

/-! ### a code object's table, which grows -/
def Tbl (P : Addr) : Heap → Prop := fun h => ∃ ps : Array Value, h.get? P = some { cls := .none, data := .fields ps } ∧ TriplesOk ps.toList
theorem tbl_ok {P' : Program} {w : World} {H : Hp} {h : Heap} {P : Addr} (t : Tbl P h) : ObjOk P' w H h P (.ext (Tbl P)) := by
  obtain ⟨ps, e, tr⟩ := t
  exact ⟨⟨ps, e, tr⟩, ⟨_, e⟩, fun h1 h2 ⟨ps, e, tr⟩ k => ⟨ps, k _ e, tr⟩⟩
/-- the code object of a def, by the fragment -/
structure CodeK (K : PySem.W.Frag) (cdv : Value) (c P : Addr) : Prop where
  eq : cdv = .ref c
  lk : ∃ o vs file tf flags tg inF text tt, K.lookup c = some o ∧ o.cls = .type "code" ∧ o.data = .fields vs ∧ vs.getD 11 .none = .ref P ∧ vs[11]? = some (.ref P) ∧ vs.getD 18 .none = .str file tf ∧ vs.getD 7 .none = .int flags tg ∧ vs.getD 9 .none = .bool inF ∧ vs.getD 10 .none = .int text tt
  ne : c ≠ P
theorem CodeK.at_ {K : PySem.W.Frag} {cdv : Value} {c P : Addr} {h : Heap} {ps : Array Value} (x : CodeK K cdv c P) (X : K.In h) (e : h.get? P = some { cls := .none, data := .fields ps }) (tr : TriplesOk ps.toList) : h.IsCode c P ps ∧ h.TableAt c P ps := by
  obtain ⟨o, vs, file, tf, flags, tg, inF, text, tt, h1, h2, h3, h4, h4', h5, h6, h7, h8⟩ := x.lk
  exact ⟨⟨o, vs, file, tf, flags, tg, inF, text, tt, _, X _ _ h1, h3, h4, h5, h6, h7, h8, e, rfl, tr, x.ne⟩, ⟨o, vs, X _ _ h1, h2, h3, h4'⟩, e⟩
theorem upd_id {H : Hp} {a : Addr} {o : HO} (h : H a = some o) : upd H a o = H := by
  funext b
  by_cases e : b = a
  · subst e; rw [upd_same, h]
  · rw [upd_ne e]
section
variable {X : Cx} {pins : List (Addr × Obj)} {σ : St} {H : Hp} {s : Shared}
theorem Inv.regen (I : Inv X pins σ H s) {g : Array GenState} (hg : AllBare g) : Inv X pins σ H { s with gens := g } :=
  ⟨I.ok, I.os, hg, I.base, I.loc, I.cell, I.free, I.freeC, I.pin, I.hok, I.len⟩
theorem gencode_ok {c P : Addr} {pos : Pos} {qual : Str} {scope : Scope} {Q : Value → Shared → Prop} {E : Value → Shared → Prop} {A : Around} (I : Inv X pins σ H s) (ck : CodeK X.K X.env.code c P) (hP : H P = some (.ext (Tbl P)))
    (k : ∀ code h' tk, Inv X pins σ H { s with heap := h', toks := tk } → (∀ b o, b ≠ P → s.heap.get? b = some o → h'.get? b = some o) → Q code { s with heap := h', toks := tk }) : wpAny (model X.prog X.w) A (genexprCode X.env pos qual scope) Q E s := by
  obtain ⟨⟨ps, e, tr⟩, _, _⟩ := (show ObjOk X.prog X.w H s.heap P (.ext (Tbl P)) from I.hok P _ hP)
  obtain ⟨ic, ta⟩ := ck.at_ I.kIn e tr
  cases hf : codeAmong pos ps.toList with
  | some c' =>
    refine wpAny_genexprCode_hit ck.eq ic hf ?_
    exact k c' s.heap s.toks I (fun _ _ _ e => e)
  | none =>
    refine wpAny_genexprCodeX ck.eq ic ta hf fun c' h' tk x1 x2 x3 x4 x5 x6 x7 => ?_
    refine k (.ref c') h' tk ?_ (fun b o hb e => x1 b o hb e)
    have tb : Tbl P h' := ⟨_, x6.2, by obtain ⟨_, _, _, _, _, _, _, _, _, op, _, _, _, _, _, _, _, _, _, tr', _⟩ := x4; exact tr'⟩
    have := I.write (x := P) (e := P) (o := .ext (Tbl P)) (t' := tk) (by rw [hP]; trivial) (.inl rfl) (fun b u hb q => x1 b u hb q) ⟨_, x6.2⟩ (tbl_ok tb)
    rw [upd_id hP] at this
    exact this
end
/-! ### the block of a generator expression -/
abbrev Cx.gen (X : Cx) (A' : Around) (s : Shared) (H : Hp) (cenv : Env) (fp : List Addr) : Cx :=
  { X with A := A', s_0 := s, H_0 := H, env := cenv, outer := X.stack, stack := cenv :: X.stack, ex := fp, fn := fun _ => false, calm := true, pn := [], xe := fun _ _ => False }
section
variable {X : Cx} {pins : List (Addr × Obj)} {σ : St} {H : Hp} {s : Shared}
theorem gen_start {scope : Scope} {own : List (Str × Nat)} {fp : List Addr} {A' : Around} {code it : Value} {h' : Heap} {gs : GenState} {tk : Nat} {og : Obj} (I : Inv X pins σ H s) (ok : BlkOk X.N X.env.scope scope own) (hN : X.N.Nodup) (hcell : ∀ y ∈ scope.names, y.2 ≠ .cell)
    (hfp : ∀ b ∈ fp, FpOk X pins H b ∧ b < s.heap.objs.size) (hA1 : A'.frames = some (genEnv scope (cloFrom X.env.cells scope.names []) s.heap.objs.size code builtinsNs X.env :: X.stack)) (hA2 : A'.handled = none)
    (hns : h'.Ns s.heap.objs.size (fun y => if y = ".0" then some it else none)) (hk : ∀ b o, s.heap.get? b = some o → h'.get? b = some o) (hz : h'.objs.size = s.heap.objs.size + 1) (hog : og.isFreed = false) (hoc : ∀ v, og.data ≠ .cell v) (hb : gs.bare = true) :
    Inv (X.gen A' s H (genEnv scope (cloFrom X.env.cells scope.names []) s.heap.objs.size code builtinsNs X.env) fp) [(h'.objs.size, og)] (wipe σ (own.map (·.2))) H { s with gens := s.gens.push gs, toks := tk, heap := h'.push og } := by
  have hfree : ∀ y ∈ scope.names, y.2 = .free → ∃ c, X.env.cells.lookup y.1 = some c := fun y hy e => by
    rcases ok.free y hy e with k | k
    · exact I.ok.has _ (.inl k)
    · exact I.ok.has _ (.inr k)
  generalize hcenv : genEnv scope (cloFrom X.env.cells scope.names []) s.heap.objs.size code builtinsNs X.env = cenv at hA1 ⊢
  have kp : ∀ b o, s.heap.get? b = some o → (h'.push og).get? b = some o := fun b o e => Heap.get?_push_of_some _ (hk b o e)
  have hL : cenv.locals = s.heap.objs.size := by rw [← hcenv]; rfl
  have hcl : cenv.cells = cloFrom X.env.cells scope.names [] := by rw [← hcenv]; rfl
  have hsc : cenv.scope = scope := by rw [← hcenv]; rfl
  have cm : ∀ {y c}, (y, c) ∈ cloFrom X.env.cells scope.names [] → X.env.cells.lookup y = some c ∧ c < s.heap.objs.size := fun {y c} hm => by
    rcases cloFrom_mem hm with hm | ⟨h1, rfl⟩
    · cases hm
    · obtain ⟨c, hc⟩ := hfree _ h1 rfl
      rw [hc]
      obtain ⟨w, z⟩ := I.cell _ _ hc
      exact ⟨rfl, z.lt⟩
  have mem : ∀ {y c}, cenv.cells.lookup y = some c → X.env.cells.lookup y = some c ∧ c < s.heap.objs.size := fun {y c} e => by
    rw [hcl] at e
    exact cm (PySem.mem_of_lookup e)
  have look : ∀ {y}, scope.names.lookup y = some .free → ∃ c, cenv.cells.lookup y = some c ∧ X.env.cells.lookup y = some c := fun {y} hl => by
    have hy : (y, NameKind.free) ∈ scope.names := PySem.mem_of_lookup hl
    obtain ⟨c', e'⟩ := mem_lookup (cloFrom_has (cells := X.env.cells) (acc := []) hy)
    rw [← hcl] at e'
    exact ⟨c', e', (mem e').1⟩
  have key : ∀ y k, cenv.kindOf y = some k → scope.names.lookup y = some k := fun y k hk => by
    unfold Env.kindOf at hk
    rw [hsc] at hk
    exact hk
  have okG : (X.gen A' s H cenv fp).Ok := by
    refine ⟨I.ok.mod, by show cenv.scope.kind = _; rw [hsc]; exact ok.kind, by show cenv.globals = _; rw [← hcenv]; exact I.ok.glob, by show cenv.builtins = _; rw [← hcenv]; rfl, by show s.heap.objs.size ≤ cenv.locals; rw [hL]; exact Nat.le_refl _,
      fun y z c e1 e2 => I.ok.inj y z c (mem e1).1 (mem e2).1, fun y hy => ?_, fun y c z e => absurd (show false = true from z) (by decide), fun _ => hA2, hA1, .inr ⟨rfl, ?_⟩, fun b hb => ⟨?_, fun y c e z => ?_⟩, I.bs, Nat.le_trans I.ok.bsz I.sz, fun b o e hb => ?_, fun b hb z => ?_, I.stack, I.stkFree⟩
    · rcases hy with hy | hy
      · exact absurd rfl (hcell _ (PySem.mem_of_lookup (key _ _ hy)))
      · obtain ⟨c, h1, _⟩ := look (key _ _ hy)
        exact ⟨c, h1⟩
    · show cenv.frame = some cenv.locals
      rw [← hcenv]
      rfl
    · show b ≠ cenv.locals
      rw [hL]; exact Nat.ne_of_lt (hfp b hb).2
    · exact (hfp b hb).1.2.2.2.2.1 y c (mem e).1 z
    · rcases (hfp b hb).1.2.2.2.1 with z | z
      · exact I.ok.noex b o e z
      · exact absurd (Nat.lt_of_lt_of_le (Heap.lt_size e) (Nat.le_trans I.ok.bsz z)) (Nat.lt_irrefl _)
    · rcases List.mem_cons.mp (I.stkSub b z) with z | z
      · exact (hfp b hb).1.2.1 z
      · exact (hfp b hb).1.2.2.1 z
  refine ⟨okG, rfl, I.bare.push hb, Un.kept kp, ⟨fun y => if y = ".0" then some it else none, ?_, fun i y av e1 e2 e3 => ?_⟩, fun y c e => ?_, ?_, fun y c e => ?_, fun p hp => ?_, I.hok.kept kp, by rw [wipe_length]; exact I.len⟩
  · show Heap.Ns _ cenv.locals _
    rw [hL]
    exact hns.push og
  · obtain ⟨e2, hne⟩ := wipe_some e2
    have e3 : Vis cenv.scope y := e3
    rw [hsc] at e3
    have hfr : scope.names.lookup y = some .free := by
      rcases e3 with e3 | e3 | e3
      · exfalso
        rcases ok.own _ (PySem.mem_of_lookup e3) (.inl rfl) with e' | e'
        · obtain ⟨p, hp, hpy⟩ := List.mem_map.mp e'
          have e4 := ok.ix p hp
          have : p.1 = y := hpy
          rw [this] at e4
          exact hne (List.mem_map.mpr ⟨p, hp, nodup_ix hN e4 e1⟩)
        · exact e' (List.mem_of_getElem? e1)
      · exact absurd rfl (hcell _ (PySem.mem_of_lookup e3))
      · exact e3
    obtain ⟨m, hn, hl⟩ := I.loc
    have hvis : Vis X.env.scope y := (ok.free _ (PySem.mem_of_lookup hfr) rfl).elim (fun k => .inr (.inl k)) (fun k => .inr (.inr k))
    obtain ⟨w, r, q⟩ := hl i y av e1 e2 hvis
    have kf : cenv.kindOf y = some .free := by unfold Env.kindOf; rw [hsc]; exact hfr
    refine ⟨w, r, .inr ⟨.inr kf, ?_⟩⟩
    obtain ⟨c, h1, h2⟩ := look hfr
    rcases q with ⟨k, _⟩ | ⟨_, c', e', z⟩
    · have k : X.env.scope.names.lookup y = some .local := k
      rcases ok.free _ (PySem.mem_of_lookup hfr) rfl with k' | k' <;> rw [show X.env.scope.names.lookup y = _ from k'] at k <;> cases k
    · rw [h2] at e'; cases e'
      exact ⟨c, h1, z.keeps kp⟩
  · obtain ⟨w, z⟩ := I.cell y c (mem e).1
    exact ⟨w, z.keeps kp⟩
  · show H cenv.locals = none
    rw [hL]; exact I.hok.fresh (Nat.le_refl _)
  · exact I.freeC y c (mem e).1
  · have e : p = (h'.objs.size, og) := by simpa using hp
    subst e
    refine ⟨Heap.get?_push_size _ hog, I.hok.fresh (by rw [hz]; exact Nat.le_succ _), ?_, fun z => ?_, hoc⟩
    · show h'.objs.size ≠ cenv.locals
      rw [hz, hL]
      exact Nat.succ_ne_self _
    · obtain ⟨_, o2, h2, _⟩ := I.stack.mem (show h'.objs.size ∈ frs X.stack from z)
      have := Heap.lt_size h2
      rw [hz] at this
      exact absurd this (Nat.not_lt.mpr (Nat.le_succ _))
end
end L2
end
section
set_option Elab.async false
set_option linter.all false
set_option maxRecDepth 100000
namespace L2
open PySem PySem.Spec PyProof.Rows
/-! ### the loop of a generator expression that all, any pull -/
def GInv (Y : Cx) (fp : List Addr) (tn : Nat → Heap → Prop) (pins : List (Addr × Obj)) (σw : St) (W : Nat → Nat → Hp → Prop) (i m : Nat) (s : Shared) : Prop :=
  ∃ H', Inv Y pins σw H' s ∧ tn i s.heap ∧ (∀ b ∈ fp, H' b = none) ∧ W i m H'
theorem Inv.asHeap {X : Cx} {pins : List (Addr × Obj)} {σ : St} {H : Hp} {s s' : Shared} (I : Inv X pins σ H s) (h1 : s'.heap = s.heap) (h2 : s'.os = s.os) (h3 : AllBare s'.gens) : Inv X pins σ H s' := by
  obtain ⟨h, g, d, t, o⟩ := s'
  dsimp only at h1 h2 h3
  subst h1; subst h2
  exact ⟨I.ok, I.os, h3, I.base, I.loc, I.cell, I.free, I.freeC, I.pin, I.hok, I.len⟩
theorem GInv.asHeap {Y : Cx} {fp : List Addr} {tn : Nat → Heap → Prop} {pins : List (Addr × Obj)} {σw : St} {W : Nat → Nat → Hp → Prop} {i m : Nat} {s s' : Shared} (x : GInv Y fp tn pins σw W i m s) (h1 : s'.heap = s.heap) (h2 : s'.os = s.os) (h3 : AllBare s'.gens) : GInv Y fp tn pins σw W i m s' := by
  obtain ⟨H', a, b, c, d⟩ := x
  exact ⟨H', a.asHeap h1 h2 h3, by rw [h1]; exact b, c, d⟩
section
variable {Y : Cx} {A : Around} {tg iter elt : Expr} {ifs : List Expr} {scope : Scope} {pos : Pos} {it : Addr} {J : It} {fp : List Addr} {tn : Nat → Heap → Prop} {g : TG} {tt : TT} {te : TE} {vs : List Nat} {σ : St}
  {pins : List (Addr × Obj)} {W : Nat → Nat → Hp → Prop} {stop : Bool} {QS QE : Hp → Prop} {sel : Bool → Hp → (Hp → Prop) → Prop}
theorem gen_begin (hYA : Y.A = A.over (.compLoop (.GeneratorExp elt [⟨tg, iter, ifs, 0⟩] scope pos) 0 (.ref it) .none Y.env) []) (T : Turn Y.prog Y.w Y.K tg J fp it tn) {n i m : Nat} {s₀ s : Shared} (hst : tn i s.heap) {R : GenEnd} {Z : Protocol}
    (loop : Seg (model Y.prog Y.w) A R Z n s₀ (.compLoop (.GeneratorExp elt [⟨tg, iter, ifs, 0⟩] scope pos) 0 (.ref it) .none Y.env) ((model Y.prog Y.w).den (.compLoop (.GeneratorExp elt [⟨tg, iter, ifs, 0⟩] scope pos) 0 (.ref it) .none Y.env)) [] s) :
    Seg (model Y.prog Y.w) A R Z n s₀ (.compStart (.GeneratorExp elt [⟨tg, iter, ifs, 0⟩] scope pos) 0 (.ref it) .none Y.env) ((model Y.prog Y.w).den (.compStart (.GeneratorExp elt [⟨tg, iter, ifs, 0⟩] scope pos) 0 (.ref it) .none Y.env)) [] s := by
  show Seg _ A _ _ _ s₀ _ ((compStart (.GeneratorExp elt [⟨tg, iter, ifs, 0⟩] scope pos) 0 (.ref it) .none Y.env).onRaise (leaving Y.env)) [] s
  unfold compStart
  rw [Sem.onRaise_eq_wrap]
  show Seg _ A _ _ _ s₀ _ ((ask >>= _).wrap _ _ _ _) [] s
  refine seg_bind_wrap (wpAny_askSetting ?_)
  split
  · exact seg_again rfl loop
  · first
      | exact seg_bind_wrap (wpAny_rule (seg_bind_wrap (wpAny_standAt (seg_bind_wrap (T.self _ i s _ _ hst (seg_again rfl loop))))))
      | (refine seg_bind_wrap (wpAny_rule ?_); show Seg _ A _ _ _ s₀ _ ((standAt iter.pos >>= _).wrap _ _ _ _) [] s; exact seg_bind_wrap (wpAny_standAt (seg_bind_wrap (T.self _ i s _ _ hst (seg_again rfl loop)))))
end
/-! ### one pull -/
theorem mem_setGen {s : Shared} {g : Nat} {x : GenState} (h : AllBare s.gens) (hx : x.bare = true) : AllBare (s.setGen g x).gens := by
  intro y hy
  have hy : y ∈ s.gens.setIfInBounds g x := hy
  obtain ⟨j, hj, e⟩ := Array.mem_iff_getElem.mp hy
  have hj' : j < s.gens.size := by simpa using hj
  rw [Array.getElem_setIfInBounds (by exact hj')] at e
  split at e
  · rw [← e]; exact hx
  · rw [← e]; exact h _ (Array.getElem_mem _)
section
variable {Y : Cx} {A : Around} {fp : List Addr} {tn : Nat → Heap → Prop} {pins : List (Addr × Obj)} {σw : St} {W : Nat → Nat → Hp → Prop} {stop : Bool} {QS QE : Hp → Prop} {a : Addr} {g n : Nat} {s : Shared}
end
end L2
end
section
set_option Elab.async false
set_option linter.all false
set_option maxRecDepth 100000
namespace L2
open PySem PySem.Spec PyProof.Rows
theorem bt_all : bootBuiltins "all" = some (.builtin "all") := by decide +kernel
section
variable {Y : Cx} {A : Around} {fp : List Addr} {tn : Nat → Heap → Prop} {pins : List (Addr × Obj)} {σw : St} {W : Nat → Nat → Hp → Prop} {QS QE : Hp → Prop} {a : Addr} {g : Nat} {R : Result → Shared → Prop}
variable {E : Value → Shared → Prop} {Q : Value → Shared → Prop} {n : Nat} {s : Shared}
end

/-! ### all(.. for ..), any(.. for ..) -/
theorem Room.gen {k : Nat} {A : Around} {c : Code} (r : Room (k + 1) A) (hw : c.weight = 1) (hu : c.cUnits = 3) : Room k (A.in1.in1.over c []) :=
  ⟨r.hd, by
    have := r.dp
    show A.depth + 0 + c.weight + 3 * k + 5 < _
    omega, by
    have := r.un
    show A.units + 1 + 1 + 0 + c.cUnits + 16 * k + 200 < _
    omega⟩
def tGen (stop : Bool) (P : Addr) (wi : TI) (g : TG) (tt : TT) (te : TE) (vs : List Nat) (sel : VK → Bool → Hp → (Hp → Prop) → Prop) : TE := fun σ H Q => wi σ H fun J H1 => H1 P = some (.ext (Tbl P)) ∧ ∃ W : Nat → Nat → Hp → Prop, (∃ m, W 0 m H1) ∧ ∀ i m H, W i m H →
  (J.stop i H ∧ Q (.bl (!stop)) H) ∨ (J.go i H ∧ ∃ Nx : Hp → Prop, (∀ H', Nx H' → ∃ m', m' < m ∧ W (i + 1) m' H') ∧ ∀ x H', J.yld i H x H' → g x (wipe σ vs) H' fun σ2 H2 => wipe σ2 vs = wipe σ vs ∧ tt σ2 H2 fun b H3 =>
    if b = true then te σ2 H3 fun y H4 => ∃ c, y = .bl c ∧ sel Q c H4 Nx else Nx H3)
section
variable {X : Cx}
end
end L2
end
section
set_option Elab.async false
set_option linter.all false
set_option maxRecDepth 100000
namespace L2
open PySem PySem.Spec PyProof.Rows
/-! ### the head, where tables are tracked -/
def Tbs (T : List Addr) (H : Hp) : Prop := ∀ P ∈ T, H P = some (.ext (Tbl P))
theorem Tbs.mono {T : List Addr} {H H' : Hp} (s : Same H H') (h : Tbs T H) : Tbs T H' := fun P hP => s _ _ (h P hP)
theorem Tbs.kp {T : List Addr} {r : Addr} {xs : List V} {H H' : Hp} (hr : H r = some (.lst xs)) (k : Kp r H H') (h : Tbs T H) : Tbs T H' := fun P hP => k _ _ (h P hP) (ne_of (h P hP) hr (by intro z; cases z))
theorem Tbs.upd {T : List Addr} {r : Addr} {xs : List V} {o : HO} {H : Hp} (hr : H r = some (.lst xs)) (h : Tbs T H) : Tbs T (upd H r o) := h.kp hr kp_upd
/-- what is true of the tables behind the top -/
structure TabsAt (K : PySem.W.Frag) (T : List Addr) (h : Heap) : Prop where
  get : ∀ P ∈ T, h.get? P = some { cls := .none, data := .fields #[] } ∧ isCodeTable h P
  out : ∀ P ∈ T, K.lookup P = none
theorem law_callT {P : Program} {w : World} {K : PySem.W.Frag} {mg mb : Str → Option Value} {CX : CXT} {k : Nat} {fa a : Addr} {fd : FuncData} {x : Str} {sp : Sp} {s₁ : Shared} {vs : List Value} {ns : List Int} {T : List Addr}
    (KX : K.In s₁.heap) (hns : s₁.heap.Ns mainGlobals mg) (hb : s₁.heap.Ns builtinsNs mb) (hbb : ∀ x : Str, x ≠ "__name__" → mb x = bootBuiltins x) (hlim : s₁.heap.NoLimit) (hg : s₁.gens = #[])
    (ha : s₁.heap.get? a = some { cls := .type "list", data := .seq vs.toArray }) (hi : IntsAre vs ns) (hl : ns.length ≤ sizeLine) (hr : Room k callerA) (tb : TabsAt K T s₁.heap) (hbm : ∃ bm ob, BMod s₁.heap mainGlobals mg bm ob)
    (F : ∀ base : Heap, K.In base → base.Ns mainGlobals mg → (∃ bm ob, BMod base mainGlobals mg bm ob) → FnOk P w K mg base CX k fa fd [x] sp) (hbind : ∀ (s : Shared) (u : Value), BindsTo s fd ⟨[u], []⟩ [(x, u)])
    (hsp : ∀ H : Hp, Tbs T H → SqL K H a (ns.map V.int) → sp [.ref a] H (fun v H' => v = .bl true ∧ Tbs T H') fun _ _ _ => False)
    (hCX : ∀ H e s', CX [] H s₁ (fun _ _ _ => False) e s' → False) :
    codeAny (model P w) callerA (.call (.ref fa) ⟨[.ref a], []⟩) (fun r s' => r = .ok (.ret (.bool true)) ∧ OldK s₁.heap s'.heap ∧ s'.os = s₁.os ∧ AllBare s'.gens) s₁ := by
  have rv := vals_ints hi
  have lenV := hi.length
  have naT : a ∉ T := fun z => by
    have h1 := (tb.get a z).1
    rw [ha] at h1
    cases h1
  -- from an abstract heap in which the script and the tables are tracked
  have core : ∀ H : Hp, (∀ b, b ∈ T → H b = some (.ext (Tbl b))) → (∀ b, b ∉ T → H b = none ∨ (b = a ∧ ∃ o xs, H b = some (.frz o (.lst xs)))) → SqL K H a (ns.map V.int) → HOk P w H s₁.heap → (H a ≠ none → K.lookup a = none) →
      codeAny (model P w) callerA (.call (.ref fa) ⟨[.ref a], []⟩) (fun r s' => r = .ok (.ret (.bool true)) ∧ OldK s₁.heap s'.heap ∧ s'.os = s₁.os ∧ AllBare s'.gens) s₁ := by
    intro H hT hO hS hok hK
    have base_of : ∀ {b : Addr} {o : Obj}, s₁.heap.get? b = some o → H b = none → (hidT s₁.heap H).get? b = some o := fun e n => hidT_get e n
    have free_of : ∀ {b : Addr} {o : Obj}, s₁.heap.get? b = some o → o ≠ { cls := .none, data := .fields #[] } → o ≠ { cls := .type "list", data := .seq vs.toArray } → H b = none := fun {b o} e n1 n2 => by
      by_cases hbT : b ∈ T
      · have := (tb.get b hbT).1
        rw [e] at this
        exact absurd (Option.some.inj this) n1
      · rcases hO b hbT with z | ⟨rfl, _⟩
        · exact z
        · rw [ha] at e
          exact absurd (Option.some.inj e).symm n2
    have noA : ∀ {b : Addr} {o : Obj} {es : Array DictEntry} {ep : Nat}, s₁.heap.get? b = some o → o.data = .dict es ep → H b = none := fun {b o es ep} e d =>
      free_of e (fun z => by rw [z] at d; cases d) (fun z => by rw [z] at d; cases d)
    have nsK : ∀ {b : Addr} {m : Str → Option Value}, s₁.heap.Ns b m → (hidT s₁.heap H).Ns b m := fun {b m} ⟨o, es, ep, e, d, r⟩ => ⟨o, es, ep, base_of e (noA e d), d, r⟩
    have hKb : K.In (hidT s₁.heap H) := fun b o e => base_of (KX b o e) (by
      by_cases hbT : b ∈ T
      · rw [tb.out b hbT] at e; cases e
      · rcases hO b hbT with z | ⟨rfl, o', xs, z⟩
        · exact z
        · rw [hK (by rw [z]; simp)] at e; cases e)
    have hbm' : ∃ bm ob, BMod (hidT s₁.heap H) mainGlobals mg bm ob := by
      obtain ⟨bm, ob, B⟩ := hbm
      refine ⟨bm, ob, nsK B.ns, B.name, B.ne, base_of B.obj (free_of B.obj (fun z => ?_) (fun z => ?_)), B.cls, B.dict, B.data⟩
      · have := B.cls; rw [z] at this; cases this
      · have := B.cls
        rw [z] at this
        injection this with this
        exact absurd this (by decide)
    have hM : Mod K mg (hidT s₁.heap H) := ⟨hKb, nsK hns, ⟨mb, nsK hb, hbb⟩, let ⟨mc, h1, h2⟩ := hlim; ⟨mc, nsK h1, h2⟩⟩
    have e0 : Env0 P w K mg (hidT s₁.heap H) callerA [] s₁ H := ⟨rfl, hM, fun b o e => of_hidT e, Nat.le_of_eq (hidT_size _ _), trivial, fun b hb => absurd (show b ∈ ([] : List Addr) from hb) (by simp), hok, .of_eq hg⟩
    refine codeAny_mono ((F _ hKb (nsK hns) hbm').run callerA [] s₁ H ⟨[.ref a], []⟩ [.ref a] [.ref a] _ _ hr e0 (hbind s₁ (.ref a)) (.cons rfl .nil) (hsp H hT hS)) fun r s' h => ?_
    cases r with
    | error e => exact (hCX H e s' h).elim
    | ok fl =>
      cases fl with
      | next => exact False.elim h
      | brk => exact False.elim h
      | cont => exact False.elim h
      | ret u =>
        obtain ⟨v, H', os, bare, un, hok', r', q, hT'⟩ := h
        have q' : v = .bl true := q
        subst q'
        obtain rfl : u = Value.bool true := r'
        have tabs : ∀ b ∈ T, ∃ ps : Array Value, s'.heap.get? b = some { cls := .none, data := .fields ps } := fun b hbT => by
          obtain ⟨⟨ps, e, _⟩, _, _⟩ := (show ObjOk P w H' s'.heap b (.ext (Tbl b)) from hok' b _ (hT' b hbT))
          exact ⟨ps, e⟩
        have keep : ∀ b o, s₁.heap.get? b = some o → b ∉ T → s'.heap.get? b = some o := fun b o e hbT => by
          rcases hO b hbT with z | ⟨rfl, ob, xs, z⟩
          · exact un.keep b o e z (by intro z; exact absurd (show b ∈ ([] : List Addr) from z) (by simp)) (by simp)
          · have z2 := un.frzs b ob _ z
            obtain ⟨e1, _⟩ := hok b _ z
            obtain ⟨e2, _⟩ := hok' b _ z2
            rw [e] at e1; cases e1
            exact e2
        refine ⟨rfl, ⟨fun b o e => ?_, fun b o e => ?_⟩, os, bare⟩
        · by_cases hbT : b ∈ T
          · obtain ⟨ps, e2⟩ := tabs b hbT
            have e1 := (tb.get b hbT).1
            rw [e] at e1
            cases e1
            exact .inr (.inl ⟨(tb.get b hbT).2, rfl, #[], ps, rfl, by simpa using e2⟩)
          · exact .inl (keep b o e hbT)
        · by_cases hbT : b ∈ T
          · obtain ⟨ps, e2⟩ := tabs b hbT
            exact ⟨_, e2⟩
          · exact ⟨o, keep b o e hbT⟩
  have tOk : ∀ (H : Hp) (b : Addr), b ∈ T → ObjOk P w H s₁.heap b (.ext (Tbl b)) := fun H b hbT => tbl_ok ⟨#[], (tb.get b hbT).1, trivial⟩
  cases hk : K.lookup a with
  | some o =>
    have e := KX a o hk
    rw [ha] at e
    cases e
    refine core (fun b => if b ∈ T then some (.ext (Tbl b)) else none) (fun b hbT => if_pos hbT) (fun b hbT => .inl (if_neg hbT)) (.inr ⟨_, vs.toArray, _, hk, rfl, rfl, rfl, by rw [List.size_toArray, lenV]; exact hl, by simpa using rv⟩) (fun b u z => ?_) fun z => absurd (if_neg naT) z
    by_cases hbT : b ∈ T
    · have z' := (if_pos hbT).symm.trans z
      cases z'
      exact tOk _ b hbT
    · have z' := (if_neg hbT).symm.trans z
      cases z'
  | none =>
    refine core (fun b => if b ∈ T then some (.ext (Tbl b)) else if b = a then some (.frz { cls := .type "list", data := .seq vs.toArray } (.lst (ns.map V.int))) else none) (fun b hbT => if_pos hbT) (fun b hbT => ?_) (.inl (.inr ⟨{ cls := .type "list", data := .seq vs.toArray }, (if_neg naT).trans (if_pos rfl)⟩)) (fun b u z => ?_) fun _ => hk
    · by_cases hb' : b = a
      · exact .inr ⟨hb', _, _, (if_neg hbT).trans (if_pos hb')⟩
      · exact .inl ((if_neg hbT).trans (if_neg hb'))
    · by_cases hbT : b ∈ T
      · have z' := (if_pos hbT).symm.trans z
        cases z'
        exact tOk _ b hbT
      · have z := (if_neg hbT).symm.trans z
        by_cases hb' : b = a
        · have z' := (if_pos hb').symm.trans z
          cases z'
          subst hb'
          exact ⟨ha, by rw [List.length_map]; exact hl, vs, _, rv, ha⟩
        · have z' := (if_neg hb').symm.trans z
          cases z'
theorem tab_of {q : Program} {loose : List Str} {mean : ExcName → Option Value} {mg mb : Str → Option Value} {h : Heap} {K : PySem.W.Frag} {name : Str} {d : DefRec} {f c P : Addr} {oc : Value} {od odc : Option Addr} {fd : FuncData} {sl slc : Array (Option Value)} {vs : Array Value}
    (T : Top q loose mean mg mb h) (X : K.In h) (hf : (recsOf q).find? (fun e => e.name == name) = some d) (hm : PySem.W.nsIn K mainGlobals name = some (some (.ref f))) (lf : K.lookup f = some ⟨oc, od, .func fd, sl⟩) (hc : fd.code = .ref c) (lc : K.lookup c = some ⟨.type "code", odc, .fields vs, slc⟩) (hv : vs[11]? = some (.ref P)) :
    h.get? P = some { cls := .none, data := .fields #[] } ∧ isCodeTable h P := by
  obtain ⟨c', P', e1, B⟩ := PySem.W.based_of_top T hf (PySem.W.mg_of X T.g hm) (X _ _ lf) rfl
  rw [hc] at e1
  cases e1
  obtain ⟨⟨o, vs', h1, h2, h3, h4⟩, h5⟩ := B.tab
  rw [X _ _ lc] at h1
  cases h1
  cases h3
  rw [hv] at h4
  cases h4
  exact ⟨h5, B.tab.isCodeTable⟩
theorem walk_ofT {l : PySem.W.OpenLaw} {n k : Nat} {q : Program} {loose : List Str} {XP : (Str → Option Value) → Heap → Prop} {YP : World → Heap → Prop} {d : DefRec} {K : Params → PySem.W.Frag} {CX : World → CXT} {sp : World → Sp} {x : Str} {T : List Addr}
    (hn : l.most = some n) (hn2 : n ≤ sizeLine) (hdf : d.params.defaults = []) (hr : Room k callerA)
    (hY : ∀ (w : World) (h : Heap), YP w h → (K w.params).In h)
    (hTab : ∀ (w : World) (mg mb : Str → Option Value) (h : Heap) (mean : ExcName → Option Value), Top q (PySem.W.looseW q loose) mean mg mb h → (K w.params).In h → TabsAt (K w.params) T h)
    (F : ∀ (w : World) (mg : Str → Option Value) (fa : Addr) (h : Heap), (K w.params).In h → h.Ns mainGlobals mg → mg d.name = some (.ref fa) →
      ∃ fd : FuncData, (∀ (s : Shared) (u : Value), BindsTo s fd ⟨[u], []⟩ [(x, u)]) ∧
        ∀ base : Heap, (K w.params).In base → base.Ns mainGlobals mg → (∃ bm ob, BMod base mainGlobals mg bm ob) → FnOk l.prog w (K w.params) mg base (CX w) k fa fd [x] (sp w))
    (hsp : ∀ (w : World) (H : Hp) (a : Addr) (ns : List Int), ns.length ≤ n → Tbs T H → SqL (K w.params) H a (ns.map V.int) → sp w [.ref a] H (fun v H' => v = .bl true ∧ Tbs T H') fun _ _ _ => False)
    (hCX : ∀ (w : World) (H : Hp) (s : Shared) (e : Value) (s' : Shared), CX w [] H s (fun _ _ _ => False) e s' → False) :
    PySem.W.WalkO q loose XP YP l.row.toRowW d [] (fun f vs => PySem.call f vs) := by
  refine Att.attach_call hn hdf fun w s₀ s₁ mg mb fa o pm cd doc a vs ns G Y ho hd hcd hmg hobj hints hlen hg => ?_
  have KX := hY w _ Y
  obtain ⟨fd, hb, hF⟩ := F w mg fa _ KX G.T.g hmg
  exact law_callT KX G.T.g G.T.b G.T.builtins G.T.nolimit hg hobj hints (Nat.le_trans hlen hn2) hr (hTab w mg mb _ _ G.T KX) (PySem.W.bmod_of_top G.T) hF hb (fun H hT hS => hsp w H a ns hlen hT hS) fun H e s' => hCX w H s₁ e s'
end L2
end
section
set_option Elab.async false
set_option linter.all false
set_option maxRecDepth 100000
namespace L2
open PySem PySem.Spec PyProof.Rows
/-! ### generators, folded -/
def GnJ (stop : Bool) (J : It) (g : TG) (tt : TT) (te : TE) (vs : List Nat) (sel : VK → Bool → Hp → (Hp → Prop) → Prop) (σ : St) (H1 : Hp) (Q : VK) : Prop := ∃ W : Nat → Nat → Hp → Prop, (∃ m, W 0 m H1) ∧ ∀ i m H, W i m H →
  (J.stop i H ∧ Q (.bl (!stop)) H) ∨ (J.go i H ∧ ∃ Nx : Hp → Prop, (∀ H', Nx H' → ∃ m', m' < m ∧ W (i + 1) m' H') ∧ ∀ x H', J.yld i H x H' → g x (wipe σ vs) H' fun σ2 H2 => wipe σ2 vs = wipe σ vs ∧ tt σ2 H2 fun b H3 =>
    if b = true then te σ2 H3 fun y H4 => ∃ c, y = .bl c ∧ sel Q c H4 Nx else Nx H3)
section
variable {K : PySem.W.Frag} {stop : Bool} {P : Addr} {g : TG} {tt : TT} {te : TE} {vs : List Nat} {sel : VK → Bool → Hp → (Hp → Prop) → Prop} {σ : St} {H : Hp} {Q : VK}
theorem tGen_rng1 {ta : TA} : tGen stop P (iRng1 ta) g tt te vs sel σ H Q = ta σ H fun us H1 => ∃ j : Int, us = [.int j] ∧ -(2 ^ 62) ≤ j ∧ j < 2 ^ 62 ∧ H1 P = some (.ext (Tbl P)) ∧ GnJ stop (Itr 0 j.toNat) g tt te vs sel σ H1 Q := rfl
theorem tGen_rng2 {ta : TA} : tGen stop P (iRng2 ta) g tt te vs sel σ H Q = ta σ H fun us H1 => ∃ i j : Int, us = [.int i, .int j] ∧ (-(2 ^ 62) ≤ i ∧ i < 2 ^ 62 ∧ -(2 ^ 62) ≤ j ∧ j < 2 ^ 62) ∧ H1 P = some (.ext (Tbl P)) ∧ GnJ stop (Itr i (j - i).toNat) g tt te vs sel σ H1 Q := rfl
theorem tGen_list {tl : TE} : tGen stop P (iList K tl) g tt te vs sel σ H Q = tl σ H fun x H1 => ∃ a, x = .ref a ∧ (∃ xs, SqL K H1 a xs) ∧ H1 P = some (.ext (Tbl P)) ∧ GnJ stop (Itl K a) g tt te vs sel σ H1 Q := rfl
theorem tGen_tup {tl : TE} : tGen stop P (iTup K tl) g tt te vs sel σ H Q = tl σ H fun x H1 => ∃ a, x = .ref a ∧ (∃ xs, SqT K H1 a xs) ∧ H1 P = some (.ext (Tbl P)) ∧ GnJ stop (Itt K a) g tt te vs sel σ H1 Q := rfl
end
/-! all, any of what leaves the heap as it is: f tells each item's truth -/
section
variable {K : PySem.W.Frag} {g : TG} {tt : TT} {te : TE} {vs : List Nat} {σ : St} {H : Hp} {Q : VK}
end
/-! ### for and comprehensions over a tuple -/
def ForT (K : PySem.W.Frag) (a : Addr) (g : TG) (tb : TS) (D : Ends) (σ : St) (H : Hp) : Prop := (∃ xs, SqT K H a xs) ∧ ForJ (Itt K a) g tb D σ H
section
variable {K : PySem.W.Frag} {a : Addr} {g : TG} {tb : TS} {D : Ends} {σ : St} {H : Hp}
theorem tFor_tup {tl : TE} : tFor (iTup K tl) g tb D σ H = tl σ H fun x H1 => ∃ a, x = .ref a ∧ ForT K a g tb D σ H1 := rfl
end
section
variable {K : PySem.W.Frag} {g : TG} {tt : TT} {te : TE} {vs : List Nat} {σ : St} {H : Hp} {Q : VK}
theorem tLc_tup {tl : TE} : tLc (iTup K tl) g tt te vs σ H Q = tl σ H fun x H1 => ∃ a, x = .ref a ∧ (∃ xs, SqT K H1 a xs) ∧ ∀ D, H1 D = none → LcJ (Itt K a) g tt te vs D σ H1 (fun H' => Q (.ref D) H') := rfl
theorem lcT {a : Addr} {xs : List V} {D : Addr} {Qd : Hp → Prop} (Pv : Nat → Hp → Prop) (h0 : Pv 0 (upd H D (.lst []))) (hl : ∀ i H, i ≤ xs.length → Pv i H → SqT K H a xs)
    (hs : ∀ i x H, xs[i]? = some x → Pv i H → g x (wipe σ vs) H fun σ2 H2 => wipe σ2 vs = wipe σ vs ∧ tt σ2 H2 fun b H3 =>
      if b = true then te σ2 H3 fun y H4 => ∃ acc, H4 D = some (.lst acc) ∧ acc.length < sizeLine ∧ Pv (i + 1) (upd H4 D (.lst (acc ++ [y]))) else Pv (i + 1) H3) (hd : ∀ H, Pv xs.length H → Qd H) : LcJ (Itt K a) g tt te vs D σ H Qd := lc_tup (K := K) (a := a) (xs := xs) Pv h0 hl hs hd
end
section
variable {X : Cx} {K : PySem.W.Frag}
theorem pi_tupK {tg l : Expr} {tl : TE} (e : X.K = K) (hl : PE X l tl) : PI X tg l (iTup K tl) := e ▸ pi_tup hl
end
/-! ### defs that have generator expressions: the code object is known -/
section
variable {P : Program} {w : World} {K : PySem.W.Frag} {mg : Str → Option Value} {base : Heap} {x qual : Str} {st : Stmt} {f : Addr} {fd : FuncData} {N ps : List Str} {k : Nat} {sp : Sp}
theorem cal_ofG (F : Fun K x qual st f fd) (S : FnScope N ps (defScope st)) (m : mg x = some (.ref f)) (b : Binds K fd ps [])
    (len : ∀ vs H Q E, sp vs H Q E → vs.length = ps.length)
    (hbody : ∀ (A : Around) (outer : List Env) (s : Shared) (H : Hp) (vs : List V) (Q : VK) (E : XK), Room k (A.deeper (envOfC qual (defScope st) s.heap.objs.size f fd.code)) → sp vs H Q E →
      ∃ t, WSs (cxOf CX0 P w K mg base N qual (defScope st) f fd.code A outer s H E).nox (defBody st) t ∧ t { nx := fun _ H' => Q .non H', rt := Q } (start N vs) H) : Cal P w K mg base (k + 1) x ps sp := by
  have F' := F
  obtain ⟨oc, od, kV, doc, pm, an, cdv, ct, osl, rfl, lk, hcd⟩ := F.ex
  exact ⟨f, _, fn_of lk hcd S len (fun A outer s H vs Q E hr hsp => let ⟨t, h1, h2⟩ := hbody A outer s H vs Q E hr hsp; ⟨t, h1.h.nox, h2⟩), m, F'.kp, b⟩
end
/-- tables, one by one -/
theorem tabs_nil {K : PySem.W.Frag} {h : Heap} : TabsAt K [] h := ⟨fun _ z => absurd z (by simp), fun _ z => absurd z (by simp)⟩
theorem tabs_cons {K : PySem.W.Frag} {h : Heap} {P : Addr} {T : List Addr} (h1 : h.get? P = some { cls := .none, data := .fields #[] } ∧ isCodeTable h P) (h2 : K.lookup P = none) (h3 : TabsAt K T h) : TabsAt K (P :: T) h :=
  ⟨fun Q hQ => by
    rcases List.mem_cons.mp hQ with rfl | hQ
    · exact h1
    · exact h3.get Q hQ, fun Q hQ => by
    rcases List.mem_cons.mp hQ with rfl | hQ
    · exact h2
    · exact h3.out Q hQ⟩
theorem codeK_mk {K : PySem.W.Frag} {cdv : Value} {c P : Addr} {odc : Option Addr} {vs : Array Value} {slc : Array (Option Value)} {file : Str} {tf : Tok} {flags : Int} {tg : Tok} {inF : Bool} {text : Int} {tt : Tok} (e : cdv = .ref c) (lk : K.lookup c = some ⟨.type "code", odc, .fields vs, slc⟩)
    (h1 : vs[11]? = some (.ref P)) (h2 : vs.getD 18 .none = .str file tf) (h3 : vs.getD 7 .none = .int flags tg) (h4 : vs.getD 9 .none = .bool inF) (h5 : vs.getD 10 .none = .int text tt) (h6 : c ≠ P) : CodeK K cdv c P :=
  ⟨e, ⟨_, vs, file, tf, flags, tg, inF, text, tt, lk, rfl, rfl, by rw [Array.getD_eq_getD_getElem?, h1]; rfl, h1, h2, h3, h4, h5⟩, h6⟩
end L2
end
section
set_option Elab.async false
set_option linter.all false
set_option maxRecDepth 100000
set_option maxHeartbeats 1000000
namespace My
open PySem L2 PySem.Spec PyProof.Rows
theorem gcd_abs (a b : Int) : (if a < 0 then -a else a).natAbs.gcd (if b < 0 then -b else b).natAbs = a.natAbs.gcd b.natAbs := by
  have e : ∀ c : Int, (if c < 0 then -c else c).natAbs = c.natAbs := fun c => by split <;> omega
  rw [e, e]
theorem gcd_turn {r y : Int} (hr : 0 ≤ r) (hy : 0 < y) : y.natAbs.gcd (r.fmod y).natAbs = r.natAbs.gcd y.natAbs := by
  have e : (r.fmod y).natAbs = r.natAbs % y.natAbs := by
    rw [Int.fmod_eq_emod_of_nonneg _ (by omega)]
    obtain ⟨n, rfl⟩ := Int.eq_ofNat_of_zero_le hr
    obtain ⟨k, rfl⟩ := Int.eq_ofNat_of_zero_le (Int.le_of_lt hy)
    rfl
  rw [e, Nat.gcd_comm r.natAbs, Nat.gcd_rec y.natAbs r.natAbs, Nat.gcd_comm]
theorem gt_mono {i : Nat} {c : Int} (σ : L2.St) (H : Hp) (Q Q' : Bool → Hp → Prop) (h : ∀ b H1, Q b H1 → Q' b H1) (t : tTest (tOp (rI0 fun i j => V.bl (decide (j < i))) (tVar i) (tC (V.int c))) σ H Q) : tTest (tOp (rI0 fun i j => V.bl (decide (j < i))) (tVar i) (tC (V.int c))) σ H Q' := by
  obtain ⟨v, e, a, b, e1, e2, k, e3, q⟩ := t
  exact ⟨v, e, a, b, e1, e2, k, e3, h _ _ q⟩
theorem fr_low {a b : Int} {n : Nat} {H : Hp} {p : Addr} (hb : b ≠ 0) (h1 : a.natAbs < 2 ^ n) (h2 : b.natAbs < 2 ^ n) : Fr n (upd H p (.tup [.int (a.fdiv (sg a b)), .int (b.fdiv (sg a b))])) (.ref p) (Rat.divInt a b) := by
  refine ⟨⟨p, rfl, ?_⟩, ?_, Nat.lt_of_le_of_lt (den_le hb) h2⟩
  · rw [upd_same, low_num hb, low_den hb]
  · rw [← low_num hb]
    exact Nat.lt_of_le_of_lt (Int.natAbs_fdiv_le_natAbs _ _) h1
theorem sg_neg {a b : Int} (c : b < 0) : sg a b = -((a.natAbs.gcd b.natAbs : Nat) : Int) := if_pos c
theorem sg_pos {a b : Int} (c : ¬ b < 0) : sg a b = ((a.natAbs.gcd b.natAbs : Nat) : Int) := if_neg c
theorem div_ok {a b i : Int} {n : Nat} (hb : b ≠ 0) (h2 : b.natAbs < 2 ^ n) (hn : n ≤ 8000) : CDivB i (sg a b) :=
  ⟨sg_ne hb, Nat.lt_of_le_of_lt (sg_le hb) (Nat.lt_of_lt_of_le h2 (Nat.pow_le_pow_right (by decide) hn))⟩
theorem add_bd {a b c d : Int} {m n : Nat} (h1 : a.natAbs < 2 ^ m) (h2 : b.natAbs < 2 ^ n) (h3 : c.natAbs < 2 ^ n) (h4 : d.natAbs < 2 ^ m) : (a * b + c * d).natAbs < 2 ^ (m + n + 1) := by
  have e1 : a.natAbs * b.natAbs ≤ 2 ^ m * 2 ^ n := Nat.mul_le_mul (Nat.le_of_lt h1) (Nat.le_of_lt h2)
  have e2 : (c.natAbs + 1) * (d.natAbs + 1) ≤ 2 ^ n * 2 ^ m := Nat.mul_le_mul h3 h4
  have e3 : (a * b + c * d).natAbs ≤ a.natAbs * b.natAbs + c.natAbs * d.natAbs := by
    refine Nat.le_trans (Int.natAbs_add_le _ _) ?_
    rw [Int.natAbs_mul, Int.natAbs_mul]
    exact Nat.le_refl _
  have e4 : (c.natAbs + 1) * (d.natAbs + 1) = c.natAbs * d.natAbs + c.natAbs + d.natAbs + 1 := by
    rw [Nat.add_mul, Nat.mul_add]; omega
  have e5 : 2 ^ n * 2 ^ m = 2 ^ m * 2 ^ n := Nat.mul_comm _ _
  rw [Nat.pow_succ, Nat.pow_add]
  omega
theorem mul_bd {a b : Int} {m n : Nat} (h1 : a.natAbs < 2 ^ m) (h2 : b.natAbs < 2 ^ n) : (a * b).natAbs < 2 ^ (m + n) := by
  rw [Int.natAbs_mul, Nat.pow_add]
  exact Nat.mul_lt_mul'' h1 h2
theorem den_bd {a : Nat} {m : Nat} (h : a < 2 ^ m) : (a : Int).natAbs < 2 ^ m := by rwa [Int.natAbs_natCast]
theorem up_bd {a : Int} {m : Nat} (h : a.natAbs < 2 ^ m) : a.natAbs < 2 ^ (m + 1) := Nat.lt_of_lt_of_le h (Nat.pow_le_pow_right (by decide) (Nat.le_succ _))
theorem sub_bd {a b c d : Int} {m n : Nat} (h1 : a.natAbs < 2 ^ m) (h2 : b.natAbs < 2 ^ n) (h3 : c.natAbs < 2 ^ n) (h4 : d.natAbs < 2 ^ m) : (a * b - c * d).natAbs < 2 ^ (m + n + 1) := by
  have e : a * b - c * d = a * b + (-c) * d := by rw [Int.neg_mul]; omega
  rw [e]
  exact add_bd h1 h2 (by rwa [Int.natAbs_neg]) h4
theorem small_ok {b : Int} {n : Nat} (h0 : 0 ≤ b) (h : b < 2 ^ n) (hn : n ≤ 8000) (h1 : 0 < b) {i : Int} : CDivB i b := by
  refine ⟨by omega, Nat.lt_of_lt_of_le (m := 2 ^ n) ?_ (Nat.pow_le_pow_right (by decide) hn)⟩
  have e : ((2 ^ n : Nat) : Int) = (2 : Int) ^ n := by rw [Int.natCast_pow]; rfl
  omega
theorem bd64 {b : Int} (h0 : -(2 ^ 64) < b) (h : b < 2 ^ 64) : b.natAbs < 2 ^ 64 := by
  have e : (2 : Int) ^ 64 = 18446744073709551616 := by decide
  have e' : (2 : Nat) ^ 64 = 18446744073709551616 := by decide
  rw [e] at h h0
  rw [e']
  omega
theorem row_up {H : Hp} {r : Addr} {c i : Int} {n : Nat} (i0 : 0 ≤ i) (i1 : i ≤ n) : Row (n + 1) (upd H r (.lst [.int c, .int (i + 1)])) r := ⟨c, i + 1, upd_same, by omega, by omega⟩

def tw' (a b c : Rat × Rat) : Rat := (b.1 - a.1) * (c.2 - a.2) - (c.1 - a.1) * (b.2 - a.2)
theorem par {a b s : Rat × Rat} (h : tw' a b s = 0) (hn : a ≠ b) : ∃ t : Rat, s.1 = a.1 + t * (b.1 - a.1) ∧ s.2 = a.2 + t * (b.2 - a.2) := by
  unfold tw' at h
  by_cases h1 : b.1 - a.1 = 0
  · have h2 : b.2 - a.2 ≠ 0 := by
      intro z; apply hn; apply Prod.ext <;> grind
    refine ⟨(s.2 - a.2) / (b.2 - a.2), ?_, ?_⟩
    · have : (s.1 - a.1) * (b.2 - a.2) = 0 := by grind
      rcases Rat.mul_eq_zero.mp this with z | z
      · grind
      · exact absurd z h2
    · rw [Rat.div_mul_cancel h2]; grind
  · refine ⟨(s.1 - a.1) / (b.1 - a.1), ?_, ?_⟩
    · rw [Rat.div_mul_cancel h1]; grind
    · have : (s.1 - a.1) / (b.1 - a.1) * (b.2 - a.2) = s.2 - a.2 := by
        have e : ((s.1 - a.1) / (b.1 - a.1) * (b.2 - a.2)) * (b.1 - a.1) = (s.2 - a.2) * (b.1 - a.1) := by
          have : (s.1 - a.1) / (b.1 - a.1) * (b.1 - a.1) = s.1 - a.1 := Rat.div_mul_cancel h1
          grind
        grind
      grind
theorem num_q (q : Rat) : (q.num : Rat) = q * (q.den : Rat) := by
  have h : (q.den : Rat) ≠ 0 := by have := q.den_nz; intro z; exact this (by exact_mod_cast z)
  have e := Rat.num_divInt_den q
  rw [Rat.divInt_eq_div] at e
  have e2 : (q.num : Rat) / (q.den : Rat) = q := e
  calc (q.num : Rat) = (q.num : Rat) / (q.den : Rat) * (q.den : Rat) := (Rat.div_mul_cancel h).symm
    _ = q * (q.den : Rat) := by rw [e2]
theorem sub_q (x y : Rat) : ((x.num * (y.den : Int) - y.num * (x.den : Int) : Int) : Rat) = (x - y) * (((x.den : Int) * (y.den : Int) : Int) : Rat) := by
  have h1 := num_q x
  have h2 := num_q y
  rw [Rat.intCast_sub, Rat.intCast_mul, Rat.intCast_mul, Rat.intCast_mul, h1, h2]
  have e1 : (((x.den : Int) : Int) : Rat) = (x.den : Rat) := rfl
  have e2 : (((y.den : Int) : Int) : Rat) = (y.den : Rat) := rfl
  rw [e1, e2]
  grind
def frB : PyData → Bool
  | .tuple [.int a, .int b] => decide (1 ≤ b) && decide (a.natAbs.gcd b.natAbs = 1)
  | _ => false
theorem frB_len {ds : List PyData} (h : ds.length ≠ 2) : frB (.tuple ds) = false := by
  match ds, h with
  | [], _ => rfl
  | [d], _ => cases d <;> rfl
  | [a, b], h => exact absurd rfl h
  | a :: b :: c :: ds, _ => cases a <;> cases b <;> rfl
theorem frB_1 {a b : PyData} (h : isWh a = false) : frB (.tuple [a, b]) = false := by
  cases a <;> first | rfl | (cases h)
theorem frB_2 {a b : PyData} (h : isWh b = false) : frB (.tuple [a, b]) = false := by
  cases b <;> first | (cases a <;> rfl) | (cases h)
theorem isWh_eq {a : PyData} (h : isWh a = true) : ∃ i, a = .int i := by
  cases a <;> first | (cases h; done) | exact ⟨_, rfl⟩
theorem frB_dF {q : Rat} : frB (dF q) = true := by
  have h1 := q.den_nz
  have h2 : q.num.natAbs.gcd q.den = 1 := q.reduced
  simp only [frB, dF, Int.natAbs_natCast, h2, decide_true, Bool.and_true, decide_eq_true_eq]
  omega
theorem frB_neg {u v : Int} (c : ¬ 0 < v) : frB (.tuple [.int u, .int v]) = false := by
  simp only [frB]
  rw [decide_eq_false (by omega), Bool.false_and]
theorem frB_low {u v : Int} (c : 0 < v) : frB (.tuple [.int u, .int v]) = PyData.eqv (dF (Rat.divInt u v)) (.tuple [.int u, .int v]) := by
  have hv : v ≠ 0 := by omega
  have e : PyData.eqv (dF (Rat.divInt u v)) (.tuple [.int u, .int v]) = (((Rat.divInt u v).num == u) && (((Rat.divInt u v).den : Int) == v)) := by
    simp [dF, PyData.eqv, PyData.eqvAll]
  have e1 : decide (1 ≤ v) = true := decide_eq_true (by omega)
  rw [e, ← low_num hv, ← low_den hv]
  simp only [frB, e1, Bool.true_and]
  rw [sg_pos (by omega)]
  have hg := gcd_pos (t := u) hv
  by_cases h : u.natAbs.gcd v.natAbs = 1
  · rw [decide_eq_true h]; simp [h]
  · rw [decide_eq_false h]
    symm
    rw [Bool.and_eq_false_iff]
    right
    rw [beq_eq_false_iff_ne]
    intro z
    rw [Int.fdiv_eq_ediv_of_nonneg _ (by omega)] at z
    have : v / ((u.natAbs.gcd v.natAbs : Nat) : Int) < v := Int.ediv_lt_self_of_pos_of_ne_one c (by omega)
    omega
def smN (n : Nat) (d : PyData) : Prop := ∀ a b, d = .tuple [.int a, .int b] → a.natAbs < 2 ^ n ∧ b.natAbs < 2 ^ n
theorem smN_dF {m : Nat} {H : Hp} {v : V} {q : Rat} (h : Fr m H v q) : smN m (dF q) := fun a b e => by
  cases e
  exact ⟨h.nb, by rw [Int.natAbs_natCast]; exact h.db⟩
def tw (a b c : Rat × Rat) : Rat := (b.1 - a.1) * (c.2 - a.2) - (c.1 - a.1) * (b.2 - a.2)
theorem fr_zero {H : Hp} {p : Addr} : Fr 1 (upd H p (.tup [.int 0, .int 1])) (.ref p) 0 := ⟨⟨p, rfl, upd_same⟩, by decide, by decide⟩
def FrL (m : Nat) (H : Hp) (xs : List V) (qs : List Rat) : Prop := xs.length = qs.length ∧ ∀ (i : Nat) x, xs[i]? = some x → ∃ q, qs[i]? = some q ∧ Fr m H x q
theorem FrL.tk {m : Nat} {H H' : Hp} {xs : List V} {qs : List Rat} (t : Tk H H') (h : FrL m H xs qs) : FrL m H' xs qs := ⟨h.1, fun i x e => let ⟨q, e1, e2⟩ := h.2 i x e; ⟨q, e1, e2.tk t⟩⟩
def sumQ (qs : List Rat) : Rat := qs.foldl (· + ·) 0
theorem sumQ_take {qs : List Rat} {i : Nat} {q : Rat} (h : qs[i]? = some q) : sumQ (qs.take (i + 1)) = sumQ (qs.take i) + q := by
  unfold sumQ
  rw [List.take_succ, h, List.foldl_append]
  rfl
def lsN (x y : Rat) : Int := x.num * (y.den : Int) - y.num * (x.den : Int)
def lsD (x y : Rat) : Int := (x.den : Int) * (y.den : Int)
theorem add_bd2 {a b : Int} {m : Nat} (h1 : a.natAbs < 2 ^ m) (h2 : b.natAbs < 2 ^ m) : (a + b).natAbs < 2 ^ (m + 1) := by
  rw [Nat.pow_succ]; omega
theorem lsD_pos (x y : Rat) : 0 < lsD x y := by
  have h1 := x.den_nz
  have h2 := y.den_nz
  exact Int.mul_pos (by omega) (by omega)
theorem Row.le {n m : Nat} {H : Hp} {r : Addr} (l : n ≤ m) (h : Row n H r) : Row m H r := let ⟨c, k, e, l1, l2⟩ := h.ex; ⟨c, k, e, l1, by omega⟩
theorem FrL.nil {m : Nat} {H : Hp} : FrL m H [] [] := ⟨rfl, fun i x e => by cases e⟩
theorem FrL.add {m : Nat} {H : Hp} {xs : List V} {qs : List Rat} {v : V} {q : Rat} (h : FrL m H xs qs) (f : Fr m H v q) : FrL m H (xs ++ [v]) (qs ++ [q]) := ⟨by rw [List.length_append, List.length_append, h.1]; rfl, fun i x e => by
  by_cases c : i < xs.length
  · rw [List.getElem?_append_left c] at e
    rw [List.getElem?_append_left (h.1 ▸ c)]
    exact h.2 i x e
  · rw [List.getElem?_append_right (by omega)] at e
    rw [List.getElem?_append_right (by have := h.1; omega), ← h.1]
    cases z : i - xs.length with
    | zero => rw [z] at e; cases e; exact ⟨q, rfl, f⟩
    | succ n => rw [z] at e; cases e⟩
theorem FrL.dp {K : PySem.W.Frag} {m : Nat} {H : Hp} : ∀ {xs : List V} {qs : List Rat}, FrL m H xs qs → DpAll K H xs (qs.map dF)
  | [], [], _ => .nil
  | [], _ :: _, h => by cases h.1
  | _ :: _, [], h => by cases h.1
  | x :: xs, q :: qs, h => by
    obtain ⟨q', e, f⟩ := h.2 0 x rfl
    cases e
    exact .cons f.dp (FrL.dp ⟨by have := h.1; simpa using this, fun i y e => h.2 (i + 1) y e⟩)
end My
end
section
set_option Elab.async false
set_option linter.all false
set_option maxRecDepth 100000
namespace HT
open PySem PySem.Spec PyProof.Rows
section
variable {prog : Program} {w : World} {A : Around} {E : Value → Shared → Prop} {s : Shared}
end
end HT
namespace L2
open PySem PySem.Spec PyProof.Rows
section
variable {X : Cx}
/-! ### tuples: any slice, any sum -/
/-- x[::-1] -/
def tRev (K : PySem.W.Frag) (te : TE) : TE := fun σ H Q => te σ H fun x H1 => ∃ a xs, x = .ref a ∧ ((SqL K H1 a xs ∧ ∀ p, H1 p = none → Q (.ref p) (upd H1 p (.lst xs.reverse))) ∨ (SqT K H1 a xs ∧ ∀ p, H1 p = none → Q (.ref p) (upd H1 p (.tup xs.reverse))))
end
end L2
end
section
set_option Elab.async false
set_option linter.all false
set_option maxRecDepth 100000
namespace L2
open PySem PySem.Spec PyProof.Rows
/-! ### zip -/
def ForZ (K : PySem.W.Frag) (a b : Addr) (g : TG) (tb : TS) (D : Ends) (σ : St) (H : Hp) : Prop := ForJ (Itz K a b) g tb D σ H
section
variable {K : PySem.W.Frag} {a b : Addr} {g : TG} {tb : TS} {D : Ends} {σ : St} {H : Hp}
theorem tFor_zip {ta : TA} : tFor (iZip K ta) g tb D σ H = ta σ H fun vs H1 => ∃ a b xs ys, vs = [.ref a, .ref b] ∧ SqL K H1 a xs ∧ SqL K H1 b ys ∧ ForZ K a b g tb D σ H1 := rfl
end
/-! ### bounded data -/
mutual
def bdD (n : Nat) : PyData → Prop
  | .int i => i.natAbs < 2 ^ n
  | .list ds => bdDs n ds
  | .tuple ds => bdDs n ds
  | .dict _ => False
  | _ => True
def bdDs (n : Nat) : List PyData → Prop
  | [] => True
  | d :: ds => bdD n d ∧ bdDs n ds
end
theorem bdDs_mem {n : Nat} : ∀ {ds : List PyData}, bdDs n ds ↔ ∀ d ∈ ds, bdD n d
  | [] => ⟨fun _ d h => (nomatch h), fun _ => trivial⟩
  | d :: ds => by
    show bdD n d ∧ bdDs n ds ↔ _
    rw [bdDs_mem]
    constructor
    · rintro ⟨h1, h2⟩ e he
      rcases List.mem_cons.mp he with rfl | he
      · exact h1
      · exact h2 e he
    · exact fun h => ⟨h d List.mem_cons_self, fun e he => h e (List.mem_cons_of_mem _ he)⟩
theorem bdDs.append {n : Nat} {ds es : List PyData} (h1 : bdDs n ds) (h2 : bdDs n es) : bdDs n (ds ++ es) := bdDs_mem.mpr fun d hd => (List.mem_append.mp hd).elim (bdDs_mem.mp h1 d) (bdDs_mem.mp h2 d)
theorem bdDs.reverse {n : Nat} {ds : List PyData} (h1 : bdDs n ds) : bdDs n ds.reverse := bdDs_mem.mpr fun d hd => bdDs_mem.mp h1 d (List.mem_reverse.mp hd)
section
variable {K : PySem.W.Frag} {r : Addr} {H : Hp} {Q : VK} {v x y : V} {o : HO} {n : Nat}
theorem RpAll.drop : ∀ {xs : List V} {ds : List PyData} (k : Nat), RpAll r H xs ds → RpAll r H (xs.drop k) (ds.drop k)
  | _, _, 0, h => h
  | _, _, k + 1, .nil => .nil
  | _, _, k + 1, .cons _ t => RpAll.drop k t
theorem RpAll.take : ∀ {xs : List V} {ds : List PyData} (k : Nat), RpAll r H xs ds → RpAll r H (xs.take k) (ds.take k)
  | _, _, 0, _ => .nil
  | _, _, k + 1, .nil => .nil
  | _, _, k + 1, .cons h t => .cons h (RpAll.take k t)
theorem RpAll.reverse : ∀ {xs : List V} {ds : List PyData}, RpAll r H xs ds → RpAll r H xs.reverse ds.reverse
  | _, _, .nil => .nil
  | _, _, .cons h t => by
    rw [List.reverse_cons, List.reverse_cons]
    exact (RpAll.reverse t).append (.cons h .nil)
/-- lists of bounded data, each item by itself -/
def Bd (n k : Nat) (r : Addr) (H : Hp) (x : V) : Prop := ∃ d, Rp r H x d ∧ bdD n d ∧ ShN k d
def Bds (n k : Nat) (r : Addr) (H : Hp) (xs : List V) : Prop := ∀ x ∈ xs, Bd n k r H x
variable {j : Nat}
theorem Bd.up {H' : Hp} (k : Kp r H H') (h : Bd n j r H x) : Bd n j r H' x := let ⟨d, h1, h2⟩ := h; ⟨d, h1.up k, h2⟩
theorem Bd.le {j' : Nat} (h : Bd n j r H x) (l : j ≤ j') : Bd n j' r H x := let ⟨d, h1, h2, h3⟩ := h; ⟨d, h1, h2, h3.le l⟩
theorem Bds.up {H' : Hp} {xs : List V} (k : Kp r H H') (h : Bds n j r H xs) : Bds n j r H' xs := fun x hx => (h x hx).up k
theorem Bds.le {j' : Nat} {xs : List V} (h : Bds n j r H xs) (l : j ≤ j') : Bds n j' r H xs := fun x hx => (h x hx).le l
theorem Bds.nil : Bds n j r H [] := fun _ h => nomatch h
theorem Bds.cons {xs : List V} (h : Bd n j r H x) (hs : Bds n j r H xs) : Bds n j r H (x :: xs) := fun y hy => by
  rcases List.mem_cons.mp hy with rfl | hy
  · exact h
  · exact hs y hy
theorem Bds.append {xs ys : List V} (h : Bds n j r H xs) (h' : Bds n j r H ys) : Bds n j r H (xs ++ ys) := fun y hy => (List.mem_append.mp hy).elim (h y) (h' y)
theorem Bds.reverse {xs : List V} (h : Bds n j r H xs) : Bds n j r H xs.reverse := fun y hy => h y (List.mem_reverse.mp hy)
theorem Bds.all {xs : List V} (h : Bds n j r H xs) : ∃ ds, RpAll r H xs ds ∧ bdDs n ds ∧ ∀ d ∈ ds, ShN j d := by
  induction xs with
  | nil => exact ⟨[], .nil, trivial, fun _ h => nomatch h⟩
  | cons x xs ih =>
    obtain ⟨d, h1, h2, h0⟩ := h x List.mem_cons_self
    obtain ⟨ds, h3, h4, h5⟩ := ih fun y hy => h y (List.mem_cons_of_mem _ hy)
    refine ⟨d :: ds, .cons h1 h3, ⟨h2, h4⟩, fun e he => ?_⟩
    rcases List.mem_cons.mp he with rfl | he
    · exact h0
    · exact h5 e he
theorem Bd.int {i : Int} (h : i.natAbs < 2 ^ n) : Bd n 1 r H (.int i) := ⟨_, .int i, h, rfl, Nat.le_of_ble_eq_true rfl⟩
theorem Bd.bl {b : Bool} : Bd n 1 r H (.bl b) := ⟨_, .bl b, trivial, rfl, Nat.le_of_ble_eq_true rfl⟩
theorem Bd.non : Bd n 1 r H .non := ⟨_, .non, trivial, rfl, Nat.le_of_ble_eq_true rfl⟩
theorem Bd.str {z : Str} (h : PyData.canLay0 (.str z) = true) : Bd n 1 r H (.str z) := ⟨_, .str z, trivial, h, Nat.le_of_ble_eq_true rfl⟩
end
/-! ### data back to fractions and spots -/
end L2
end
section
set_option Elab.async false
set_option linter.all false
set_option maxRecDepth 100000
namespace L2
open PySem PySem.Spec PyProof.Rows
section
variable {X : Cx} {pos : Pos}
end
end L2
end
section
set_option Elab.async false
set_option linter.all false
namespace My
open PySem L2
/-- nought, or of a power of at least n -/
def Vge (p : Nat) (q : Rat) (n : Int) : Prop := q = 0 ∨ n ≤ vq p q
theorem Vge.neg {p : Nat} {q : Rat} {n : Int} (h : Vge p q n) : Vge p (-q) n := by
  rcases h with rfl | h
  · exact .inl (by grind)
  · exact .inr (by rw [vq_neg]; exact h)
theorem Vge.le {p : Nat} {q : Rat} {n m : Int} (h : Vge p q n) (l : m ≤ n) : Vge p q m := by
  rcases h with h | h
  · exact .inl h
  · exact .inr (by omega)
theorem Vge.add {p : Nat} {q r : Rat} {n : Int} (hp : Pr p) (h1 : Vge p q n) (h2 : Vge p r n) : Vge p (q + r) n := by
  by_cases hq : q = 0
  · subst hq; rw [Rat.zero_add]; exact h2
  by_cases hr : r = 0
  · subst hr; rw [Rat.add_zero]; exact h1
  by_cases hs : q + r = 0
  · exact .inl hs
  have a1 := vq_add hp hq hr hs
  rcases h1 with h1 | h1
  · exact absurd h1 hq
  rcases h2 with h2 | h2
  · exact absurd h2 hr
  exact .inr (by omega)
theorem Vge.sub {p : Nat} {q r : Rat} {n : Int} (hp : Pr p) (h1 : Vge p q n) (h2 : Vge p r n) : Vge p (q - r) n := by
  rw [Rat.sub_eq_add_neg]
  exact h1.add hp h2.neg
end My
end
section
set_option Elab.async false
set_option linter.all false
set_option maxRecDepth 100000
namespace L2
open PySem PySem.Spec PyProof.Rows
theorem cp10_13 : CPow 10 13 ↔ True := ⟨fun _ => trivial, fun _ => by refine ⟨?_, ?_, ?_⟩ <;> decide⟩
end L2
end
section
set_option Elab.async false
set_option linter.all false
set_option maxRecDepth 100000
namespace L2
open PySem PySem.Spec PyProof.Rows
section
variable {X : Cx} {K : PySem.W.Frag}
end
/-- of two values a list holds at most two different ones -/
def Two (x y : Int) (l : List Int) : Prop := l = [] ∨ l = [x] ∨ l = [y] ∨ l = [x, y] ∨ l = [y, x]
theorem Two.step {x y v : Int} {l : List Int} (h : Two x y l) (hv : v = x ∨ v = y) : Two x y (PyProof.Rows.step_dedup l v) := by
  unfold PyProof.Rows.step_dedup
  unfold Two at h ⊢
  by_cases e : x = y
  · subst e
    have hv : v = x := by rcases hv with h | h <;> exact h
    subst hv
    rcases h with rfl | rfl | rfl | rfl | rfl <;> simp
  · have e' : ¬ y = x := fun z => e z.symm
    rcases hv with rfl | rfl <;> rcases h with rfl | rfl | rfl | rfl | rfl <;> simp [e, e']
end L2
namespace My
open PySem L2
/-! ### bounds of tops and bottoms apart -/
def Bq (m n : Nat) (q : Rat) : Prop := q.num.natAbs < 2 ^ m ∧ q.den < 2 ^ n
theorem Bq.le {m n m' n' : Nat} {q : Rat} (h : Bq m n q) (l1 : m ≤ m') (l2 : n ≤ n') : Bq m' n' q := ⟨Nat.lt_of_lt_of_le h.1 (Nat.pow_le_pow_right (by decide) l1), Nat.lt_of_lt_of_le h.2 (Nat.pow_le_pow_right (by decide) l2)⟩
theorem Bq.div {a b : Int} {m n : Nat} (hb : b ≠ 0) (h1 : a.natAbs < 2 ^ m) (h2 : b.natAbs < 2 ^ n) : Bq m n (Rat.divInt a b) := by
  refine ⟨?_, Nat.lt_of_le_of_lt (den_le hb) h2⟩
  rw [← low_num hb]
  exact Nat.lt_of_le_of_lt (Int.natAbs_fdiv_le_natAbs _ _) h1
theorem Bq.neg {m n : Nat} {q : Rat} (h : Bq m n q) : Bq m n (-q) := ⟨by rw [Rat.neg_num, Int.natAbs_neg]; exact h.1, h.2⟩
theorem Bq.add {m n m' n' k : Nat} {x y : Rat} (h1 : Bq m n x) (h2 : Bq m' n' y) (l1 : m + n' ≤ k) (l2 : m' + n ≤ k) : Bq (k + 1) (n + n') (x + y) := by
  rw [← q_sum]
  have hx := x.den_nz
  have hy := y.den_nz
  refine Bq.div (Int.mul_ne_zero (by omega) (by omega)) ?_ ?_
  · exact add_bd2 (bdle (mul_bd h1.1 (den_bd h2.2)) l1) (bdle (mul_bd h2.1 (den_bd h1.2)) l2)
  · exact mul_bd (den_bd h1.2) (den_bd h2.2)
theorem Bq.sub {m n m' n' k : Nat} {x y : Rat} (h1 : Bq m n x) (h2 : Bq m' n' y) (l1 : m + n' ≤ k) (l2 : m' + n ≤ k) : Bq (k + 1) (n + n') (x - y) := by
  rw [Rat.sub_eq_add_neg]; exact h1.add h2.neg l1 l2
def Bs (m n : Nat) (p : Rat × Rat) : Prop := Bq m n p.1 ∧ Bq m n p.2
theorem Bs.le {m n m' n' : Nat} {q : Rat × Rat} (h : Bs m n q) (l1 : m ≤ m') (l2 : n ≤ n') : Bs m' n' q := ⟨h.1.le l1 l2, h.2.le l1 l2⟩
end My
end
section
set_option Elab.async false
set_option linter.all false
set_option maxRecDepth 100000
namespace L2
open PySem PySem.Spec PyProof.Rows
section
variable {X : Cx} {pos : Pos}
end
theorem cp10_20 : CPow 10 20 ↔ True := ⟨fun _ => trivial, fun _ => by refine ⟨?_, ?_, ?_⟩ <;> decide⟩
theorem cp10_22 : CPow 10 22 ↔ True := ⟨fun _ => trivial, fun _ => by refine ⟨?_, ?_, ?_⟩ <;> decide⟩
theorem cp10_6 : CPow 10 6 ↔ True := ⟨fun _ => trivial, fun _ => by refine ⟨?_, ?_, ?_⟩ <;> decide⟩
end L2
namespace My
open PySem L2
/-! ### bounds of weighted mids -/
end My
end
section
set_option Elab.async false
set_option linter.all false
set_option maxRecDepth 100000
namespace HT
open PySem PySem.Spec PyProof.Rows
section
variable {prog : Program} {w : World} {A : Around} {E : Value → Shared → Prop} {s : Shared}
end
end HT
namespace L2
open PySem PySem.Spec PyProof.Rows
section
variable {X : Cx}
/-- every other item of a tuple: some of its items -/
def tSt2 (K : PySem.W.Frag) (te : TE) : TE := fun σ H Q => te σ H fun x H1 => ∃ a xs, x = .ref a ∧ SqT K H1 a xs ∧ ∀ p ys, H1 p = none → (∀ y ∈ ys, y ∈ xs) → ys.length ≤ xs.length → Q (.ref p) (upd H1 p (.tup ys))
end
end L2
namespace L2
open PySem PySem.Spec PyProof.Rows
/-! ### data that stands at neither of two places -/
mutual
theorem Rp.fresh {r S : Addr} {H : Hp} (hS : H S = none) : ∀ (d : PyData) (v : V), Rp r H v d → Rp S H v d
  | .none, _, h => by cases h; exact .non
  | .bool b, _, h => by cases h; exact .bl b
  | .int i, _, h => by cases h; exact .int i
  | .str x, _, h => by cases h; exact .str x
  | .list ds, _, h => by
    cases h with
    | lst h1 h2 h3 => exact .lst h1 (ne_of_none h1 hS) (RpAll.fresh hS ds _ h3)
  | .tuple ds, _, h => by
    cases h with
    | tup h1 h2 h3 => exact .tup h1 (ne_of_none h1 hS) (RpAll.fresh hS ds _ h3)
  | .dict _, _, h => by cases h
theorem RpAll.fresh {r S : Addr} {H : Hp} (hS : H S = none) : ∀ (ds : List PyData) (vs : List V), RpAll r H vs ds → RpAll S H vs ds
  | [], _, h => by cases h; exact .nil
  | d :: ds, _, h => by
    cases h with
    | cons h1 h2 => exact .cons (Rp.fresh hS d _ h1) (RpAll.fresh hS ds _ h2)
end
mutual
/-- what stands at neither r nor S stays off S when r changes -/
theorem Rp.swap {r S : Addr} {H H' : Hp} (k : Kp r H H') : ∀ (d : PyData) (v : V), Rp r H v d → Rp S H v d → Rp S H' v d
  | .none, _, h, _ => by cases h; exact .non
  | .bool b, _, h, _ => by cases h; exact .bl b
  | .int i, _, h, _ => by cases h; exact .int i
  | .str x, _, h, _ => by cases h; exact .str x
  | .list ds, _, h, g => by
    cases h with
    | lst h1 h2 h3 =>
      cases g with
      | lst g1 g2 g3 =>
        rw [h1] at g1
        cases g1
        exact .lst (k _ _ h1 h2) g2 (RpAll.swap k ds _ h3 g3)
  | .tuple ds, _, h, g => by
    cases h with
    | tup h1 h2 h3 =>
      cases g with
      | tup g1 g2 g3 =>
        rw [h1] at g1
        cases g1
        exact .tup (k _ _ h1 h2) g2 (RpAll.swap k ds _ h3 g3)
  | .dict _, _, h, _ => by cases h
theorem RpAll.swap {r S : Addr} {H H' : Hp} (k : Kp r H H') : ∀ (ds : List PyData) (vs : List V), RpAll r H vs ds → RpAll S H vs ds → RpAll S H' vs ds
  | [], _, h, _ => by cases h; exact .nil
  | d :: ds, _, h, g => by
    cases h with
    | cons h1 h2 =>
      cases g with
      | cons g1 g2 => exact .cons (Rp.swap k d _ h1 g1) (RpAll.swap k ds _ h2 g2)
end
mutual
theorem Rp.uniq {r S : Addr} {H : Hp} : ∀ (d e : PyData) (v : V), Rp r H v d → Rp S H v e → d = e
  | .none, _, _, h, g => by cases h; cases g; rfl
  | .bool b, _, _, h, g => by cases h; cases g; rfl
  | .int i, _, _, h, g => by cases h; cases g; rfl
  | .str x, _, _, h, g => by cases h; cases g; rfl
  | .list ds, _, _, h, g => by
    cases h with
    | lst h1 h2 h3 =>
      cases g with
      | lst g1 g2 g3 =>
        rw [h1] at g1
        cases g1
        rw [RpAll.uniq ds _ _ h3 g3]
      | tup g1 g2 g3 => rw [h1] at g1; cases g1
  | .tuple ds, _, _, h, g => by
    cases h with
    | tup h1 h2 h3 =>
      cases g with
      | tup g1 g2 g3 =>
        rw [h1] at g1
        cases g1
        rw [RpAll.uniq ds _ _ h3 g3]
      | lst g1 g2 g3 => rw [h1] at g1; cases g1
  | .dict _, _, _, h, _ => by cases h
theorem RpAll.uniq {r S : Addr} {H : Hp} : ∀ (ds es : List PyData) (vs : List V), RpAll r H vs ds → RpAll S H vs es → ds = es
  | [], _, _, h, g => by cases h; cases g; rfl
  | d :: ds, _, _, h, g => by
    cases h with
    | cons h1 h2 =>
      cases g with
      | cons g1 g2 => rw [Rp.uniq d _ _ h1 g1, RpAll.uniq ds _ _ h2 g2]
end
/-- bounded data at neither of two places -/
def Bd2 (n k : Nat) (r S : Addr) (H : Hp) (x : V) : Prop := ∃ d, Rp r H x d ∧ Rp S H x d ∧ bdD n d ∧ ShN k d
def Bds2 (n k : Nat) (r S : Addr) (H : Hp) (xs : List V) : Prop := ∀ x ∈ xs, Bd2 n k r S H x
section
variable {n j : Nat} {r S : Addr} {H H' : Hp} {x : V} {xs : List V}
theorem Bd2.same (s : Same H H') (h : Bd2 n j r S H x) : Bd2 n j r S H' x := let ⟨d, h1, h2, h3⟩ := h; ⟨d, h1.up s.kp, h2.up s.kp, h3⟩
theorem Bd2.draw (k : Kp r H H') (h : Bd2 n j r S H x) : Bd2 n j r S H' x := let ⟨d, h1, h2, h3⟩ := h; ⟨d, h1.up k, Rp.swap k d x h1 h2, h3⟩
theorem Bd2.one (h : Bd2 n j r S H x) : Bd n j r H x := let ⟨d, h1, _, h3⟩ := h; ⟨d, h1, h3⟩
theorem Bd2.two (h : Bd2 n j r S H x) : Bd n j S H x := let ⟨d, _, h2, h3⟩ := h; ⟨d, h2, h3⟩
theorem Bd2.le {j' : Nat} (h : Bd2 n j r S H x) (l : j ≤ j') : Bd2 n j' r S H x := let ⟨d, h1, h2, h3, h4⟩ := h; ⟨d, h1, h2, h3, h4.le l⟩
theorem Bd2.of {n' j' : Nat} (h : Bd n j r H x) (h' : Bd n' j' S H x) : Bd2 n j r S H x := by
  obtain ⟨d, h1, h2⟩ := h
  obtain ⟨e, g1, _⟩ := h'
  have := Rp.uniq d e x h1 g1
  subst this
  exact ⟨d, h1, g1, h2⟩
theorem Bd2.fresh (hS : H S = none) (h : Bd n j r H x) : Bd2 n j r S H x := let ⟨d, h1, h2⟩ := h; ⟨d, h1, Rp.fresh hS d x h1, h2⟩
theorem Bds2.same (s : Same H H') (h : Bds2 n j r S H xs) : Bds2 n j r S H' xs := fun x hx => (h x hx).same s
theorem Bds2.draw (k : Kp r H H') (h : Bds2 n j r S H xs) : Bds2 n j r S H' xs := fun x hx => (h x hx).draw k
theorem Bds2.one (h : Bds2 n j r S H xs) : Bds n j r H xs := fun x hx => (h x hx).one
theorem Bds2.fresh (hS : H S = none) (h : Bds n j r H xs) : Bds2 n j r S H xs := fun x hx => Bd2.fresh hS (h x hx)
theorem Bds2.snoc (h : Bds2 n j r S H xs) (hx : Bd2 n j r S H x) : Bds2 n j r S H (xs ++ [x]) := fun y hy => by
  rcases List.mem_append.mp hy with hy | hy
  · exact h y hy
  · rw [List.mem_singleton.mp hy]; exact hx
end
end L2
namespace L2
open PySem PySem.Spec PyProof.Rows
section
variable {X : Cx} {K : PySem.W.Frag}
theorem call_tuple_ofK (e : X.K = K) : CallR X (.type "tuple") (fun xs H Q => ∃ p ys, xs = [.ref p] ∧ ((SqL K H p ys ∧ ∀ l, H l = none → Q (.ref l) (upd H l (.tup ys))) ∨ (SqT K H p ys ∧ Q (.ref p) H))) := e ▸ call_tuple_of
end
end L2
end
section
set_option Elab.async false
set_option linter.all false
set_option maxRecDepth 100000
namespace PySem
open Sem (wp)
section
variable {prog : Program} {w : World} {A : Around} {E : Value → Shared → Prop} {h : Heap} {g : Array GenState} {d : Drawn} {t : Nat} {os : OsState}
variable {nm q : Str} {C N : Addr} {bs bm bmB : List Value} {hdct : Bool} {sn : List Str} {sub : List Value} {ab : Bool} {col : Option Bool} {dd : Option Addr} {k0 k1 k2 k3 k5 : Option Value} {B newId initId : String}
end
end PySem
end
section
set_option Elab.async false
set_option linter.all false
set_option maxRecDepth 100000
namespace PySem.W
open PySem PySem.Calls PyProof.Rows Builtin Builtin.ObjectAttr
/-- own classes, then the four built-in ones above a refusal -/
def excTail : List Value → Bool
  | .ref _ :: r => excTail r
  | [.type a, .type b, .type c, .type d] => a == "ValueError" && b == "Exception" && c == "BaseException" && d == "object"
  | _ => false
def exOver (K : Frag) (C : Addr) : Bool := (clsIn K C).any fun cd => excTail cd.mro

section
variable {prog : Program} {w : World} {A : Around} {K : Frag} {C x : Addr} {s : Shared} {R : Result → Shared → Prop} {E : Value → Shared → Prop}
end
end PySem.W
end
section
set_option Elab.async false
set_option linter.all false
set_option maxRecDepth 100000
namespace PySem.F
end PySem.F
namespace PySem.W
open PySem PySem.Calls PyProof.Rows Builtin Builtin.ObjectAttr
section
variable {prog : Program} {w : World} {M : Model} {A : Around} {E : Value → Shared → Prop} {h : Heap} {g : Array GenState} {d : Drawn} {t : Nat} {os : OsState}
end
end PySem.W
end
section
set_option Elab.async false
set_option linter.all false
set_option maxRecDepth 100000
namespace PySem.W
open PySem PySem.Calls PyProof.Rows Builtin Builtin.ObjectAttr
section
variable {prog : Program} {w : World} {M : Model} {A : Around} {E : Value → Shared → Prop} {h : Heap} {g : Array GenState} {d : Drawn} {t : Nat} {os : OsState}
abbrev excVals (t0 : Addr) : Array Value := #[.ref t0, .none, .none, .none, .bool false, .none]
end
end PySem.W
end
section
set_option Elab.async false
set_option linter.all false
set_option maxRecDepth 100000
namespace PySem.W
open PySem PySem.Calls PyProof.Rows Builtin Builtin.ObjectAttr
/-- the body of an `__init__` that tells its base a text and keeps its one argument -/
abbrev iniBody (fld txt : Str) (p0 p1 p2 p3 p4 p5 p6 p7 p8 p9 : Pos) (k : Nat) : List Stmt :=
  [.Expr (.Call (.Attribute (.Call (.Name "super" p0) [] [] p1) "__init__" p2) [.Constant (.str txt) k p3] [] p4) p5,
   .Assign [.Attribute (.Name "self" p6) fld p7] (.Name fld p8) p9]
abbrev iniScope (fld : Str) : Scope := { kind := .function, names := [("self", .local), (fld, .local), ("__class__", .free), ("super", .globalImplicit)], isGenerator := false, isCoroutine := false, more := [] }
/-- what an exception with its one field is, behind its making -/
structure ExF (h h' : Heap) (x C : Addr) (fld : Str) (v : Value) : Prop where
  keeps : ∀ b o, b ≠ x → h.get? b = some o → h'.get? b = some o
  there : ∃ (t dx : Addr) (vs : List Value) (hs : Int) (tk : Tok), h'.get? x = some { cls := .ref C, dict := some dx, data := .fields (excVals t) } ∧
    h.get? t = none ∧ h'.get? t = some { cls := .type "tuple", data := .seq vs.toArray } ∧ h.get? dx = none ∧ h'.get? dx = some (dictOf [⟨hs, .str fld tk, v⟩] 1)
section
variable {prog : Program} {w : World} {A : Around} {E : Value → Shared → Prop} {h : Heap} {g : Array GenState} {d : Drawn} {t : Nat} {os : OsState}
variable {K : Frag} {mg mb m : Str → Option Value}
end
end PySem.W
end
section
set_option Elab.async false
set_option linter.all false
set_option maxRecDepth 100000
namespace PySem.W
open PySem PySem.Calls PyProof.Rows Builtin Builtin.ObjectAttr L2
/-- an exception class under other own ones, with its own `__init__` -/
def excInI (K : Frag) (C fI : Addr) (bmB : List Value) (newId : String) : Bool := match K.lookup C with
  | some ⟨.type "type", _, .cls cd, sl⟩ => (match cd.mro, sl.toList with
    | .ref C' :: bm, [_, _, _, _, some (.builtin n), _] => C' == C && n == newId && !cd.hasDel && tailIn K bmB bm && nsOkIn K cd.ns && nsIn K cd.ns "__init__" == some (some (.ref fI))
    | _, _ => false)
  | _ => false
abbrev iniArgs (fld : Str) (pa pb : Pos) : Arguments := { posonlyargs := [], args := [{ arg := "self", annotation := none, pos := pa }, { arg := fld, annotation := none, pos := pb }], vararg := none, kwonlyargs := [], kw_defaults := [], kwarg := none, defaults := [] }
structure XIni (prog : Program) (K : Frag) (C fI cc cda : Addr) (fld : Str) : Prop where
  exc : excInI K C fI bmV newV = true
  fn : ∃ od osl name qual p0 p1 p2 p3 p4 p5 p6 p7 p8 p9 txt k kV doc pm an ct pa pb, K.lookup fI = some ⟨.type "function", od, .func (ksFn name qual (iniArgs fld pa pb) (iniBody fld txt p0 p1 p2 p3 p4 p5 p6 p7 p8 p9 k) (iniScope fld) .none kV doc pm an (.ref cda) ct cc), osl⟩ ∧ codeIn K (.ref cda) qual = true ∧ (p2.endLine == p4.line) = true ∧ ∀ a b, bindArgs (ksFn name qual (iniArgs fld pa pb) (iniBody fld txt p0 p1 p2 p3 p4 p5 p6 p7 p8 p9 k) (iniScope fld) .none kV doc pm an (.ref cda) ct cc) ⟨[a, b], []⟩ = pure [(("self" : Str), a), (fld, b)]
  code : ∃ ccl cdd vs ccs file tf, K.lookup cda = some ⟨ccl, cdd, .fields vs, ccs⟩ ∧ vs[2]? = some (.str file tf) ∧ ((prog.main.file : Str) == file) = true
  cell : ∃ cl cld csl, K.lookup cc = some ⟨cl, cld, .cell (some (.ref C)), csl⟩
  top : (prog.main.scope.names.lookup ("super" : Str)).isSome = false
  sub : mroIn K C (.ref C) = some true
  subV : mroIn K C (.type "ValueError") = some true
  any : nsIn K cStatics "thirdparty.any" = some none
  ini : ks_superIn K C C "__init__" = some (some (.builtin "ValueError.__init__"))
  sa : findIn K (.ref C) "__setattr__" = some (some (.builtin "object.__setattr__"))
  over : exOver K C = true
  tk : takerIn K C fld = some none
  hd : hasDictIn K C = true
  ks : (iniScope fld).names.lookup ("super" : Str) = some .globalImplicit
  kc : (iniScope fld).names.lookup ("__class__" : Str) = some .free
  ksf : (iniScope fld).names.lookup ("self" : Str) = some .local
  kf : (iniScope fld).names.lookup fld = some .local
  db : (fld == ("__debug__" : Str)) = false
  ne : (fld == ("self" : Str)) = false
/-- an exception of one field was made -/
structure MadeF (h h' : Heap) (x C : Addr) (fld : Str) (v : Value) : Prop where
  keeps : ∀ b o, h.get? b = some o → h'.get? b = some o
  new : h.get? x = none
  there : ∃ (t dx : Addr) (vs : List Value) (hs : Int) (tk : Tok), h'.get? x = some { cls := .ref C, dict := some dx, data := .fields (excVals t) } ∧
    h.get? t = none ∧ h'.get? t = some { cls := .type "tuple", data := .seq vs.toArray } ∧ h.get? dx = none ∧ h'.get? dx = some (dictOf [⟨hs, .str fld tk, v⟩] 1)
section
variable {prog : Program} {w : World} {A : Around} {E : Value → Shared → Prop} {h : Heap} {g : Array GenState} {d : Drawn} {t : Nat} {os : OsState}
variable {K : Frag} {mg mb m : Str → Option Value} {C fI cc cda : Addr} {fld : Str}
end
end PySem.W
end
section
set_option Elab.async false
set_option linter.all false
set_option maxRecDepth 100000
namespace L2
open PySem PySem.Spec PyProof.Rows
/-- an exception at x, its class, its dict at dx -/
def ExcD (x C dx : Addr) (h : Heap) : Prop := ∃ o vs, h.get? x = some o ∧ o.cls = .ref C ∧ o.dict = some dx ∧ o.data = .fields vs
theorem ExcD.at {x C dx : Addr} {h : Heap} (p : ExcD x C dx h) : ExcAt x C h := let ⟨o, _, e, c, _⟩ := p; ⟨o, e, c⟩
section
variable {X : Cx} {pins : List (Addr × Obj)} {σ : List (Option V)} {H : Hp} {s : Shared} {h' : Heap}
end
/-! ### an exception made, not raised -/
end L2
end
section
set_option Elab.async false
set_option linter.all false
set_option maxRecDepth 100000
namespace L2
open PySem PySem.Spec PyProof.Rows
end L2
end
section
set_option Elab.async false
set_option linter.all false
set_option maxRecDepth 100000
namespace L2
open PySem PySem.Spec PyProof.Rows
section
variable {prog : Program} {w : World} {A : Around} {E : Value → Shared → Prop} {h : Heap} {g : Array GenState} {d : Drawn} {t : Nat} {os : OsState} {K : PySem.W.Frag} {x C : Addr} {ox : Obj} {od : Option Obj} {name : Str} {v : Value}
end
/-! ### the field of an exception -/
structure XFld (K : PySem.W.Frag) (C : Addr) (f : Str) : Prop where
  cls : XCls K C
  hd : PySem.W.hasDictIn K C = true
  no : PySem.W.findIn K (.ref C) f = some none
end L2
end
section
set_option Elab.async false
set_option linter.all false
set_option maxRecDepth 100000
namespace L2
open PySem PySem.Spec PyProof.Rows
/-! ### isinstance of an exception, however it is tracked -/
def IsExc (H : Hp) (a C : Addr) : Prop := ∃ φ, H a = some (.ext φ) ∧ ∀ h, φ h → ExcAt a C h
theorem IsExc.x {H : Hp} {a C : Addr} (e : H a = some (.ext (ExcAt a C))) : IsExc H a C := ⟨_, e, fun _ q => q⟩
theorem IsExc.d {H : Hp} {a C dx : Addr} (e : H a = some (.ext (ExcD a C dx))) : IsExc H a C := ⟨_, e, fun _ q => q.at⟩
end L2
end
section
set_option Elab.async false
set_option linter.all false
set_option maxRecDepth 100000
namespace L2
open PySem PySem.Spec PyProof.Rows
/-- what an exception keeps on its way: all but its fields from the second on -/
def KeptX (o o' : Obj) : Prop := o'.cls = o.cls ∧ o'.dict = o.dict ∧ ∀ vs, o.data = .fields vs → ∃ vs', o'.data = .fields vs' ∧ vs'[0]? = vs[0]? ∧ vs'.size = vs.size
theorem KeptX.refl (o : Obj) : KeptX o o := ⟨rfl, rfl, fun vs e => ⟨vs, e, rfl, rfl⟩⟩
theorem KeptX.trans {a b c : Obj} (x : KeptX a b) (y : KeptX b c) : KeptX a c := ⟨y.1.trans x.1, y.2.1.trans x.2.1, fun vs e => by
  obtain ⟨v1, e1, z1, s1⟩ := x.2.2 vs e
  obtain ⟨v2, e2, z2, s2⟩ := y.2.2 v1 e1
  exact ⟨v2, e2, z2.trans z1, s2.trans s1⟩⟩
theorem KeptX.map {o : Obj} {vs : Array Value} (e : o.data = .fields vs) {i : Nat} (hi : i ≠ 0) (x : Value) : KeptX o (Obj.mapFields (·.setIfInBounds i x) o) :=
  ⟨Obj.cls_mapFields _ _, by obtain ⟨oc, od, oda, osl⟩ := o; cases e; rfl, fun v q => by
    rw [e] at q
    cases q
    exact ⟨_, Obj.data_mapFields e _, by rw [Array.getElem?_setIfInBounds_ne hi], by simp⟩⟩
section
variable {M : Model} {A : Around} {E : Value → Shared → Prop} {s : Shared}
end
end L2
end
section
set_option Elab.async false
set_option linter.all false
set_option maxRecDepth 100000
namespace L2
open PySem PySem.Spec PyProof.Rows
section
variable {M : Model} {A : Around} {E : Value → Shared → Prop} {s : Shared}
end
end L2
end
section
set_option Elab.async false
set_option linter.all false
set_option maxRecDepth 100000
namespace L2
open PySem PySem.Spec PyProof.Rows
/-- how an exception is known, told of its object as it was made: φ stays while it flies -/
structure Knows (x : Addr) (o0 : Obj) (φ : Heap → Prop) : Prop where
  of : ∀ h o, h.get? x = some o → KeptX o0 o → φ h
  st : ∀ h1 h2 : Heap, φ h1 → (∀ o, h1.get? x = some o → h2.get? x = some o) → φ h2
theorem Knows.x {x C : Addr} {o0 : Obj} (c : o0.cls = .ref C) : Knows x o0 (ExcAt x C) :=
  ⟨fun h o e k => ⟨o, e, k.1.trans c⟩, fun h1 h2 ⟨o, e, q⟩ k => ⟨o, k o e, q⟩⟩
theorem Knows.d {x C dx : Addr} {o0 : Obj} {vs : Array Value} (c : o0.cls = .ref C) (d : o0.dict = some dx) (f : o0.data = .fields vs) : Knows x o0 (ExcD x C dx) :=
  ⟨fun h o e k => let ⟨vs', q, _⟩ := k.2.2 vs f; ⟨o, vs', e, k.1.trans c, k.2.1.trans d, q⟩, fun h1 h2 ⟨o, vs, e, q⟩ k => ⟨o, vs, k o e, q⟩⟩
/-- an exception in flight: what is wanted of it is said of the heap in which it has landed -/
def CX2 (P : Program) (w : World) : CXT := fun outer H s E e s' => ∃ x C H' o0 o φ, e = .ref x ∧ FlyAt P w outer H s H' x C s' ∧ s'.heap.get? x = some o ∧ KeptX o0 o ∧ Knows x o0 φ ∧ E (.ref C) (some x) (upd H' x (.ext φ))
section
variable {P : Program} {w : World} {K : PySem.W.Frag} {mg : Str → Option Value} {base : Heap} {N : List Str} {qual : Str} {scope : Scope} {f : Addr} {cdv : Value} {A : Around} {outer : List Env} {s : Shared} {H : Hp} {E : XK}
variable {pins : List (Addr × Obj)} {σ : St} {H1 : Hp} {s1 : Shared}
end
end L2
end
section
set_option Elab.async false
set_option linter.all false
set_option maxRecDepth 100000
namespace PySem
section
variable {M : Model} {A : Around} {E : Value → Shared → Prop} {env : Env}
variable {nm q : Str} {C N : Addr} {bs bm bmB : List Value} {hdct : Bool} {sn : List Str} {sub : List Value} {ab : Bool} {col : Option Bool} {dd : Option Addr} {k0 k1 k2 k3 k5 : Option Value} {newId : String}
end
end PySem
namespace L2
open PySem PySem.Spec PyProof.Rows
section
variable {P : Program} {w : World} {K : PySem.W.Frag} {mg : Str → Option Value} {base : Heap} {N : List Str} {qual : Str} {scope : Scope} {f : Addr} {cdv : Value} {A : Around} {outer : List Env} {s : Shared} {H : Hp} {E : XK}
def tRaise2 (te : TE) (E : XK) (C : Addr) : TS := fun _ σ H => tCons te tNil σ H fun us H1 => us.length = 1 ∧ ∀ x, H1 x = none → E (.ref C) (some x) (upd H1 x (.ext (ExcAt x C)))
def tRaiseF (te : TE) (E : XK) (C : Addr) (fld : Str) : TS := fun _ σ H => te σ H fun v H1 => ∀ x dx, H1 x = none → H1 dx = none → dx ≠ x → E (.ref C) (some x) (upd (upd H1 dx (.xd [(fld, v)])) x (.ext (ExcD x C dx)))
end
end L2
end
section
set_option Elab.async false
set_option linter.all false
set_option maxRecDepth 100000
namespace L2
open PySem PySem.Spec PyProof.Rows
/-! ### defs from which an exception with a field may come -/
structure Cal2 (P : Program) (w : World) (K : PySem.W.Frag) (mg : Str → Option Value) (base : Heap) (k : Nat) (x : Str) (ps : List Str) (sp : Sp) : Prop where
  ex : ∃ f fd, FnOk P w K mg base (CX2 P w) k f fd ps sp ∧ mg x = some (.ref f) ∧ PySem.W.keepIn K (.ref f) = true ∧ Binds K fd ps []
section
variable {P : Program} {w : World} {K : PySem.W.Frag} {mg : Str → Option Value} {base : Heap}
end
section
variable {P : Program} {w : World} {K : PySem.W.Frag} {mg : Str → Option Value} {base : Heap} {N : List Str} {qual : Str} {scope : Scope} {f : Addr} {cdv : Value} {A : Around} {outer : List Env} {s : Shared} {H : Hp} {E : XK}
end
/-! ### try -/
section
variable {X : Cx} {pins : List (Addr × Obj)} {Eσ : St → XK}
end
end L2
end
section
set_option Elab.async false
set_option linter.all false
set_option maxRecDepth 100000
namespace L2
open PySem PySem.Spec PyProof.Rows
/-- try .. except S as n: the handler's heap is the one that the wish of the exception speaks of -/
def tTry2 (K : PySem.W.Frag) (S : Addr) (i : Nat) (tb : (St → XK) → TS) (th : TS) : TS := fun D σ H =>
  tb (fun σ' Cv ox H' => ∃ C x, Cv = .ref C ∧ ox = some x ∧ PySem.W.mroIn K C (.ref S) = some true ∧ th { nx := fun σ2 H2 => D.nx (σ2.set i none) H2, rt := D.rt } (σ'.set i (some (.ref x))) H') D σ H
section
variable {X : Cx} {nm n : Str} {S : Addr} {i : Nat} {body : List Stmt} {b0 : Stmt} {suite : List Stmt} {np hp pos : Pos} {tb : (St → XK) → TS} {th : TS}
end
end L2
end
section
set_option Elab.async false
set_option linter.all false
set_option maxRecDepth 100000
namespace L2
open PySem PySem.Spec PyProof.Rows
/-! ### facts about classes by one computation -/
end L2
namespace PySem.W
open PySem PySem.Calls PyProof.Rows Builtin Builtin.ObjectAttr L2
end PySem.W
end
section
set_option Elab.async false
set_option linter.all false
set_option maxRecDepth 100000
namespace L2
open PySem PySem.Spec PyProof.Rows
theorem cp10_21 : CPow 10 21 ↔ True := ⟨fun _ => trivial, fun _ => by refine ⟨?_, ?_, ?_⟩ <;> decide⟩
theorem cp10_16 : CPow 10 16 ↔ True := ⟨fun _ => trivial, fun _ => by refine ⟨?_, ?_, ?_⟩ <;> decide⟩
/-! ### xs.count(y), flat items -/
section
variable {X : Cx}
end
/-! ### a function that stands in a variable, called in a try -/
structure CalF (P : Program) (w : World) (K : PySem.W.Frag) (mg : Str → Option Value) (base : Heap) (k : Nat) (f : Addr) (ps : List Str) (sp : Sp) : Prop where
  ex : ∃ fd, FnOk P w K mg base (CX2 P w) k f fd ps sp ∧ PySem.W.keepIn K (.ref f) = true ∧ Binds K fd ps []
def tCallV (P : Program) (w : World) (K : PySem.W.Frag) (mg : Str → Option Value) (base : Heap) (j i : Nat) (Eσ : St → XK) (t : TA) : TE := fun σ H Q => ∃ f k ps sp, σ[i]? = some (some (.ref f)) ∧ CalF P w K mg base k f ps sp ∧ k ≤ j ∧ t σ H fun vs H1 => sp vs H1 Q (Eσ σ)
section
variable {X : Cx} {pins : List (Addr × Obj)} {Eσ : St → XK}
end
section
variable {P : Program} {w : World} {K : PySem.W.Frag} {mg : Str → Option Value} {base : Heap} {x qual : Str} {st : Stmt} {f : Addr} {fd : FuncData} {N ps : List Str} {k : Nat} {sp : Sp}
end
end L2
end
section
set_option Elab.async false
set_option linter.all false
set_option maxRecDepth 100000
namespace L2
open PySem PySem.Spec PyProof.Rows
/-! ### enumerate -/
def ForE (K : PySem.W.Frag) (a : Addr) (g : TG) (tb : TS) (D : Ends) (σ : St) (H : Hp) : Prop := ForJ (Ite K a) g tb D σ H
section
variable {K : PySem.W.Frag} {a : Addr} {g : TG} {tb : TS} {D : Ends} {σ : St} {H : Hp}
theorem tFor_enum {ta : TA} : tFor (iEnum K ta) g tb D σ H = ta σ H fun vs H1 => ∃ a xs, vs = [.ref a] ∧ SqL K H1 a xs ∧ ForE K a g tb D σ H1 := rfl
end
theorem cp10_25 : CPow 10 25 ↔ True := ⟨fun _ => trivial, fun _ => by refine ⟨?_, ?_, ?_⟩ <;> decide⟩
end L2
end
section
set_option Elab.async false
set_option linter.all false
set_option maxRecDepth 100000
namespace PySem
open Builtin Spec
end PySem
namespace L2
open PySem PySem.Spec PyProof.Rows
end L2
namespace L2
open PySem PySem.Spec PyProof.Rows
section
variable {X : Cx}
end
end L2
end
section
set_option Elab.async false
set_option linter.all false
set_option maxRecDepth 100000
namespace L2
open PySem PySem.Spec PyProof.Rows
section
variable {X : Cx}
/-! ### range objects as things; list(range(n)) -/
end
end L2
namespace L2
open PySem PySem.Spec PyProof.Rows
end L2
end
section
set_option Elab.async false
set_option linter.all false
set_option maxRecDepth 100000
namespace L2
open PySem PySem.Spec PyProof.Rows
end L2
end
section
set_option Elab.async false
set_option linter.all false
set_option maxRecDepth 100000
namespace L2
open PySem PySem.Spec PyProof.Rows
open Sem (wp)
/-! ### enumerate of a tuple; enumerate in comprehensions -/
section
variable {prog : Program} {w : World} {A : Around} {E : Value → Shared → Prop} {s : Shared}
open AutoSeq1 (wpAny_loadPart')
end
/-- a tuple's items as they are counted, each in a new pair -/
def Itet (K : PySem.W.Frag) (a : Addr) : It :=
  ⟨fun i H => ∃ (xs : List V) (x : V), SqT K H a xs ∧ xs[i]? = some x, fun i H v H' => ∃ T x, v = .ref T ∧ H T = none ∧ H' = upd H T (.tup [.int (i : Nat), x]) ∧ ∀ xs, SqT K H a xs → xs[i]? = some x, fun i H => ∃ xs : List V, SqT K H a xs ∧ xs.length ≤ i⟩
def iEnumT (K : PySem.W.Frag) (ta : TA) : TI := fun σ H R => ta σ H fun vs H1 => ∃ a xs, vs = [.ref a] ∧ SqT K H1 a xs ∧ R (Itet K a) H1
def ForET (K : PySem.W.Frag) (a : Addr) (g : TG) (tb : TS) (D : Ends) (σ : St) (H : Hp) : Prop := ForJ (Itet K a) g tb D σ H
section
variable {K : PySem.W.Frag} {a : Addr} {g : TG} {tb : TS} {D : Ends} {σ : St} {H : Hp}
theorem tFor_enumT {ta : TA} : tFor (iEnumT K ta) g tb D σ H = ta σ H fun vs H1 => ∃ a xs, vs = [.ref a] ∧ SqT K H1 a xs ∧ ForET K a g tb D σ H1 := rfl
end
section
variable {K : PySem.W.Frag} {g : TG} {tt : TT} {te : TE} {vs : List Nat} {σ : St} {H : Hp} {Q : VK}
theorem tLc_enumT {ta : TA} : tLc (iEnumT K ta) g tt te vs σ H Q = ta σ H fun us H1 => ∃ a xs, us = [.ref a] ∧ SqT K H1 a xs ∧ ∀ D, H1 D = none → LcJ (Itet K a) g tt te vs D σ H1 (fun H' => Q (.ref D) H') := rfl
theorem tLc_enum {ta : TA} : tLc (iEnum K ta) g tt te vs σ H Q = ta σ H fun us H1 => ∃ a xs, us = [.ref a] ∧ SqL K H1 a xs ∧ ∀ D, H1 D = none → LcJ (Ite K a) g tt te vs D σ H1 (fun H' => Q (.ref D) H') := rfl
end
end L2
end
section
set_option Elab.async false
set_option linter.all false
set_option maxRecDepth 100000
namespace L2
open PySem PySem.Spec PyProof.Rows
/-! ### tuple(.. for ..): the values so far stand in a list of the run's own, at S; between two pulls it is what tells them -/
def SLs (S : Addr) (us : Array Value) (h : Heap) : Prop := ∃ c, h.get? S = some { cls := .type "list", dict := none, data := .seq us c, slots := #[] }
theorem SLs.one {S : Addr} {us vs : Array Value} {h : Heap} (a : SLs S us h) (b : SLs S vs h) : us = vs := by
  obtain ⟨c, e⟩ := a; obtain ⟨d, f⟩ := b
  rw [e] at f; cases f; rfl
def TInv (Y : Cx) (fp : List Addr) (tn : Nat → Heap → Prop) (pins : List (Addr × Obj)) (σw : St) (W : List V → Nat → Nat → Hp → Prop) (S : Addr) (acc : List V) (i m : Nat) (s : Shared) : Prop :=
  ∃ H', Inv Y pins σw H' s ∧ tn i s.heap ∧ (∀ b ∈ fp, H' b = none) ∧ H' S = none ∧ W acc i m H'
def TAt (Y : Cx) (fp : List Addr) (tn : Nat → Heap → Prop) (pins : List (Addr × Obj)) (σw : St) (W : List V → Nat → Nat → Hp → Prop) (S : Addr) (n : Nat) (s : Shared) : Prop :=
  ∃ us acc i m, m < n ∧ SLs S us s.heap ∧ Vals acc us.toList ∧ TInv Y fp tn pins σw W S acc i m s
/-- s2 is s with v put at the end of the list at S -/
def Put (S : Addr) (us : Array Value) (v : Value) (s s2 : Shared) : Prop :=
  (∀ b o, b ≠ S → s.heap.get? b = some o → s2.heap.get? b = some o) ∧ s2.os = s.os ∧ AllBare s2.gens ∧ SLs S (us.push v) s2.heap
def TY (Y : Cx) (fp : List Addr) (tn : Nat → Heap → Prop) (pins : List (Addr × Obj)) (σw : St) (W : List V → Nat → Nat → Hp → Prop) (S : Addr) : Protocol := fun m s₀ v s kap =>
  ∃ us, SLs S us s₀.heap ∧ SLs S us s.heap ∧ us.size < sizeLine ∧ AllBare s.gens ∧ (∃ H' σ', Inv Y pins σ' H' s) ∧ ∀ s2, Put S us v s s2 → TAt Y fp tn pins σw W S m s2 ∧ kap (.send .none) s2
def TEd (Y : Cx) (pins : List (Addr × Obj)) (σw : St) (S : Addr) (QE : List V → Hp → Prop) : Nat → Shared → Shared → Prop := fun _ _ s₁ => ∃ us acc H', SLs S us s₁.heap ∧ Vals acc us.toList ∧ Inv Y pins σw H' s₁ ∧ H' S = none ∧ QE acc H'
section
variable {Y : Cx} {A : Around} {tg iter elt : Expr} {ifs : List Expr} {scope : Scope} {pos : Pos} {it : Addr} {J : It} {fp : List Addr} {tn : Nat → Heap → Prop} {g : TG} {tt : TT} {te : TE} {vs : List Nat} {σ : St}
  {pins : List (Addr × Obj)} {W : List V → Nat → Nat → Hp → Prop} {QE : List V → Hp → Prop} {S : Addr}
theorem tgen_loop (hYA : Y.A = A.over (.compLoop (.GeneratorExp elt [⟨tg, iter, ifs, 0⟩] scope pos) 0 (.ref it) .none Y.env) []) (hcalm : Y.calm = true) (hco : Y.env.scope.isCoroutine = false) (hxe : Y.xe = fun _ _ => False) (hpn : Y.pn = []) (hex : Y.ex = fp)
    (T : Turn Y.prog Y.w Y.K tg J fp it tn) (pg : PG Y tg g) (pt : PTs Y ifs tt) (pe : PE Y elt te) (hap : ∀ p ∈ pins, ∀ b ∈ fp, p.1 ≠ b) (hSf : S ∉ fp) (hS : ∀ H' : Hp, H' S = none → FpOk Y pins H' S)
    (turn : ∀ acc i m H, W acc i m H → (J.stop i H ∧ QE acc H) ∨ (J.go i H ∧ ∃ Nx : List V → Hp → Prop, (∀ ac H', Nx ac H' → ∃ m', m' < m ∧ W ac (i + 1) m' H') ∧ ∀ x H', J.yld i H x H' → g x (wipe σ vs) H' fun σ2 H2 => wipe σ2 vs = wipe σ vs ∧ tt σ2 H2 fun b H3 =>
      if b = true then te σ2 H3 fun y H4 => acc.length < sizeLine ∧ Nx (acc ++ [y]) H4 else Nx acc H3)) :
    ∀ (n m : Nat) (acc : List V) (i : Nat) (s₀ s : Shared) (us : Array Value), m < n → TInv Y fp tn pins (wipe σ vs) W S acc i m s → SLs S us s₀.heap → SLs S us s.heap → Vals acc us.toList →
      Seg (model Y.prog Y.w) A (fun n s₀ r s₁ => r = .ok .next ∧ TEd Y pins (wipe σ vs) S QE n s₀ s₁) (TY Y fp tn pins (wipe σ vs) W S) n s₀ (.compLoop (.GeneratorExp elt [⟨tg, iter, ifs, 0⟩] scope pos) 0 (.ref it) .none Y.env)
        ((model Y.prog Y.w).den (.compLoop (.GeneratorExp elt [⟨tg, iter, ifs, 0⟩] scope pos) 0 (.ref it) .none Y.env)) [] s := by
  have stat : ∀ {o : Obj} {σ' : St} {H' : Hp} {s' : Shared}, Inv Y (pins ++ [(S, o)]) σ' H' s' → (∀ b ∈ fp, H' b = none) → ∀ b ∈ fp, FpOk Y (pins ++ [(S, o)]) H' b := fun {o σ' H' s'} I' hn b hb =>
    ⟨hn b hb, (I'.ok.exf b (by rw [hex]; exact hb)).1, I'.ok.exfs b (by rw [hex]; exact hb), .inl (by rw [hex]; exact hb), fun x c e => (I'.ok.exf b (by rw [hex]; exact hb)).2 x c e, fun p hp => by
      rw [hpn, List.nil_append] at hp
      rcases List.mem_append.mp hp with hp | hp
      · exact hap p hp b hb
      · rw [List.mem_singleton.mp hp]
        intro z
        exact hSf (by rw [show S = b from z]; exact hb)⟩
  intro n
  induction n with
  | zero => intro m acc i s₀ s us h; exact absurd h (Nat.not_lt_zero _)
  | succ n ihn =>
  intro m
  induction m using Nat.strongRecOn with
  | ind m ih =>
    intro acc i s₀ s us hmn hG hl0 hl hva
    obtain ⟨H5, J5, st5, n5, nS5, w5⟩ := hG
    obtain ⟨cp, hob⟩ := hl
    have I5 : Inv Y (pins ++ [(S, { cls := .type "list", dict := none, data := .seq us cp, slots := #[] })]) (wipe σ vs) H5 s := by
      have := J5.pinned (fp := [S]) (fun b hb => by rw [List.mem_singleton.mp hb]; exact hS H5 nS5) (fun b hb => by rw [List.mem_singleton.mp hb]; exact ⟨_, hob, fun v z => by cases z⟩)
      have e : pinsAt [S] s.heap = [(S, { cls := .type "list", dict := none, data := .seq us cp, slots := #[] })] := by
        unfold pinsAt
        simp only [List.filterMap_cons, List.filterMap_nil, hob, Option.map_some]
      rw [e] at this
      exact this
    generalize hLO : ({ cls := .type "list", dict := none, data := .seq us cp, slots := #[] } : Obj) = LO at I5
    have sls : ∀ {σ' : St} {H' : Hp} {s' : Shared} {pl : List (Addr × Obj)}, Inv Y (pins ++ [(S, LO)] ++ pl) σ' H' s' → SLs S us s'.heap ∧ H' S = none := fun {σ' H' s' pl} I' => by
      have z := I'.pin (S, LO) (List.mem_append_right _ (List.mem_append_left _ (List.mem_append_right _ (List.mem_singleton.mpr rfl))))
      exact ⟨⟨cp, by rw [hLO]; exact z.1⟩, z.2.1⟩
    show Seg _ A _ _ _ s₀ _ ((compTurn (.GeneratorExp elt [⟨tg, iter, ifs, 0⟩] scope pos) 0 (.ref it) .none Y.env).onRaise (leaving Y.env)) [] s
    rw [compTurn_gen, Sem.onRaise_eq_wrap]
    refine seg_bind_wrap (wpAny_standAt ?_)
    rcases turn acc i m H5 w5 with ⟨hstop, qq⟩ | ⟨go, Nx, hNx, step⟩
    · have td := T.done Y rfl rfl rfl hcalm i (pins ++ [(S, LO)]) s _ H5 (fun _ _ => False) I5 (stat I5 n5) st5 hstop
      rw [hYA] at td
      refine seg_bind_wrap (thnF td fun r s6 ⟨hr, I6⟩ => ?_)
      subst hr
      have z := sls (pl := []) (by rw [List.append_nil]; exact I6)
      exact seg_end (.ok .next) ⟨rfl, us, acc, H5, z.1, hva, I6.unpinned (pins := pins), z.2, qq⟩
    · have ti := T.item Y rfl rfl rfl hcalm i (pins ++ [(S, LO)]) s _ H5 (fun _ _ => False) I5 (stat I5 n5) st5 go
      rw [hYA] at ti
      refine seg_bind_wrap (thnF ti fun r s6 ⟨u, hr, h6⟩ => ?_)
      subst hr
      refine seg_bind_wrap (thnF h6 fun _ s7 ⟨x, H7, I7, r7, y7, st7, n7⟩ => ?_)
      have I7' := I7.pinned (stat I7 n7) (T.obj _ _ st7)
      have h7 := pg _ s7 _ H7 x u _ I7' r7 (step x H7 y7)
      rw [hYA, hxe] at h7
      refine seg_bind_wrap (thnF h7 fun _ s8 ⟨σ8, H8, I8, hw8, q8⟩ => ?_)
      have h8 := pt _ s8 σ8 H8 _ I8 q8
      rw [hYA, hxe] at h8
      refine seg_bind_wrap (thnF h8 fun b s9 ⟨H9, I9, q9⟩ => ?_)
      have fin : ∀ {s' : Shared} {H' : Hp} {ac : List V}, Inv Y (pins ++ [(S, LO)] ++ pinsAt fp s7.heap) σ8 H' s' → Nx ac H' → ∃ m', m' < m ∧ TInv Y fp tn pins (wipe σ vs) W S ac (i + 1) m' s' := fun {s' H' ac} I' nx => by
        obtain ⟨m', hm, w'⟩ := hNx ac H' nx
        have pin' : ∀ b ∈ fp, ∀ o, s7.heap.get? b = some o → s'.heap.get? b = some o ∧ H' b = none := fun b hb o e =>
          let z := I'.pin (b, o) (List.mem_append_right _ (List.mem_append_right _ (mem_pinsAt hb e)))
          ⟨z.1, z.2.1⟩
        have hl : (wipe σ vs).length = σ8.length := by rw [← hw8, wipe_length]
        refine ⟨m', hm, H', ((I'.unpinned (pins := pins ++ [(S, LO)])).unpinned (pins := pins)).weak hl (fun j v e => ?_), T.keep _ _ _ st7 fun b hb o e => (pin' b hb o e).1, fun b hb => ?_, (sls I').2, w'⟩
        · rw [← hw8] at e
          exact (wipe_some e).1
        · obtain ⟨o, e, _⟩ := T.obj _ _ st7 b hb
          exact (pin' b hb o e).2
      cases b with
      | false =>
        simp only [Bool.false_eq_true, if_false] at q9 ⊢
        obtain ⟨m', hm, G'⟩ := fin I9 q9
        exact seg_again rfl (ih m' hm acc (i + 1) s₀ _ us (by omega) G' hl0 (sls I9).1 hva)
      | true =>
        simp only [if_true] at q9 ⊢
        have hy : ∀ v, yieldOut Y.env v = yieldValue v := fun v => by simp only [yieldOut, hco, Bool.false_eq_true, if_false]
        simp only [hy]
        rw [Sem.bind_eq_wrap', Sem.bind_eq_wrap', Sem.wrap_wrap, Sem.wrap_wrap]
        have h9 := pe _ s9 σ8 H9 _ I9 q9
        rw [hYA, hxe] at h9
        refine seg_wrap (thnF h9 fun z s10 ⟨yv, H10, I10, r10, hlen, hs⟩ => ?_)
        have hz := sls I10
        have hul : us.size = acc.length := by
          have := hva.length
          simpa using this.symm
        obtain ⟨m', hm2, H11, I11, st11, n11, nS11, w11⟩ := fin I10 hs
        refine seg_at (seg_yield rfl rfl rfl ⟨us, hl0, hz.1, by omega, I10.bare, ⟨H11, _, I11⟩, fun s2 hp => ?_⟩)
        obtain ⟨p1, p2, p3, p4⟩ := hp
        have fS := hS H11 nS11
        have J2 : Inv Y pins (wipe σ vs) H11 s2 := Inv.asHeap (s := { s10 with heap := s2.heap, toks := s10.toks }) (I11.turned (t' := s10.toks) (h' := s2.heap) (it := S) (fun b o hb e => p1 b o hb e) fS.1 fS.2.1 fS.2.2.2.1 fS.2.2.2.2.1 fS.2.2.2.2.2) rfl p2 p3
        have hva2 : Vals (acc ++ [yv]) (us.push z).toList := by
          rw [Array.toList_push]
          exact hva.append (.cons r10 .nil)
        have G2 : TInv Y fp tn pins (wipe σ vs) W S (acc ++ [yv]) (i + 1) m' s2 := ⟨H11, J2, T.keep _ _ _ st11 fun b hb o e => p1 b o (fun z => hSf (by rw [← z]; exact hb)) e, n11, nS11, w11⟩
        exact ⟨⟨us.push z, acc ++ [yv], i + 1, m', by omega, p4, hva2, G2⟩, seg_again rfl (ihn m' (acc ++ [yv]) (i + 1) s2 s2 (us.push z) (by omega) G2 p4 p4 hva2)⟩
/-- between two pulls -/
def TNext (Y : Cx) (A : Around) (fp : List Addr) (tn : Nat → Heap → Prop) (pins : List (Addr × Obj)) (σw : St) (W : List V → Nat → Nat → Hp → Prop) (QE : List V → Hp → Prop) (S a : Addr) (g n : Nat) (s : Shared) : Prop :=
  TAt Y fp tn pins σw W S n s ∧ s.heap.IsGen a g ∧ AllBare s.gens ∧ ∃ gs, s.gens[g]? = some gs ∧ gs.Goes (model Y.prog Y.w) A.in1 (fun n s₀ r s₁ => r = .ok .next ∧ TEd Y pins σw S QE n s₀ s₁) (TY Y fp tn pins σw W S) n (.send .none) (s.setGen g .running)
variable {σw : St} {a : Addr} {gn n : Nat} {s : Shared}
theorem tgen_pull {E : Value → Shared → Prop} {Q : Option Value → Shared → Prop} (hh : A.handled = none) (hroom : A.depth < recursionLimit) (hx : TNext Y A fp tn pins σw W QE S a gn n s) (hog : ∀ h : Heap, (∀ p ∈ pins, h.get? p.1 = some p.2) → h.IsGen a gn)
    (h0 : ∀ s' us acc H', SLs S us s'.heap → Vals acc us.toList → Inv Y pins σw H' s' → H' S = none → QE acc H' → Q none s')
    (h1 : ∀ s' v us n', n' < n → SLs S us s'.heap → us.size < sizeLine → AllBare s'.gens → (∀ s2, Put S us v s' s2 → s2.gens = s'.gens → TNext Y A fp tn pins σw W QE S a gn n' s2) → Q (some v) s') : wpAny (model Y.prog Y.w) A (pyNext (.ref a)) Q E s := by
  obtain ⟨⟨us0, acc0, i, m, hm, hl0, hv0, H5, I5, _, _, _, _⟩, hg, hb, gs, hgs, hgo⟩ := hx
  have hlt : gn < s.gens.size := by
    rcases Nat.lt_or_ge gn s.gens.size with h | h
    · exact h
    · rw [Array.getElem?_eq_none h] at hgs; cases hgs
  have hl : s.heap.NoLimit := I5.mod.nolimit.keeps fun b o e => I5.bk b o e
  refine wpAny_gens (n := gn + 1) hlt ?_
  refine wpAny_pyNext_genexpQ (P := TEd Y pins σw S QE) hh hl hroom hg hgs hgo (fun v s₁ gs' hbare hv => ?_) (fun s₁ hp h' hk => ?_)
  · obtain ⟨us, _, e2, hsz, hb1, ⟨H6, σ6, I6⟩, next⟩ := hv
    have hb2 : AllBare (s₁.setGen gn gs').gens := mem_setGen hb1 hbare
    intro hlen
    cases n with
    | zero => exact absurd hm (Nat.not_lt_zero _)
    | succ n' =>
      refine h1 _ v us n' (Nat.lt_succ_self _) e2 hsz hb2 fun s2 hp hge => ?_
      obtain ⟨p1, p2, p3, p4⟩ := hp
      have hat := (next s2 ⟨p1, p2, p3, p4⟩).1
      have hkap := (next (s2.setGen gn .running) ⟨p1, p2, mem_setGen p3 rfl, p4⟩).2
      refine ⟨hat, ?_, p3, gs', ?_, hkap⟩
      · obtain ⟨_, _, _, _, _, _, _, H7, I7, _⟩ := hat
        exact hog _ fun p hp => (I7.pin p (List.mem_append_right _ hp)).1
      · have hlt1 : gn < s₁.gens.size := by
          have e : (s₁.setGen gn gs').gens.size = s₁.gens.size := by simp [Shared.setGen]
          omega
        rw [hge]
        simp [Shared.setGen, hlt1]
  · intro _
    obtain ⟨us, acc, H', hS, hv, I', nS, q⟩ := hp
    have hb2 : AllBare (s₁.setGen gn .finished).gens := mem_setGen I'.bare rfl
    refine h0 _ us acc H' ?_ hv (((I'.regen hb2).kept (t' := s₁.toks) (h' := h') fun b o e => hk b o e)) nS q
    obtain ⟨c, e⟩ := hS
    exact ⟨c, hk _ _ e⟩
theorem tup_loop {R : Result → Shared → Prop} (hh : A.handled = none) (hroom : A.depth < recursionLimit) (hog : ∀ h : Heap, (∀ p ∈ pins, h.get? p.1 = some p.2) → h.IsGen a gn) (res : Value)
    (k0 : ∀ s' us acc H', SLs S us s'.heap → Vals acc us.toList → Inv Y pins σw H' s' → H' S = none → QE acc H' → R (.ok (.ret res)) s') :
    ∀ (n : Nat) (s : Shared), TNext Y A.in1 fp tn pins σw W QE S a gn n s → codeAny (model Y.prog Y.w) A (.builtin "list.extend.loop" ⟨[.ref S, .ref a, res], []⟩) R s := by
  intro n
  induction n using Nat.strongRecOn with
  | ind n ih =>
    intro s hx
    refine codeAny_builtin F.entry_extend_loop ?_; rw [Around.under_plainId F.plain_extend_loop _]
    show wpAny _ A.in1 (pyNext (.ref a) >>= _) _ _ s
    refine wpAny_bind (tgen_pull (A := A.in1) hh hroom hx hog (fun s' us acc H' e1 e2 I' e3 q => ?_) (fun s' v us n' hn hS hsz hbare next => ?_))
    · exact wpAny_pure (k0 s' us acc H' e1 e2 I' e3 q)
    · obtain ⟨cp, eS⟩ := hS
      show wpAny _ A.in1 (updateSeq S (·.push v) >>= _) _ _ _; refine wpAny_bind ?_
      refine wpAny_updateSeq eS rfl (wpAny_pure ⟨plainId_quiet F.plain_extend_loop _, ih n' hn _ (next _ ⟨fun b o hb e => ?_, rfl, hbare, ?_⟩ rfl)⟩) (by omega) (by show (us.push v).size ≤ sizeLine + 1; rw [Array.size_push]; omega)
      · exact (Heap.get?_update_other _ _ (Ne.symm hb)).trans e
      · exact ⟨_, Heap.get?_update_self _ eS rfl⟩
theorem tup_collect {E : Value → Shared → Prop} {Q : List Value → Shared → Prop} (hh : A.handled = none) (hroom : A.depth < recursionLimit) (hog : ∀ h : Heap, (∀ p ∈ pins, h.get? p.1 = some p.2) → h.IsGen a gn) (hg0 : s.heap.IsGen a gn)
    (start : ∀ s2 : Shared, (∀ b o, s.heap.get? b = some o → s2.heap.get? b = some o) → s2.os = s.os → s2.gens = s.gens → SLs s.heap.objs.size #[] s2.heap → TNext Y A.in1 fp tn pins σw W QE s.heap.objs.size a gn n s2)
    (k0 : ∀ (s' : Shared) (us : Array Value) (acc : List V) (H' : Hp), Vals acc us.toList → Inv Y pins σw H' s' → QE acc H' → Q us.toList s') : wpAny (model Y.prog Y.w) A (collect (.ref a)) Q E s := by
  have hne : s.heap.objs.size ≠ a := fun e => by
    obtain ⟨_, _, _, q, _⟩ := hg0
    exact Nat.lt_irrefl _ (by have := Heap.lt_size q; rw [← e] at this; exact this)
  unfold collect
  refine wpAny_bind (wpAny_runValue (codeAny_builtin F.entry_proto_collect ?_)); rw [Around.under_plainId F.plain_proto_collect _]
  show wpAny _ A.in1 (newList [] >>= fun l => again (.builtin "list.__iadd__" ⟨[l, .ref a], []⟩)) _ _ s
  refine wpAny_bind (wpAny_newObj_type ?_)
  refine wpAny_pure ⟨plainId_quiet F.plain_list_iadd _, codeAny_builtin F.entry_list_iadd ?_⟩; rw [Around.under_plainId F.plain_list_iadd _]
  have hg1 : (s.heap.push { cls := .type "list", data := .seq ([] : List Value).toArray }).IsGen a gn := by
    obtain ⟨x, y, z, q, r⟩ := hg0
    exact ⟨x, y, z, Heap.get?_push_of_some _ q, r⟩
  show wpAny _ A.in1 (Builtin.List.listExtendWith (.ref s.heap.objs.size) (.ref a) (.ref s.heap.objs.size)) _ _ _; unfold Builtin.List.listExtendWith
  refine wpAny_bind (wpAny_typeOf hg1.typeIs ?_)
  have q1 : Builtin.List.listSameRef (.ref s.heap.objs.size) (.ref a) = false := by simp [Builtin.List.listSameRef, hne]
  simp only [q1, show (Value.type "generator" == Value.type "list") = false by decide, show (Value.type "generator" == Value.type "tuple") = false by decide, Bool.or_false, Bool.false_eq_true, if_false]
  refine wpAny_bind (wpAny_pyIter_gen hg1 ?_)
  refine wpAny_bind (wpAny_holding ?_); unfold Builtin.List.listLengthHint
  refine wpAny_bind (wpAny_specialOf hg1.typeIs F.gen_no_len ?_)
  show wpAny _ A.in1 (specialOf (Value.ref a) (Str.ofString "__length_hint__") >>= _) _ _ _
  refine wpAny_bind (wpAny_specialOf hg1.typeIs F.gen_no_hint ?_)
  refine wpAny_pure ?_
  show wpAny _ A.in1 (rule "list.extend.makes-room" >>= fun _ => Builtin.List.listTouch (.ref s.heap.objs.size) >>= fun _ => again (.builtin "list.extend.loop" ⟨[.ref s.heap.objs.size, .ref a, .ref s.heap.objs.size], []⟩)) _ _ _
  refine wpAny_bind (wpAny_rule ?_)
  have g1 : (s.heap.push { cls := .type "list", data := .seq ([] : List Value).toArray }).get? s.heap.objs.size = some { cls := .type "list", data := .seq ([] : List Value).toArray } := Heap.get?_push_size _ rfl
  refine wpAny_bind ?_
  show wpAny _ A.in1 (updateSeq s.heap.objs.size (·.push .none) >>= fun _ => updateSeq s.heap.objs.size (·.pop)) _ _ _
  refine wpAny_bind (wpAny_updateSeq g1 rfl ?_)
  have g2 := Heap.get?_update_self (Obj.mapSeq (·.push Value.none)) g1 rfl
  refine wpAny_updateSeq g2 rfl ?_
  have g3 := Heap.get?_update_self (Obj.mapSeq (·.pop)) g2 rfl
  have oth : ∀ b o, s.heap.get? b = some o → (((s.heap.push { cls := .type "list", data := .seq ([] : List Value).toArray }).update s.heap.objs.size (Obj.mapSeq (·.push Value.none))).update s.heap.objs.size (Obj.mapSeq (·.pop))).get? b = some o := fun b o e => by
    have nb : s.heap.objs.size ≠ b := (Nat.ne_of_lt (Heap.lt_size e)).symm
    exact (Heap.get?_update_other _ _ nb).trans ((Heap.get?_update_other _ _ nb).trans (Heap.get?_push_of_some _ e))
  have st := start { s with heap := ((s.heap.push { cls := .type "list", data := .seq ([] : List Value).toArray }).update s.heap.objs.size (Obj.mapSeq (·.push Value.none))).update s.heap.objs.size (Obj.mapSeq (·.pop)) } oth rfl rfl ⟨_, g3⟩
  refine wpAny_pure ⟨plainId_quiet F.plain_extend_loop _, tup_loop (S := s.heap.objs.size) (A := A) hh hroom hog _ (fun s' us acc H' e1 e2 I' e3 q => ?_) n _ st⟩
  obtain ⟨cp, eS⟩ := e1
  show wpAny _ A (load s.heap.objs.size >>= _) _ _ s'
  refine wpAny_bind (wpAny_load eS ?_)
  exact wpAny_pure (k0 s' us acc H' e2 I' q)
theorem code_tupG {E : Value → Shared → Prop} {Q₁ : Value → Shared → Prop} (hh : A.handled = none) (hroom : A.depth < recursionLimit) (hog : ∀ h : Heap, (∀ p ∈ pins, h.get? p.1 = some p.2) → h.IsGen a gn) (hg0 : s.heap.IsGen a gn)
    (start : ∀ s2 : Shared, (∀ b o, s.heap.get? b = some o → s2.heap.get? b = some o) → s2.os = s.os → s2.gens = s.gens → SLs s.heap.objs.size #[] s2.heap → TNext Y A.in1.in1 fp tn pins σw W QE s.heap.objs.size a gn n s2) (hlen : ∀ acc H, QE acc H → acc.length ≤ sizeLine)
    (k0 : ∀ (s' : Shared) (us : Array Value) (acc : List V) (H' : Hp), Vals acc us.toList → Inv Y pins σw H' s' → QE acc H' → Q₁ (.ref s'.heap.objs.size) { s' with heap := s'.heap.push { cls := .type "tuple", data := .seq us } }) :
    codeAny (model Y.prog Y.w) A (.call (.builtin "tuple.__new__") ⟨[.type "tuple", .ref a], []⟩) (wants Q₁ E) s := by
  refine codeAny_of_tree ?_
  show wpAny _ A.in1 (do checkBuiltinCall "tuple.__new__" ⟨[.type "tuple", .ref a], []⟩; again (.builtin "tuple.__new__" ⟨[.type "tuple", .ref a], []⟩)) _ _ s
  refine wpAny_bind (wpAny_of_eq (F.newCall_tuple_1 _) (wpAny_pure ⟨plainId_quiet F.plain_tuple_new _, codeAny_builtin F.entry_tuple_new ?_⟩)); rw [Around.under_plainId F.plain_tuple_new _]
  have hsub := sub_tuple_self; have hinit := init_tuple_lookup; have hmh := madeHere_tuple
  have hTI := hg0.typeIs
  have cc : ∀ {Q' : List Value → Shared → Prop} {E' : Value → Shared → Prop}, (∀ (s' : Shared) (us : Array Value) (acc : List V) (H' : Hp), Vals acc us.toList → Inv Y pins σw H' s' → QE acc H' → Q' us.toList s') → wpAny (model Y.prog Y.w) A.in1 (collect (.ref a)) Q' E' s := fun k => tup_collect (A := A.in1) hh hroom hog hg0 start k
  wp_walk using wpAny_typeOf hTI, cc
  intro s' us acc H' hv I' q
  show wpAny _ _ (Builtin.Tuple.tupleExact us.toList.toArray >>= fun v => ret v) _ _ _; unfold Builtin.Tuple.tupleExact
  have hsz : us.size ≤ sizeLine := by
    have h1 := hlen acc H' q
    have h2 := hv.length
    have h3 : us.toList.length = us.size := by simp
    omega
  refine wpAny_bind (wpAny_newObj_type ?_ (by show us.toList.toArray.size ≤ sizeLine; simp only [Array.toArray_toList]; exact hsz))
  refine wpAny_pure ?_
  have e : us.toList.toArray = us := by simp
  rw [e]
  exact k0 s' us acc H' hv I' q
theorem call_tupG {E : Value → Shared → Prop} {Q : Value → Shared → Prop} (hh : A.handled = none) (hroom : A.depth < recursionLimit) (hog : ∀ h : Heap, (∀ p ∈ pins, h.get? p.1 = some p.2) → h.IsGen a gn) (hg0 : s.heap.IsGen a gn)
    (start : ∀ s2 : Shared, (∀ b o, s.heap.get? b = some o → s2.heap.get? b = some o) → s2.os = s.os → s2.gens = s.gens → SLs s.heap.objs.size #[] s2.heap → TNext Y A.in1.in1.in1 fp tn pins σw W QE s.heap.objs.size a gn n s2) (hlen : ∀ acc H, QE acc H → acc.length ≤ sizeLine)
    (k0 : ∀ (s' : Shared) (us : Array Value) (acc : List V) (H' : Hp), Vals acc us.toList → Inv Y pins σw H' s' → QE acc H' → Q (.ref s'.heap.objs.size) { s' with heap := s'.heap.push { cls := .type "tuple", data := .seq us } }) :
    wpAny (model Y.prog Y.w) A (call (.type "tuple") [.ref a]) Q E s :=
  callType_codes (Q₁ := fun obj s₁ => s₁.TypeIs obj "tuple" ∧ Q obj s₁) F.called_tuple (F.typeCall_tuple_1 _) F.entry_object_init
    (code_tupG (A := A.in1) hh hroom hog hg0 start hlen fun s' us acc H' hv I' q => ⟨⟨_, Heap.get?_push_size _ rfl, rfl⟩, k0 s' us acc H' hv I' q⟩)
    fun obj s₁ h₁ => ⟨h₁.1, F.args_object_init_2 obj _, object_init_meets F.called_tuple.init.lookup F.called_tuple.made (by decide) Y.prog Y.w A.in1 _ s₁ ⟨h₁.1, rfl, h₁.2⟩⟩
end
/-! ### tuple(.. for ..) -/
theorem Room.gen4 {k : Nat} {A : Around} {c : Code} (r : Room (k + 1) A) (hw : c.weight = 1) (hu : c.cUnits = 3) : Room k (A.in1.in1.in1.in1.over c []) :=
  ⟨r.hd, by
    have := r.dp
    show A.depth + 0 + c.weight + 3 * k + 5 < _
    omega, by
    have := r.un
    show A.units + 1 + 1 + 1 + 1 + 0 + c.cUnits + 16 * k + 200 < _
    omega⟩
/-- the turns of a generator whose values a tuple takes -/
def TGen (P : Addr) (g : TG) (tt : TT) (te : TE) (vs : List Nat) (σ : St) (QE : List V → Hp → Prop) (J : It) (H1 : Hp) : Prop := H1 P = some (.ext (Tbl P)) ∧ ∃ W : List V → Nat → Nat → Hp → Prop, (∃ m, W [] 0 m H1) ∧ ∀ acc i m H, W acc i m H →
  (J.stop i H ∧ QE acc H) ∨ (J.go i H ∧ ∃ Nx : List V → Hp → Prop, (∀ ac H', Nx ac H' → ∃ m', m' < m ∧ W ac (i + 1) m' H') ∧ ∀ x H', J.yld i H x H' → g x (wipe σ vs) H' fun σ2 H2 => wipe σ2 vs = wipe σ vs ∧ tt σ2 H2 fun b H3 =>
    if b = true then te σ2 H3 fun y H4 => acc.length < sizeLine ∧ Nx (acc ++ [y]) H4 else Nx acc H3)
def tTupG (P : Addr) (wi : TI) (g : TG) (tt : TT) (te : TE) (vs : List Nat) : TE := fun σ H Q => wi σ H (TGen P g tt te vs σ fun acc H => acc.length ≤ sizeLine ∧ ∀ p, H p = none → Q (.ref p) (upd H p (.tup acc)))
section
variable {X : Cx}
theorem gen_coreT {QE : List V → Hp → Prop} {pins : List (Addr × Obj)} {s : Shared} {σ : St} {H : Hp} {elt tg iter : Expr} {ifs : List Expr} {scope : Scope} {own : List (Str × Nat)} {pos : Pos} {wi : TI} {g : TG} {tt : TT} {te : TE} {c P : Addr} {k : Nat} {Qv : Value → Shared → Prop}
    (hc : X.calm = true) (hN : X.N.Nodup) (I : Inv X pins σ H s) (hi : PI X tg iter wi) (ok : BlkOk X.N X.env.scope scope own) (hcell : ∀ y ∈ scope.names, y.2 ≠ .cell) (h0 : scope.names.lookup (".0" : Str) = some .local) (hco : scope.isCoroutine = false)
    (ck : CodeK X.K X.env.code c P) (hbm : ∃ bm ob, BMod X.base mainGlobals X.mg bm ob) (hr : Room (k + 1) X.A)
    (hg : ∀ (A' : Around) (s : Shared) (H : Hp) (C : Addr) (cl : List (Str × Addr)) (code : Value) (fp : List Addr), Room k A' → PG (X.gen A' s H (genEnv scope cl C code builtinsNs X.env) fp) tg g)
    (ht : ∀ (A' : Around) (s : Shared) (H : Hp) (C : Addr) (cl : List (Str × Addr)) (code : Value) (fp : List Addr), Room k A' → PTs (X.gen A' s H (genEnv scope cl C code builtinsNs X.env) fp) ifs tt)
    (he : ∀ (A' : Around) (s : Shared) (H : Hp) (C : Addr) (cl : List (Str × Addr)) (code : Value) (fp : List Addr), Room k A' → PE (X.gen A' s H (genEnv scope cl C code builtinsNs X.env) fp) elt te)
    (hs : ∀ x, genFold iter X.env x = pure x) 
    (h : wi σ H (TGen P g tt te (own.map (·.2)) σ QE))
    (fin : ∀ (Y : Cx) (fp : List Addr) (tn : Nat → Heap → Prop) (pn : List (Addr × Obj)) (W : List V → Nat → Nat → Hp → Prop) (a : Addr) (gn n : Nat) (s' : Shared), Y.prog = X.prog → Y.w = X.w → (∀ h : Heap, (∀ p ∈ pn, h.get? p.1 = some p.2) → h.IsGen a gn) → s'.heap.IsGen a gn →
      (∀ s2 : Shared, (∀ b o, s'.heap.get? b = some o → s2.heap.get? b = some o) → s2.os = s'.os → s2.gens = s'.gens → SLs s'.heap.objs.size #[] s2.heap → TNext Y X.A.in1.in1.in1 fp tn pn (wipe σ (own.map (·.2))) W QE s'.heap.objs.size a gn n s2) → (∀ s'' σ'' H'', Inv Y pn σ'' H'' s'' → Inv X pins σ H'' s'') → Qv (.ref a) s') :
    wpAny (model X.prog X.w) X.A (eval (.GeneratorExp elt [⟨tg, iter, ifs, 0⟩] scope pos) X.env) Qv X.xe s := by
  have hfree : ∀ y ∈ scope.names, y.2 = .free → ∃ c, X.env.cells.lookup y.1 = some c := fun y hy e => by
    rcases ok.free y hy e with k | k
    · exact I.ok.has _ (.inl k)
    · exact I.ok.has _ (.inr k)
  refine wpAny_GeneratorExp_make hco (closure_ok hfree) hcell h0 ok.kind hr.depth (thn (hi pins s σ H _ I h) fun xv s1 hx => thn hx fun itv s2 h2 => ?_) hs
  obtain ⟨it, fp, tn, J, H2, e, I2, T, st2, f2, hP, W, ⟨m0, w0⟩, turn⟩ := h2
  subst e
  refine ⟨I2.mod.nolimit.keeps fun b o e => I2.bk b o e, gencode_ok I2 ck hP fun code h3 tk I3 k3 => ?_⟩
  obtain ⟨bm, ob, B⟩ := hbm
  have B3 := B.keeps fun b o e => I3.bk b o e
  refine wpAny_builtinsFor (by rw [I.ok.glob]; exact B3.ns) B3.name B3.ne B3.obj B3.cls B3.dict B3.data ?_
  intro h' hns hsm
  generalize hs3 : ({ s2 with heap := h3, toks := tk } : Shared) = s3 at I3 hns hsm ⊢
  have nP : ∀ b ∈ fp, b ≠ P := fun b hb z => by
    have := (f2 b hb).1
    rw [z, hP] at this
    cases this
  have st3 : tn 0 s3.heap := T.keep _ _ _ st2 fun b hb o e => by rw [← hs3]; exact k3 b o (nP b hb) e
  have f3 : ∀ b ∈ fp, FpOk X pins H2 b ∧ b < s3.heap.objs.size := fun b hb => by
    obtain ⟨o, e, _⟩ := T.obj _ _ st3 b hb
    exact ⟨f2 b hb, Heap.lt_size e⟩
  have hz : h'.objs.size = s3.heap.objs.size + 1 := by rw [hsm.1, Heap.size_push]
  have hk : ∀ b o, s3.heap.get? b = some o → h'.get? b = some o := fun b o e => hsm.extBut b o (Nat.ne_of_lt (Heap.lt_size e)) (Heap.get?_push_of_some _ e)
  generalize hce : genEnv scope (cloFrom X.env.cells scope.names []) s3.heap.objs.size code builtinsNs X.env = ce
  generalize hA : X.A.in1.in1.in1.in1.over (.compLoop (.GeneratorExp elt [⟨tg, iter, ifs, 0⟩] scope pos) 0 (.ref it) .none ce) [] = AL
  have hA1 : AL.frames = some (ce :: X.stack) := by
    rw [← hA]
    show pushEnvs [ce] X.A.frames = _
    rw [I.ok.frames]
    rfl
  have hA2 : AL.handled = none := by rw [← hA]; exact I.ok.hd hc
  have hRA : Room k AL := by rw [← hA]; exact hr.gen4 rfl rfl
  have I5 := gen_start (A' := AL) (gs := .fresh (.compStart (.GeneratorExp elt [⟨tg, iter, ifs, 0⟩] scope pos) 0 (.ref it) .none ce)) (tk := s3.toks + 1 + 1 + 1)
    (og := { cls := .type "generator", data := .fields #[.int s3.gens.size 0, .str "<genexpr>" (s3.toks + 1), .str (X.env.qual ++ "<genexpr>") (s3.toks + 1 + 1)] }) I3 ok hN hcell f3 (by rw [hce]; exact hA1) hA2 hns hk hz rfl (fun v z => by cases z) rfl
  have pg := hg AL s3 H2 s3.heap.objs.size (cloFrom X.env.cells scope.names []) code fp hRA
  have pt := ht AL s3 H2 s3.heap.objs.size (cloFrom X.env.cells scope.names []) code fp hRA
  have pe := he AL s3 H2 s3.heap.objs.size (cloFrom X.env.cells scope.names []) code fp hRA
  rw [hce] at I5 pg pt pe
  have hcs : ce.scope.isCoroutine = false := by rw [← hce]; exact hco
  have hog : ∀ h : Heap, (∀ p ∈ [(h'.objs.size, ({ cls := .type "generator", data := .fields #[.int s3.gens.size 0, .str "<genexpr>" (s3.toks + 1), .str (X.env.qual ++ "<genexpr>") (s3.toks + 1 + 1)] } : Obj))], h.get? p.1 = some p.2) → h.IsGen h'.objs.size s3.gens.size := fun h hp =>
    ⟨_, _, _, hp _ List.mem_cons_self, rfl, rfl, rfl⟩
  have hap : ∀ p ∈ [(h'.objs.size, ({ cls := .type "generator", data := .fields #[.int s3.gens.size 0, .str "<genexpr>" (s3.toks + 1), .str (X.env.qual ++ "<genexpr>") (s3.toks + 1 + 1)] } : Obj))], ∀ b ∈ fp, p.1 ≠ b := fun p hp b hb z => by
    have e := List.mem_singleton.mp hp
    subst e
    have h1 := (f3 b hb).2
    have h2 : h'.objs.size = b := z
    rw [← h2, hz] at h1
    exact absurd h1 (Nat.not_lt.mpr (Nat.le_succ _))
  have st5 : tn 0 (h'.push { cls := .type "generator", data := .fields #[.int s3.gens.size 0, .str "<genexpr>" (s3.toks + 1), .str (X.env.qual ++ "<genexpr>") (s3.toks + 1 + 1)] }) := T.keep _ _ _ st3 fun b _ o e => Heap.get?_push_of_some _ (hk b o e)
  have T' : Turn (X.gen AL s3 H2 ce fp).prog (X.gen AL s3 H2 ce fp).w (X.gen AL s3 H2 ce fp).K tg J fp it tn := T
  have hYA : (X.gen AL s3 H2 ce fp).A = X.A.in1.in1.in1.in1.over (.compLoop (.GeneratorExp elt [⟨tg, iter, ifs, 0⟩] scope pos) 0 (.ref it) .none (X.gen AL s3 H2 ce fp).env) [] := hA.symm
  have pin5 : ∀ p ∈ [(h'.objs.size, ({ cls := .type "generator", data := .fields #[.int s3.gens.size 0, .str "<genexpr>" (s3.toks + 1), .str (X.env.qual ++ "<genexpr>") (s3.toks + 1 + 1)] } : Obj))], (h'.push { cls := .type "generator", data := .fields #[.int s3.gens.size 0, .str "<genexpr>" (s3.toks + 1), .str (X.env.qual ++ "<genexpr>") (s3.toks + 1 + 1)] }).get? p.1 = some p.2 := fun p hp => by
    have e := List.mem_singleton.mp hp
    subst e
    exact Heap.get?_push_size _ rfl
  refine fin (X.gen AL s3 H2 ce fp) fp tn _ W _ s3.gens.size (m0 + 1) _ rfl rfl hog (hog _ pin5) (fun s2 k2 o2 g2 l2 => ?_) fun s'' σ'' H'' I'' => ?_
  · have hS0 : H2 ((h'.push { cls := .type "generator", data := .fields #[.int s3.gens.size 0, .str "<genexpr>" (s3.toks + 1), .str (X.env.qual ++ "<genexpr>") (s3.toks + 1 + 1)] }).objs.size) = none := I5.hok.fresh (Nat.le_refl _)
    have hSf : (h'.push { cls := .type "generator", data := .fields #[.int s3.gens.size 0, .str "<genexpr>" (s3.toks + 1), .str (X.env.qual ++ "<genexpr>") (s3.toks + 1 + 1)] }).objs.size ∉ fp := fun hb => by
      have h1 := (f3 _ hb).2
      rw [Heap.size_push, hz] at h1
      exact Nat.lt_irrefl _ (Nat.lt_trans (Nat.lt_trans (Nat.lt_succ_self _) (Nat.lt_succ_self _)) h1)
    have hSo : ∀ H' : Hp, H' ((h'.push { cls := .type "generator", data := .fields #[.int s3.gens.size 0, .str "<genexpr>" (s3.toks + 1), .str (X.env.qual ++ "<genexpr>") (s3.toks + 1 + 1)] }).objs.size) = none → FpOk (X.gen AL s3 H2 ce fp) [(h'.objs.size, ({ cls := .type "generator", data := .fields #[.int s3.gens.size 0, .str "<genexpr>" (s3.toks + 1), .str (X.env.qual ++ "<genexpr>") (s3.toks + 1 + 1)] } : Obj))] H' ((h'.push { cls := .type "generator", data := .fields #[.int s3.gens.size 0, .str "<genexpr>" (s3.toks + 1), .str (X.env.qual ++ "<genexpr>") (s3.toks + 1 + 1)] }).objs.size) := fun H' hn => I5.fpOk (Nat.le_refl _) hn
    have b2 : AllBare s2.gens := by rw [g2]; exact I5.bare
    have I6 : Inv (X.gen AL s3 H2 ce fp) [(h'.objs.size, ({ cls := .type "generator", data := .fields #[.int s3.gens.size 0, .str "<genexpr>" (s3.toks + 1), .str (X.env.qual ++ "<genexpr>") (s3.toks + 1 + 1)] } : Obj))] (wipe σ (own.map (·.2))) H2 s2 := (I5.kept (h' := s2.heap) (t' := 0) k2).asHeap rfl o2 b2
    have st6 : tn 0 s2.heap := T.keep _ _ _ st5 fun b _ o e => k2 b o e
    refine ⟨⟨#[], [], 0, m0, Nat.lt_succ_self _, l2, .nil, H2, I6, st6, fun b hb => (f3 b hb).1.1, hS0, w0⟩, hog _ fun p hp => k2 _ _ (pin5 p hp), b2, .fresh (.compStart (.GeneratorExp elt [⟨tg, iter, ifs, 0⟩] scope pos) 0 (.ref it) .none ce), by rw [g2]; exact Array.getElem?_push_size .., rfl, ?_⟩
    refine gen_begin (Y := X.gen AL s3 H2 ce fp) (A := X.A.in1.in1.in1.in1) (m := m0) (s := s2.setGen s3.gens.size .running) hYA T' st6 ?_
    exact tgen_loop (Y := X.gen AL s3 H2 ce fp) (A := X.A.in1.in1.in1.in1) (σ := σ) (QE := QE) hYA rfl hcs rfl rfl rfl T' pg pt pe hap hSf hSo turn (m0 + 1) m0 [] 0 _ _ #[] (Nat.lt_succ_self _) ⟨H2, I6.asHeap rfl rfl (mem_setGen b2 rfl), st6, fun b hb => (f3 b hb).1.1, hS0, w0⟩ l2 l2 .nil
  · exact I3.call' (ch := fp) I''.os I''.base I''.hok I''.bare fun b hb => ⟨(f3 b hb).1.2.2.2.1, (f3 b hb).1.2.1, (f3 b hb).1.2.2.2.2.1, (f3 b hb).1.2.2.2.2.2⟩
theorem pe_tupG {elt tg iter : Expr} {ifs : List Expr} {scope : Scope} {own : List (Str × Nat)} {gpos p pos : Pos} {wi : TI} {g : TG} {tt : TT} {te : TE} {c P : Addr} {k : Nat}
    (hc : X.calm = true) (hN : X.N.Nodup) (ck : CodeK X.K X.env.code c P) (hbm : ∃ bm ob, BMod X.base mainGlobals X.mg bm ob) (hr : Room (k + 1) X.A) (hgl : Gl X "tuple") (hm : X.mg "tuple" = none) (hi : PI X tg iter wi) (ok : BlkOk X.N X.env.scope scope own)
    (hcell : scope.names.all (fun y => y.2 != .cell) = true) (h0 : scope.names.lookup (".0" : Str) = some .local) (hco : scope.isCoroutine = false)
    (hg : ∀ (A' : Around) (s : Shared) (H : Hp) (C : Addr) (cl : List (Str × Addr)) (code : Value) (fp : List Addr), Room k A' → PG (X.gen A' s H (genEnv scope cl C code builtinsNs X.env) fp) tg g)
    (ht : ∀ (A' : Around) (s : Shared) (H : Hp) (C : Addr) (cl : List (Str × Addr)) (code : Value) (fp : List Addr), Room k A' → PTs (X.gen A' s H (genEnv scope cl C code builtinsNs X.env) fp) ifs tt)
    (he : ∀ (A' : Around) (s : Shared) (H : Hp) (C : Addr) (cl : List (Str × Addr)) (code : Value) (fp : List Addr), Room k A' → PE (X.gen A' s H (genEnv scope cl C code builtinsNs X.env) fp) elt te)
    (hs : ∀ x, genFold iter X.env x = pure x := by intro _; rfl) :
    PE X (.Call (.Name "tuple" p) [.GeneratorExp elt [⟨tg, iter, ifs, 0⟩] scope gpos] [] pos) (tTupG P wi g tt te (own.map (·.2))) := by
  intro pins s σ H Q I h
  have hcell' : ∀ y ∈ scope.names, y.2 ≠ .cell := fun y hy z => by
    have := List.all_eq_true.mp hcell y hy
    rw [z] at this
    exact absurd this (by decide)
  refine wpAny_Call_Name_kw (ld_blt I hgl hm bt_tuple ?_)
  refine PyProof.Rows.callWith_type1 ?_ rfl rfl
  show wpAny _ _ (spliced ((false, eval (.GeneratorExp elt [⟨tg, iter, ifs, 0⟩] scope gpos) X.env) :: backTo pos (starEach [] X.env))) _ _ s
  refine Calls.spliced_cons ?_
  refine gen_coreT (QE := fun acc H => acc.length ≤ sizeLine ∧ ∀ p, H p = none → Q (.ref p) (upd H p (.tup acc))) hc hN I hi ok hcell' h0 hco ck hbm hr hg ht he hs h fun Y fp tn pn W a gn n s' e1 e2 hog hg0 start back => ?_
  refine Calls.spliced_nil ?_
  rw [← e1, ← e2]
  refine call_tupG (Y := Y) (A := X.A) (I.ok.hd hc) hr.depth hog hg0 start (fun acc H q => q.1) fun s'' us acc H'' hv I'' q => ?_
  have I2 := back _ _ _ I''
  have lv := hv.length
  have lz : us.toList.length = us.size := by simp
  have ev : us.toList.toArray = us := by simp
  have I3 : Inv X pins σ (upd H'' s''.heap.objs.size (.tup acc)) { s'' with heap := s''.heap.push { cls := .type "tuple", data := .seq us } } :=
    I2.laid (t' := s''.toks) (fun b o e => Heap.get?_push_of_some _ e) (Nat.le_refl _) (show ObjOk X.prog X.w _ _ _ (.tup acc) from ⟨q.1, us.toList, hv, by have z := IsTup.new s''.heap us; rw [ev]; exact z⟩)
  exact ⟨.ref s''.heap.objs.size, _, I3, rfl, q.2 _ (I2.hok.fresh (Nat.le_refl _))⟩
/-- f( *e ), e a tuple -/
def tCallS (K : PySem.W.Frag) (sp : Sp) (te : TE) : TE := fun σ H Q => te σ H fun x H1 => ∃ a xs, x = .ref a ∧ SqT K H1 a xs ∧ tCall sp [] E0 (fun _ H2 Q2 => Q2 xs H2) σ H1 Q
theorem pe_callS {K : PySem.W.Frag} {k j : Nat} {x : Str} {ps : List Str} {sp : Sp} {p pos p2 : Pos} {e : Expr} {te : TE} (C : Cal X.prog X.w X.K X.mg X.base k x ps sp) (hr : Room j X.A) (hj : k ≤ j) (hg : Gl X x) (hK : X.K = K) (ha : PE X e te) (hdb : (x == ("__debug__" : Str)) = false := by decide) :
    PE X (.Call (.Name x p) [.Starred e p2] [] pos) (tCallS K sp te) := by
  subst hK
  obtain ⟨f, fd, FF, m, kk, b⟩ := C.ex
  intro pins s σ H Q I h
  refine wpAny_Call_Name_kw (ld_glob I hg m ?_ hdb)
  refine PySem.W.callWith_S (h₀ := X.base) I.ok.mod.kin kk (thn (ha pins s σ H _ I h) fun u s1 ⟨v, H1, I1, r, a, xs, e, sq, q⟩ => ?_)
  subst e
  cases r
  obtain ⟨its, rv, ⟨o, ho, hc, n, hd⟩, hz⟩ := I1.tuple sq
  have lz := rv.length
  have z : wpAny (model X.prog X.w) X.A (collect (.ref a)) (fun vs s₂ => X.K.In s₂.heap ∧ wpAny (model X.prog X.w) X.A (call (.ref f) ([] ++ vs)) (EP X pins σ Q) X.xe s₂) X.xe s1 := by
    refine wpAny_collect_seq a (.inr rfl) ho hc hd (fun h' hk => ?_) (by simp only [List.size_toArray]; omega)
    have I2 : Inv X pins σ H1 { s1 with heap := h' } := I1.kept (t' := s1.toks) hk
    exact ⟨I2.kIn, run_fn FF (hr.mono hj) b .nil pass0 I2 (by simpa using rv) q⟩
  have hT' : s1.TypeIs (.ref a) "tuple" := ⟨o, ho, hc⟩
  unfold PySem.W.StarOf notIterableAtAll
  exact wpAny_bind (wpAny_specialOf hT' PySem.F.slot_tuple_iter.lookup (wpAny_pure ⟨rfl, z⟩))
end
/-! readings -/
def TnJ (J : It) (g : TG) (tt : TT) (te : TE) (vs : List Nat) (σ : St) (H1 : Hp) (Q : VK) : Prop := ∃ W : List V → Nat → Nat → Hp → Prop, (∃ m, W [] 0 m H1) ∧ ∀ acc i m H, W acc i m H →
  (J.stop i H ∧ acc.length ≤ sizeLine ∧ ∀ p, H p = none → Q (.ref p) (upd H p (.tup acc))) ∨ (J.go i H ∧ ∃ Nx : List V → Hp → Prop, (∀ ac H', Nx ac H' → ∃ m', m' < m ∧ W ac (i + 1) m' H') ∧ ∀ x H', J.yld i H x H' → g x (wipe σ vs) H' fun σ2 H2 => wipe σ2 vs = wipe σ vs ∧ tt σ2 H2 fun b H3 =>
    if b = true then te σ2 H3 fun y H4 => acc.length < sizeLine ∧ Nx (acc ++ [y]) H4 else Nx acc H3)
section
variable {K : PySem.W.Frag} {P : Addr} {g : TG} {tt : TT} {te : TE} {vs : List Nat} {σ : St} {H : Hp} {Q : VK}
theorem tTupG_tup {tl : TE} : tTupG P (iTup K tl) g tt te vs σ H Q = tl σ H fun x H1 => ∃ a, x = .ref a ∧ (∃ xs, SqT K H1 a xs) ∧ H1 P = some (.ext (Tbl P)) ∧ TnJ (Itt K a) g tt te vs σ H1 Q := rfl
theorem tTupG_list {tl : TE} : tTupG P (iList K tl) g tt te vs σ H Q = tl σ H fun x H1 => ∃ a, x = .ref a ∧ (∃ xs, SqL K H1 a xs) ∧ H1 P = some (.ext (Tbl P)) ∧ TnJ (Itl K a) g tt te vs σ H1 Q := rfl
theorem tTupG_rng1 {ta : TA} : tTupG P (iRng1 ta) g tt te vs σ H Q = ta σ H fun us H1 => ∃ j : Int, us = [.int j] ∧ -(2 ^ 62) ≤ j ∧ j < 2 ^ 62 ∧ H1 P = some (.ext (Tbl P)) ∧ TnJ (Itr 0 j.toNat) g tt te vs σ H1 Q := rfl
theorem tCallS_rd {sp : Sp} : tCallS K sp te σ H Q = te σ H fun x H1 => ∃ a xs, x = .ref a ∧ SqT K H1 a xs ∧ tCall sp [] E0 (fun _ H2 Q2 => Q2 xs H2) σ H1 Q := rfl
theorem tnT {a : Addr} {xs : List V} (Pv : List V → Nat → Hp → Prop) (hz : xs.length ≤ sizeLine) (h0 : Pv [] 0 H) (hl : ∀ acc i H, i ≤ xs.length → Pv acc i H → SqT K H a xs)
    (hs : ∀ acc i x H (Nx : V → Hp → Prop) (No : Hp → Prop), xs[i]? = some x → Pv acc i H → (∀ y H', Pv (acc ++ [y]) (i + 1) H' → Nx y H') → (∀ H', Pv acc (i + 1) H' → No H') →
      g x (wipe σ vs) H fun σ2 H2 => wipe σ2 vs = wipe σ vs ∧ tt σ2 H2 fun b H3 => if b = true then te σ2 H3 fun y H4 => Nx y H4 else No H3)
    (hd : ∀ acc H, Pv acc xs.length H → ∀ p, H p = none → Q (.ref p) (upd H p (.tup acc))) : TnJ (Itt K a) g tt te vs σ H Q := by
  refine ⟨fun acc i m H => m = xs.length - i ∧ i ≤ xs.length ∧ acc.length ≤ i ∧ Pv acc i H, ⟨xs.length, by simp, Nat.zero_le _, Nat.zero_le _, h0⟩, ?_⟩
  rintro acc i m H ⟨rfl, hi, ha, p⟩
  have q := hl acc i H hi p
  by_cases hlt : i < xs.length
  · refine .inr ⟨⟨xs, xs[i], q, by simp [hlt]⟩, fun ac H' => ac.length ≤ i + 1 ∧ Pv ac (i + 1) H', fun ac H' p' => ⟨xs.length - (i + 1), by omega, rfl, hlt, p'⟩, fun x H' y => ?_⟩
    obtain ⟨e, y⟩ := y
    subst e
    exact hs acc i x _ (fun y H4 => acc.length < sizeLine ∧ (acc ++ [y]).length ≤ i + 1 ∧ Pv (acc ++ [y]) (i + 1) H4) (fun H3 => acc.length ≤ i + 1 ∧ Pv acc (i + 1) H3) (y xs q) p (fun y H' p' => ⟨by omega, by simp only [List.length_append, List.length_singleton]; omega, p'⟩) fun H' p' => ⟨by omega, p'⟩
  · have e : i = xs.length := by omega
    subst e
    exact .inl ⟨⟨xs, q, Nat.le_refl _⟩, by omega, hd acc H p⟩
end
end L2
end
set_option Elab.async false
set_option linter.all false
set_option maxRecDepth 100000
namespace My
open PySem L2 PySem.Spec PyProof.Rows
def top (i : Nat) : Stmt := PySem.Challenge.pw_likeshards_k60_signed_sums.main.body.getD i (.Pass ⟨0, 0, 0, 0⟩)
local macro_rules | `(tactic| walk_at "vc") => `(tactic| simp only [tSeq, tAsg, tCB, tCons, tNil, tVar, tC, gName, tOp, tUn, rI_ii, rI0_ii, rU_i, add_ii, im2, cp10_7, cp10_8, cp10_9, cp10_14, cp10_18, cp10_26, cp10_27, cp10_28, cp10_29, cp10_30, Int.reducePow, Int.reduceToNat, Int.reduceMul, Int.reduceSub, Int.reduceAdd, Int.reduceNeg, cx_K, tTest, tB, tNot, tAnd, tOr, tAndV, tOrV, tNotV, tIfS, tRet, tRetN, tRaise, tTry, tCallT, tNext, tCont, tDrop, tPar, tPar3, tAug, tTup_new, tLst_new, tCall, tSl, tPart, tNoPart, rSlL, tFor_list, tFor_tup, tLc_tup, tGen_rng1, tGen_rng2, tGen_list, tGen_tup, tFor_zip, tRev, cp10_13, cp10_6, cp10_20, cp10_22, tSt2, tTry2, tRaise2, tRaiseF, tCallV, cp10_21, cp10_16, tFor_enum, cp10_25, tFor_enumT, tLc_enumT, tLc_enum, tTupG_tup, tTupG_list, tTupG_rng1, tCallS_rd, tFor_rng1, tFor_rng2, tLc_rng1, tLc_rng2, tLc_list, tBM, tYes, wipe, List.map_cons, List.map_nil, gCons, gNil, gSub, List.nil_append, List.append_nil, List.cons_append, List.getElem?_cons_zero, List.getElem?_cons_succ, Option.some.injEq, exists_eq_left', exists_eq_left, exists_and_left, List.cons.injEq, V.int.injEq, V.ref.injEq, V.bl.injEq, and_true, true_and, List.set, and_assoc, reduceIte, ↓reduceIte, Bool.false_eq_true, Bool.not_true, Bool.not_false, beq_self_eq_true, if_true, if_false])
local macro_rules | `(tactic| walk_at "sz") => `(tactic| (simp only [List.length_cons, List.length_nil, List.length_append]; decide))
local macro_rules | `(tactic| walk_at "rp1") => `(tactic| first | exact Rp.int _ | exact Rp.bl _ | exact Rp.non | exact Rp.str _ | assumption | (refine Rp.up (H := _) ?_ (by assumption); walk_at "kp"))
local macro_rules | `(tactic| walk_at "rps") => `(tactic| first | exact RpAll.nil | exact RpAll.cons (by walk_at "rp1") (RpAll.nil) | exact RpAll.cons (by walk_at "rp1") (RpAll.cons (by walk_at "rp1") (RpAll.nil)) | exact RpAll.cons (by walk_at "rp1") (RpAll.cons (by walk_at "rp1") (RpAll.cons (by walk_at "rp1") (RpAll.nil))) | exact RpAll.cons (by walk_at "rp1") (RpAll.cons (by walk_at "rp1") (RpAll.cons (by walk_at "rp1") (RpAll.cons (by walk_at "rp1") (RpAll.nil)))) | exact RpAll.cons (by walk_at "rp1") (RpAll.cons (by walk_at "rp1") (RpAll.cons (by walk_at "rp1") (RpAll.cons (by walk_at "rp1") (RpAll.cons (by walk_at "rp1") (RpAll.nil))))) | exact RpAll.cons (by walk_at "rp1") (RpAll.cons (by walk_at "rp1") (RpAll.cons (by walk_at "rp1") (RpAll.cons (by walk_at "rp1") (RpAll.cons (by walk_at "rp1") (RpAll.cons (by walk_at "rp1") (RpAll.nil)))))) | exact RpAll.cons (by walk_at "rp1") (RpAll.cons (by walk_at "rp1") (RpAll.cons (by walk_at "rp1") (RpAll.cons (by walk_at "rp1") (RpAll.cons (by walk_at "rp1") (RpAll.cons (by walk_at "rp1") (RpAll.cons (by walk_at "rp1") (RpAll.nil))))))) | exact RpAll.cons (by walk_at "rp1") (RpAll.cons (by walk_at "rp1") (RpAll.cons (by walk_at "rp1") (RpAll.cons (by walk_at "rp1") (RpAll.cons (by walk_at "rp1") (RpAll.cons (by walk_at "rp1") (RpAll.cons (by walk_at "rp1") (RpAll.cons (by walk_at "rp1") (RpAll.nil)))))))) | exact RpAll.cons (by walk_at "rp1") (RpAll.cons (by walk_at "rp1") (RpAll.cons (by walk_at "rp1") (RpAll.cons (by walk_at "rp1") (RpAll.cons (by walk_at "rp1") (RpAll.cons (by walk_at "rp1") (RpAll.cons (by walk_at "rp1") (RpAll.cons (by walk_at "rp1") (RpAll.cons (by walk_at "rp1") (RpAll.nil))))))))) | exact RpAll.cons (by walk_at "rp1") (RpAll.cons (by walk_at "rp1") (RpAll.cons (by walk_at "rp1") (RpAll.cons (by walk_at "rp1") (RpAll.cons (by walk_at "rp1") (RpAll.cons (by walk_at "rp1") (RpAll.cons (by walk_at "rp1") (RpAll.cons (by walk_at "rp1") (RpAll.cons (by walk_at "rp1") (RpAll.cons (by walk_at "rp1") (RpAll.nil)))))))))) | exact RpAll.cons (by walk_at "rp1") (RpAll.cons (by walk_at "rp1") (RpAll.cons (by walk_at "rp1") (RpAll.cons (by walk_at "rp1") (RpAll.cons (by walk_at "rp1") (RpAll.cons (by walk_at "rp1") (RpAll.cons (by walk_at "rp1") (RpAll.cons (by walk_at "rp1") (RpAll.cons (by walk_at "rp1") (RpAll.cons (by walk_at "rp1") (RpAll.cons (by walk_at "rp1") (RpAll.nil))))))))))) | exact RpAll.cons (by walk_at "rp1") (RpAll.cons (by walk_at "rp1") (RpAll.cons (by walk_at "rp1") (RpAll.cons (by walk_at "rp1") (RpAll.cons (by walk_at "rp1") (RpAll.cons (by walk_at "rp1") (RpAll.cons (by walk_at "rp1") (RpAll.cons (by walk_at "rp1") (RpAll.cons (by walk_at "rp1") (RpAll.cons (by walk_at "rp1") (RpAll.cons (by walk_at "rp1") (RpAll.cons (by walk_at "rp1") (RpAll.nil)))))))))))) | exact RpAll.cons (by walk_at "rp1") (RpAll.cons (by walk_at "rp1") (RpAll.cons (by walk_at "rp1") (RpAll.cons (by walk_at "rp1") (RpAll.cons (by walk_at "rp1") (RpAll.cons (by walk_at "rp1") (RpAll.cons (by walk_at "rp1") (RpAll.cons (by walk_at "rp1") (RpAll.cons (by walk_at "rp1") (RpAll.cons (by walk_at "rp1") (RpAll.cons (by walk_at "rp1") (RpAll.cons (by walk_at "rp1") (RpAll.cons (by walk_at "rp1") (RpAll.nil))))))))))))))
local macro_rules | `(tactic| walk_at "isi") => `(tactic| first
  | ((with_reducible refine' isi_bl ?k))
  | ((with_reducible refine' isi_int ?h ?k); (case h => walk_at "rp1"))
  | ((with_reducible refine' isi_bool ?h ?k); (case h => walk_at "rp1"))
  | ((with_reducible refine' isi_tup ?h ?k); (case h => walk_at "rp1"))
  | ((with_reducible refine' isi_lst ?h ?k); (case h => walk_at "rp1")))
local macro_rules | `(tactic| walk_at "ntT") => `(tactic| ((with_reducible refine' newTR ?h1 ?h2 ?h3 ?k); (case h1 => walk_at "row"); (case h2 => walk_at "rps"); (case h3 => exact Nat.le_of_ble_eq_true rfl); intro _ _ _ _ _))
local macro_rules | `(tactic| walk_at "nt") => `(tactic| first
  | ((with_reducible refine' newTR ?h1 ?h2 ?h3 ?k); (case h1 => walk_at "row"); (case h2 => walk_at "rps"); (case h3 => exact Nat.le_of_ble_eq_true rfl); intro _ _ _ _ _)
  | ((with_reducible refine' newLR ?h1 ?h2 ?h3 ?k); (case h1 => walk_at "row"); (case h2 => walk_at "rps"); (case h3 => exact Nat.le_of_ble_eq_true rfl); intro _ _ _ _ _)
  | ((with_reducible refine' catR ?h1 ?h2 ?h4 ?h3 ?k); (case h1 => walk_at "row"); (case h2 => walk_at "rp1"); (case h4 => walk_at "rp1"); (case h3 => exact Nat.le_of_ble_eq_true rfl); intro _ _ _ _ _))
local macro_rules | `(tactic| walk_at "ix") => `(tactic| first
  | ((with_reducible refine' ix_fr0 ?h ?k); (case h => walk_at "fr"))
  | ((with_reducible refine' ix_fr1 ?h ?k); (case h => walk_at "fr"))
  | ((with_reducible refine' ix_ti0 ?h ?k); (case h => walk_at "fr"))
  | ((with_reducible refine' ix_ti1 ?h ?k); (case h => walk_at "fr"))
  | ((with_reducible refine' ix_sp0 ?h ?k); (case h => walk_at "fr"); intro _ _)
  | ((with_reducible refine' ix_sp1 ?h ?k); (case h => walk_at "fr"); intro _ _))
local macro_rules | `(tactic| walk_at "nb") => `(tactic| (with_reducible refine' not_b ?_))
local macro_rules | `(tactic| walk_at "ns") => `(tactic| ((with_reducible refine' newS ?h1 ?h2 ?k); (case h1 => walk_at "fr"); (case h2 => walk_at "fr"); intro _ _ _ _))
local macro_rules | `(tactic| walk_at "eqs") => `(tactic| first | (with_reducible refine' eq_i ?_) | (with_reducible refine' ne_i ?_) | (with_reducible refine' eq_b ?_) | (with_reducible refine' ne_b ?_))
local macro_rules | `(tactic| walk_at "go") => `(tactic| repeat (first | walk_at "ix" | walk_at "eqs" | walk_at "nb" | walk_at "isi" | walk_at "call" | walk_at "vc"))
local macro_rules | `(tactic| walk_at "same") => `(tactic| first | exact Same.refl _ | assumption | (refine Same.trans ?_ (same_upd (by assumption)); walk_at "same") | (refine Same.trans (H1 := _) ?_ (by assumption); walk_at "same"))
local macro_rules | `(tactic| walk_at "tk") => `(tactic| first | exact Tk.refl _ | assumption | (refine Tk.trans ?_ (Same.tk (same_upd (by assumption))); walk_at "tk") | (refine Tk.trans (H1 := _) ?_ (Same.tk (by assumption)); walk_at "tk") | (refine Tk.trans (H1 := _) ?_ (by assumption); walk_at "tk"))
local macro_rules | `(tactic| walk_at "kp") => `(tactic| first | exact Kp.refl _ | assumption | (refine Kp.trans ?_ (Same.kp (same_upd (by assumption))); walk_at "kp") | (refine Kp.trans (H1 := _) ?_ (Same.kp (by assumption)); walk_at "kp") | (refine Kp.trans (H1 := _) ?_ (by assumption); walk_at "kp"))
local macro_rules | `(tactic| walk_at "frle") => `(tactic| first | ((refine' Fr.le ?_ (by assumption)); omega) | ((refine' Spt.le ?_ (by assumption)); omega) | ((refine' Fr.le ?_ (Fr.tk ?_ (by assumption))); (walk_at "tk"); omega))
local macro_rules | `(tactic| walk_at "row") => `(tactic| first | assumption | (refine Row.mono (H := _) ?_ (by assumption); walk_at "same"))
local macro_rules | `(tactic| walk_at "fr") => `(tactic| first | assumption | (refine Fr.tk (H := _) ?_ (by assumption); walk_at "tk") | (refine Spt.tk (H := _) ?_ (by assumption); walk_at "tk") | (refine TupI.tk (H := _) ?_ (by assumption); walk_at "tk"))

section
variable {P : Program} {w : World} {K : PySem.W.Frag} {mg : Str → Option Value} {base : Heap} {tbs : List Addr}
abbrev s_divisor : Stmt := top 1
theorem sc_divisor : FnScope ["one", "other", "rest", "by"] ["one", "other"] (defScope s_divisor) := ⟨rfl, rfl, rfl, by decide +kernel, rfl, by decide +kernel, by decide +kernel⟩
def sp_divisor : Sp := fun vs H Q _ => ∃ a b : Int, vs = [.int a, .int b] ∧ Q (.int (a.natAbs.gcd b.natAbs : Nat)) H
set_option maxHeartbeats 4000000 in
theorem ok_divisor {f : Addr} {fd : FuncData} (F : Fun K "divisor" "divisor" s_divisor f fd) (m : mg "divisor" = some (.ref f)) (b : Binds K fd ["one", "other"] []) (z_abs : mg "abs" = none) : Cal P w K mg base 1 "divisor" ["one", "other"] sp_divisor := by
  refine cal_ofW F sc_divisor m b (fun vs H Q E h => ?_) (fun cdv A outer s H vs Q E hr h => ?_)
  · obtain ⟨a, b, rfl, _⟩ := h
    rfl
  · obtain ⟨a, b, rfl, k⟩ := h
    refine ⟨_, (wss_cons ⟨(ps_set (i := 2) sc_divisor.nd rfl (by first | exact Or.inl rfl | exact Or.inr rfl) (pe_callB call_abs (by rfl) z_abs bt_abs (pa_cons (pv 0) pa_nil se_Name)))⟩
        (wss_cons ⟨(ps_set (i := 3) sc_divisor.nd rfl (by first | exact Or.inl rfl | exact Or.inr rfl) (pe_callB call_abs (by rfl) z_abs bt_abs (pa_cons (pv 1) pa_nil se_Name)))⟩
        (wss_cons (ws_while PassesOwn.never (pt_cmpR op_gt (pv 3) pe_int (nomark _)) (wss_one ⟨(ps_par (i := 2) (j := 3) (by rfl) sc_divisor.nd rfl rfl (by decide) rfl rfl (pa_cons (pv 3) (pa_cons (pe_op op_modN (pv 2) (pv 3)) pa_nil se_BinOp) se_Name) (by rfl))⟩))
        (wss_one ⟨(ps_ret (pv 2))⟩)))), ?_⟩
    have e : start ["one", "other", "rest", "by"] [V.int a, V.int b] = [some (V.int a), some (V.int b), none, none] := rfl
    rw [e]
    walk_at "vc"
    refine while_by (fun σ H1 => ∃ r y : Int, σ = [some (V.int a), some (V.int b), some (V.int r), some (V.int y)] ∧ H1 = H ∧ 0 ≤ r ∧ 0 ≤ y ∧ r.natAbs.gcd y.natAbs = a.natAbs.gcd b.natAbs)
      (fun σ _ => match σ[3]? with | some (some (V.int y)) => y.toNat | _ => 0) ⟨_, _, rfl, rfl, by split <;> omega, by split <;> omega, gcd_abs a b⟩ ?_ ?_
    · rintro σ H1 ⟨r, y, rfl, rfl, h1, h2, h3⟩
      walk_at "vc"
      refine ite_d (fun c => ?_) (fun c => ?_)
      · refine ⟨by omega, h2, ?_, ?_, ?_⟩
        · exact Int.fmod_nonneg_of_pos _ c
        · rw [← h3]; exact gcd_turn h1 c
        · show (r.fmod y).toNat < y.toNat
          have := Int.fmod_lt_of_pos r c
          omega
      · have e : y = 0 := by omega
        subst e
        have e2 : (r.natAbs : Int) = r := by omega
        rw [Int.natAbs_zero, Nat.gcd_zero_right] at h3
        rw [← h3, e2] at k
        exact k
    · exact gt_mono
abbrev s_in_lowest : Stmt := top 2
theorem sc_in_lowest : FnScope ["top", "bottom", "shared"] ["top", "bottom"] (defScope s_in_lowest) := ⟨rfl, rfl, rfl, by decide +kernel, rfl, by decide +kernel, by decide +kernel⟩
def sp_in_lowest : Sp := fun vs H Q _ => ∃ (a b : Int) (n : Nat), vs = [.int a, .int b] ∧ b ≠ 0 ∧ a.natAbs < 2 ^ n ∧ b.natAbs < 2 ^ n ∧ n ≤ 8000 ∧ ∀ v H', Same H H' → Fr n H' v (Rat.divInt a b) → Q v H'
set_option maxHeartbeats 4000000 in
theorem ok_in_lowest {f : Addr} {fd : FuncData} (F : Fun K "in_lowest" "in_lowest" s_in_lowest f fd) (m : mg "in_lowest" = some (.ref f)) (b : Binds K fd ["top", "bottom"] []) (C_divisor : Cal P w K mg base 1 "divisor" ["one", "other"] sp_divisor) : Cal P w K mg base 2 "in_lowest" ["top", "bottom"] sp_in_lowest := by
  refine cal_ofW F sc_in_lowest m b (fun vs H Q E h => ?_) (fun cdv A outer s H vs Q E hr h => ?_)
  · obtain ⟨a, b, n, rfl, _⟩ := h
    rfl
  · obtain ⟨a, b, n, rfl, hb, h1, h2, hn, k⟩ := h
    refine ⟨_, (wss_cons ⟨(ps_set (i := 2) sc_in_lowest.nd rfl (by first | exact Or.inl rfl | exact Or.inr rfl) (pe_callC C_divisor hr (by decide) (by rfl) (pa_cons (pv 0) (pa_cons (pv 1) pa_nil se_Name) se_Name) (by decide) se_Name (se_any rfl)))⟩
        (wss_cons (ws_if (pt_cmpR op_lt (pv 1) pe_int (nomark _)) (wss_one ⟨(ps_set (i := 2) sc_in_lowest.nd rfl (by first | exact Or.inl rfl | exact Or.inr rfl) (pe_un un_neg (pv 2)))⟩) wss_nil)
        (wss_one ⟨(ps_ret (pe_tup (pa_cons (pe_op op_fdivB (pv 0) (pv 2)) (pa_cons (pe_op op_fdivB (pv 1) (pv 2)) pa_nil se_BinOp) se_BinOp)))⟩))), ?_⟩
    have e : start ["top", "bottom", "shared"] [V.int a, V.int b] = [some (V.int a), some (V.int b), none] := rfl
    rw [e]
    walk_at "vc"
    refine ⟨a, b, rfl, ?_⟩
    walk_at "vc"
    refine ite_d (fun c => ?_) (fun c => ?_)
    · rw [← sg_neg c]
      exact ⟨div_ok hb h2 hn, div_ok hb h2 hn, by walk_at "sz", fun p hp => k _ _ (same_upd hp) (fr_low hb h1 h2)⟩
    · rw [← sg_pos c]
      exact ⟨div_ok hb h2 hn, div_ok hb h2 hn, by walk_at "sz", fun p hp => k _ _ (same_upd hp) (fr_low hb h1 h2)⟩
abbrev s_added : Stmt := top 3
theorem sc_added : FnScope ["one", "other"] ["one", "other"] (defScope s_added) := ⟨rfl, rfl, rfl, by decide +kernel, rfl, by decide +kernel, by decide +kernel⟩
def sp_added : Sp := fun vs H Q _ => ∃ (x y : V) (q r : Rat) (m n : Nat), vs = [x, y] ∧ Fr m H x q ∧ Fr n H y r ∧ m + n + 1 ≤ 8000 ∧ ∀ v H', Same H H' → Fr (m + n + 1) H' v (q + r) → Q v H'

set_option maxHeartbeats 4000000 in
theorem ok_added {f : Addr} {fd : FuncData} (F : Fun K "added" "added" s_added f fd) (m : mg "added" = some (.ref f)) (b : Binds K fd ["one", "other"] []) (C_in_lowest : Cal P w K mg base 2 "in_lowest" ["top", "bottom"] sp_in_lowest) : Cal P w K mg base 3 "added" ["one", "other"] sp_added := by
  refine cal_ofW F sc_added m b (fun vs H Q E h => ?_) (fun cdv A outer s H vs Q E hr h => ?_)
  · obtain ⟨x, y, q, r, m, n, rfl, _⟩ := h
    rfl
  · obtain ⟨x, y, q, r, m, n, rfl, hx, hy, hmn, k⟩ := h
    refine ⟨_, (wss_one ⟨(ps_ret (pe_callC C_in_lowest hr (by decide) (by rfl) (pa_cons (pe_op op_addA (pe_op op_mulB (pe_ix ix_seq (pv 0) pe_int (fun _ _ => rfl)) (pe_ix ix_seq (pv 1) pe_int (fun _ _ => rfl))) (pe_op op_mulB (pe_ix ix_seq (pv 1) pe_int (fun _ _ => rfl)) (pe_ix ix_seq (pv 0) pe_int (fun _ _ => rfl)))) (pa_cons (pe_op op_mulB (pe_ix ix_seq (pv 0) pe_int (fun _ _ => rfl)) (pe_ix ix_seq (pv 1) pe_int (fun _ _ => rfl))) pa_nil se_BinOp) se_BinOp) (by decide) se_BinOp (se_any rfl)))⟩), ?_⟩
    have e : start ["one", "other"] [x, y] = [some x, some y] := rfl
    rw [e]
    walk_at "vc"
    refine ix_fr0 hx ?_
    refine ix_fr1 hy ?_
    walk_at "vc"
    refine ⟨mulOk hx.nb (den_bd hy.db) (by omega), ?_⟩
    refine ix_fr0 hy ?_
    refine ix_fr1 hx ?_
    walk_at "vc"
    refine ⟨mulOk hy.nb (den_bd hx.db) (by omega), ?_⟩
    refine ix_fr1 hx ?_
    refine ix_fr1 hy ?_
    walk_at "vc"
    refine ⟨mulOk (den_bd hx.db) (den_bd hy.db) (by omega), ?_⟩
    exact ⟨_, _, m + n + 1, rfl, dd_ne q r, add_bd hx.nb (den_bd hy.db) hy.nb (den_bd hx.db), up_bd (mul_bd (den_bd hx.db) (den_bd hy.db)), hmn, fun v H' s h => k v H' s (by rw [q_add] at h; exact h)⟩
theorem u_added {x y : V} {q r : Rat} {m n : Nat} {H : Hp} {Q : VK} {E : XK} (hx : Fr m H x q) (hy : Fr n H y r) (h : m + n + 1 ≤ 8000) (k : ∀ v H', Same H H' → Fr (m + n + 1) H' v (q + r) → Q v H') : sp_added [x, y] H Q E := ⟨x, y, q, r, m, n, rfl, hx, hy, h, k⟩
local macro_rules | `(tactic| walk_at "call") => `(tactic| ((with_reducible refine' u_added ?h1 ?h2 ?h3 ?k); (case h1 => walk_at "fr"); (case h2 => walk_at "fr"); (case h3 => omega); intro _ _ _ _))

abbrev s_lessened : Stmt := top 4
theorem sc_lessened : FnScope ["one", "other"] ["one", "other"] (defScope s_lessened) := ⟨rfl, rfl, rfl, by decide +kernel, rfl, by decide +kernel, by decide +kernel⟩
def sp_lessened : Sp := fun vs H Q _ => ∃ (x y : V) (q r : Rat) (m n : Nat), vs = [x, y] ∧ Fr m H x q ∧ Fr n H y r ∧ m + n + 1 ≤ 8000 ∧ ∀ v H', Same H H' → Fr (m + n + 1) H' v (q - r) → Q v H'

set_option maxHeartbeats 4000000 in
theorem ok_lessened {f : Addr} {fd : FuncData} (F : Fun K "lessened" "lessened" s_lessened f fd) (m : mg "lessened" = some (.ref f)) (b : Binds K fd ["one", "other"] []) (C_in_lowest : Cal P w K mg base 2 "in_lowest" ["top", "bottom"] sp_in_lowest) : Cal P w K mg base 3 "lessened" ["one", "other"] sp_lessened := by
  refine cal_ofW F sc_lessened m b (fun vs H Q E h => ?_) (fun cdv A outer s H vs Q E hr h => ?_)
  · obtain ⟨x, y, q, r, m, n, rfl, _⟩ := h
    rfl
  · obtain ⟨x, y, q, r, m, n, rfl, hx, hy, hmn, k⟩ := h
    refine ⟨_, (wss_one ⟨(ps_ret (pe_callC C_in_lowest hr (by decide) (by rfl) (pa_cons (pe_op op_sub (pe_op op_mulB (pe_ix ix_seq (pv 0) pe_int (fun _ _ => rfl)) (pe_ix ix_seq (pv 1) pe_int (fun _ _ => rfl))) (pe_op op_mulB (pe_ix ix_seq (pv 1) pe_int (fun _ _ => rfl)) (pe_ix ix_seq (pv 0) pe_int (fun _ _ => rfl)))) (pa_cons (pe_op op_mulB (pe_ix ix_seq (pv 0) pe_int (fun _ _ => rfl)) (pe_ix ix_seq (pv 1) pe_int (fun _ _ => rfl))) pa_nil se_BinOp) se_BinOp) (by decide) se_BinOp (se_any rfl)))⟩), ?_⟩
    have e : start ["one", "other"] [x, y] = [some x, some y] := rfl
    rw [e]
    walk_at "vc"
    refine ix_fr0 hx ?_
    refine ix_fr1 hy ?_
    walk_at "vc"
    refine ⟨mulOk hx.nb (den_bd hy.db) (by omega), ?_⟩
    refine ix_fr0 hy ?_
    refine ix_fr1 hx ?_
    walk_at "vc"
    refine ⟨mulOk hy.nb (den_bd hx.db) (by omega), ?_⟩
    refine ix_fr1 hx ?_
    refine ix_fr1 hy ?_
    walk_at "vc"
    refine ⟨mulOk (den_bd hx.db) (den_bd hy.db) (by omega), ?_⟩
    exact ⟨_, _, m + n + 1, rfl, dd_ne q r, sub_bd hx.nb (den_bd hy.db) hy.nb (den_bd hx.db), up_bd (mul_bd (den_bd hx.db) (den_bd hy.db)), hmn, fun v H' s h => k v H' s (by rw [q_sub] at h; exact h)⟩
theorem u_lessened {x y : V} {q r : Rat} {m n : Nat} {H : Hp} {Q : VK} {E : XK} (hx : Fr m H x q) (hy : Fr n H y r) (h : m + n + 1 ≤ 8000) (k : ∀ v H', Same H H' → Fr (m + n + 1) H' v (q - r) → Q v H') : sp_lessened [x, y] H Q E := ⟨x, y, q, r, m, n, rfl, hx, hy, h, k⟩
local macro_rules | `(tactic| walk_at "call") => `(tactic| ((with_reducible refine' u_lessened ?h1 ?h2 ?h3 ?k); (case h1 => walk_at "fr"); (case h2 => walk_at "fr"); (case h3 => omega); intro _ _ _ _))
abbrev s_multiplied : Stmt := top 5
theorem sc_multiplied : FnScope ["one", "other"] ["one", "other"] (defScope s_multiplied) := ⟨rfl, rfl, rfl, by decide +kernel, rfl, by decide +kernel, by decide +kernel⟩
def sp_multiplied : Sp := fun vs H Q _ => ∃ (x y : V) (q r : Rat) (m n : Nat), vs = [x, y] ∧ Fr m H x q ∧ Fr n H y r ∧ m + n ≤ 8000 ∧ ∀ v H', Same H H' → Fr (m + n) H' v (q * r) → Q v H'

set_option maxHeartbeats 4000000 in
theorem ok_multiplied {f : Addr} {fd : FuncData} (F : Fun K "multiplied" "multiplied" s_multiplied f fd) (m : mg "multiplied" = some (.ref f)) (b : Binds K fd ["one", "other"] []) (C_in_lowest : Cal P w K mg base 2 "in_lowest" ["top", "bottom"] sp_in_lowest) : Cal P w K mg base 3 "multiplied" ["one", "other"] sp_multiplied := by
  refine cal_ofW F sc_multiplied m b (fun vs H Q E h => ?_) (fun cdv A outer s H vs Q E hr h => ?_)
  · obtain ⟨x, y, q, r, m, n, rfl, _⟩ := h
    rfl
  · obtain ⟨x, y, q, r, m, n, rfl, hx, hy, hmn, k⟩ := h
    refine ⟨_, (wss_one ⟨(ps_ret (pe_callC C_in_lowest hr (by decide) (by rfl) (pa_cons (pe_op op_mulB (pe_ix ix_seq (pv 0) pe_int (fun _ _ => rfl)) (pe_ix ix_seq (pv 1) pe_int (fun _ _ => rfl))) (pa_cons (pe_op op_mulB (pe_ix ix_seq (pv 0) pe_int (fun _ _ => rfl)) (pe_ix ix_seq (pv 1) pe_int (fun _ _ => rfl))) pa_nil se_BinOp) se_BinOp) (by decide) se_BinOp (se_any rfl)))⟩), ?_⟩
    have e : start ["one", "other"] [x, y] = [some x, some y] := rfl
    rw [e]
    walk_at "vc"
    refine ix_fr0 hx ?_
    refine ix_fr0 hy ?_
    walk_at "vc"
    refine ⟨mulOk hx.nb hy.nb (by omega), ?_⟩
    refine ix_fr1 hx ?_
    refine ix_fr1 hy ?_
    walk_at "vc"
    refine ⟨mulOk (den_bd hx.db) (den_bd hy.db) (by omega), ?_⟩
    exact ⟨_, _, m + n, rfl, dd_ne q r, mul_bd hx.nb hy.nb, mul_bd (den_bd hx.db) (den_bd hy.db), hmn, fun v H' s h => k v H' s (by rw [q_mul] at h; exact h)⟩
theorem u_multiplied {x y : V} {q r : Rat} {m n : Nat} {H : Hp} {Q : VK} {E : XK} (hx : Fr m H x q) (hy : Fr n H y r) (h : m + n ≤ 8000) (k : ∀ v H', Same H H' → Fr (m + n) H' v (q * r) → Q v H') : sp_multiplied [x, y] H Q E := ⟨x, y, q, r, m, n, rfl, hx, hy, h, k⟩
local macro_rules | `(tactic| walk_at "call") => `(tactic| ((with_reducible refine' u_multiplied ?h1 ?h2 ?h3 ?k); (case h1 => walk_at "fr"); (case h2 => walk_at "fr"); (case h3 => omega); intro _ _ _ _))
abbrev s_sum_of : Stmt := top 6
theorem sc_sum_of : FnScope ["parts", "total", "part"] ["parts"] (defScope s_sum_of) := ⟨rfl, rfl, rfl, by decide +kernel, rfl, by decide +kernel, by decide +kernel⟩
def sp_sum_of : Sp := fun vs H Q _ => ∃ (a : Addr) (xs : List V) (qs : List Rat) (m : Nat), vs = [.ref a] ∧ H a = some (.lst xs) ∧ FrL m H xs qs ∧ (m + 1) * qs.length + 1 ≤ 8000 ∧ ∀ v H', Same H H' → Fr ((m + 1) * qs.length + 1) H' v (sumQ qs) → Q v H'

set_option maxHeartbeats 4000000 in
theorem ok_sum_of {f : Addr} {fd : FuncData} (F : Fun K "sum_of" "sum_of" s_sum_of f fd) (m : mg "sum_of" = some (.ref f)) (b : Binds K fd ["parts"] []) (C_added : Cal P w K mg base 3 "added" ["one", "other"] sp_added) : Cal P w K mg base 4 "sum_of" ["parts"] sp_sum_of := by
  refine cal_ofW F sc_sum_of m b (fun vs H Q E h => ?_) (fun cdv A outer s H vs Q E hr h => ?_)
  · obtain ⟨a, xs, qs, m, rfl, _⟩ := h
    rfl
  · obtain ⟨a, xs, qs, m, rfl, ha, hx, hm, k⟩ := h
    refine ⟨_, (wss_cons ⟨(ps_set (i := 1) sc_sum_of.nd rfl (by first | exact Or.inl rfl | exact Or.inr rfl) pe_ci2)⟩
        (wss_cons (ws_for PassesOwn.never rfl ⟨(pi_list (pv 0))⟩ (pg_name (i := 2) sc_sum_of.nd rfl (by first | exact Or.inl rfl | exact Or.inr rfl)) (wss_one ⟨(ps_set (i := 1) sc_sum_of.nd rfl (by first | exact Or.inl rfl | exact Or.inr rfl) (pe_callC C_added hr (by decide) (by rfl) (pa_cons (pv 1) (pa_cons (pv 2) pa_nil se_Name) se_Name) (by decide) se_Name (se_any rfl)))⟩))
        (wss_one ⟨(ps_ret (pv 1))⟩))), ?_⟩
    have e : start ["parts", "total", "part"] [V.ref a] = [some (.ref a), none, none] := rfl
    rw [e]
    walk_at "vc"
    refine ⟨by walk_at "sz", fun p hp => ?_⟩
    have s0 : Same H (upd H p (.tup [.int 0, .int 1])) := same_upd hp
    refine forL (xs := xs) (fun i σ H1 => ∃ (v : V) (o : Option V), σ = [some (.ref a), some v, o] ∧ Same H H1 ∧ Fr ((m + 1) * i + 1) H1 v (sumQ (qs.take i)))
      ⟨_, _, rfl, s0, fr_zero.le (by omega)⟩ (fun i σ H1 _ ⟨v, o, _, s1, _⟩ => SqL.of (s1 _ _ ha)) ?_ ?_
    · rintro i x σ H1 hi ⟨v, o, rfl, s1, f1⟩
      obtain ⟨q, eq, fq⟩ := hx.2 i x hi
      have fq1 := fq.mono s1
      have hlt : i < qs.length := (List.getElem?_eq_some_iff.mp eq).1
      have hle : (m + 1) * (i + 1) ≤ (m + 1) * qs.length := Nat.mul_le_mul_left _ hlt
      have e3 : (m + 1) * (i + 1) = (m + 1) * i + m + 1 := by rw [Nat.mul_add, Nat.mul_one]; omega
      walk_at "vc"
      refine u_added f1 fq1 (by omega) (fun v2 H2 s2 f2 => ?_)
      refine ⟨s1.trans s2, ?_⟩
      rw [sumQ_take eq]
      exact f2.le (by omega)
    · rintro σ H1 ⟨v, o, rfl, s1, f1⟩
      rw [hx.1, List.take_length] at f1
      walk_at "vc"
      exact k _ _ s1 f1
theorem u_sum_of {a : Addr} {xs : List V} {qs : List Rat} {m : Nat} {H : Hp} {Q : VK} {E : XK} (ha : H a = some (.lst xs)) (hx : FrL m H xs qs) (h : (m + 1) * qs.length + 1 ≤ 8000) (k : ∀ v H', Same H H' → Fr ((m + 1) * qs.length + 1) H' v (sumQ qs) → Q v H') : sp_sum_of [.ref a] H Q E := ⟨a, xs, qs, m, rfl, ha, hx, h, k⟩
abbrev s_twice_of : Stmt := top 8
theorem sc_twice_of : FnScope ["one", "other", "third", "along", "across"] ["one", "other", "third"] (defScope s_twice_of) := ⟨rfl, rfl, rfl, by decide +kernel, rfl, by decide +kernel, by decide +kernel⟩
def sp_twice_of : Sp := fun vs H Q _ => ∃ (x y z : V) (a b c : Rat × Rat) (m : Nat), vs = [x, y, z] ∧ Spt m H x a ∧ Spt m H y b ∧ Spt m H z c ∧ 8 * m + 5 ≤ 8000 ∧ ∀ v H', Same H H' → Fr (8 * m + 5) H' v (tw a b c) → Q v H'

set_option maxHeartbeats 4000000 in
theorem ok_twice_of {f : Addr} {fd : FuncData} (F : Fun K "twice_of" "twice_of" s_twice_of f fd) (m : mg "twice_of" = some (.ref f)) (b : Binds K fd ["one", "other", "third"] []) (C_multiplied : Cal P w K mg base 3 "multiplied" ["one", "other"] sp_multiplied) (C_lessened : Cal P w K mg base 3 "lessened" ["one", "other"] sp_lessened) : Cal P w K mg base 4 "twice_of" ["one", "other", "third"] sp_twice_of := by
  refine cal_ofW F sc_twice_of m b (fun vs H Q E h => ?_) (fun cdv A outer s H vs Q E hr h => ?_)
  · obtain ⟨x, y, z, a, b, c, m, rfl, _⟩ := h
    rfl
  · obtain ⟨x, y, z, a, b, c, m, rfl, hx, hy, hz, hm, k⟩ := h
    refine ⟨_, (wss_cons ⟨(ps_set (i := 3) sc_twice_of.nd rfl (by first | exact Or.inl rfl | exact Or.inr rfl) (pe_callC C_multiplied hr (by decide) (by rfl) (pa_cons (pe_callC C_lessened hr (by decide) (by rfl) (pa_cons (pe_ix ix_seq (pv 1) pe_int (fun _ _ => rfl)) (pa_cons (pe_ix ix_seq (pv 0) pe_int (fun _ _ => rfl)) pa_nil se_Subscript) se_Subscript) (by decide) se_Subscript (se_any rfl)) (pa_cons (pe_callC C_lessened hr (by decide) (by rfl) (pa_cons (pe_ix ix_seq (pv 2) pe_int (fun _ _ => rfl)) (pa_cons (pe_ix ix_seq (pv 0) pe_int (fun _ _ => rfl)) pa_nil se_Subscript) se_Subscript) (by decide) se_Subscript (se_any rfl)) pa_nil se_Call) se_Call) (by decide) se_Call (se_any rfl)))⟩
        (wss_cons ⟨(ps_set (i := 4) sc_twice_of.nd rfl (by first | exact Or.inl rfl | exact Or.inr rfl) (pe_callC C_multiplied hr (by decide) (by rfl) (pa_cons (pe_callC C_lessened hr (by decide) (by rfl) (pa_cons (pe_ix ix_seq (pv 2) pe_int (fun _ _ => rfl)) (pa_cons (pe_ix ix_seq (pv 0) pe_int (fun _ _ => rfl)) pa_nil se_Subscript) se_Subscript) (by decide) se_Subscript (se_any rfl)) (pa_cons (pe_callC C_lessened hr (by decide) (by rfl) (pa_cons (pe_ix ix_seq (pv 1) pe_int (fun _ _ => rfl)) (pa_cons (pe_ix ix_seq (pv 0) pe_int (fun _ _ => rfl)) pa_nil se_Subscript) se_Subscript) (by decide) se_Subscript (se_any rfl)) pa_nil se_Call) se_Call) (by decide) se_Call (se_any rfl)))⟩
        (wss_one ⟨(ps_ret (pe_callC C_lessened hr (by decide) (by rfl) (pa_cons (pv 3) (pa_cons (pv 4) pa_nil se_Name) se_Name) (by decide) se_Name (se_any rfl)))⟩))), ?_⟩
    have e : start ["one", "other", "third", "along", "across"] [x, y, z] = [some x, some y, some z, none, none] := rfl
    rw [e]
    walk_at "go"
    refine k _ _ ?_ ?_
    · walk_at "same"
    · refine Fr.le ?_ (by assumption)
      omega
theorem u_twice_of {x y z : V} {a b c : Rat × Rat} {m : Nat} {H : Hp} {Q : VK} {E : XK} (hx : Spt m H x a) (hy : Spt m H y b) (hz : Spt m H z c) (h : 8 * m + 5 ≤ 8000) (k : ∀ v H', Same H H' → Fr (8 * m + 5) H' v (tw a b c) → Q v H') : sp_twice_of [x, y, z] H Q E := ⟨x, y, z, a, b, c, m, rfl, hx, hy, hz, h, k⟩
theorem u_twice_of3 {x y z : V} {a b c : Rat × Rat} {m1 m2 m3 : Nat} {H : Hp} {Q : VK} {E : XK} (hx : Spt m1 H x a) (hy : Spt m2 H y b) (hz : Spt m3 H z c) (h : 8 * (m1 + m2 + m3) + 5 ≤ 8000) (k : ∀ v H', Same H H' → Fr (8 * (m1 + m2 + m3) + 5) H' v (tw a b c) → Q v H') : sp_twice_of [x, y, z] H Q E := u_twice_of (hx.le (by omega)) (hy.le (by omega)) (hz.le (by omega)) h k
local macro_rules | `(tactic| walk_at "call") => `(tactic| ((with_reducible refine' u_twice_of3 ?h1 ?h2 ?h3 ?h4 ?k); (case h1 => walk_at "fr"); (case h2 => walk_at "fr"); (case h3 => walk_at "fr"); (case h4 => omega); intro _ _ _ _))
local macro_rules | `(tactic| walk_at "call") => `(tactic| ((with_reducible refine' u_twice_of ?h1 ?h2 ?h3 ?h4 ?k); (case h1 => walk_at "fr"); (case h2 => walk_at "fr"); (case h3 => walk_at "fr"); (case h4 => omega); intro _ _ _ _))
def gp (ps : List (Rat × Rat)) (k : Nat) : Rat × Rat := ps.getD k (0, 0)
def SpL (m : Nat) (H : Hp) (xs : List V) (ps : List (Rat × Rat)) : Prop := xs.length = ps.length ∧ ∀ (i : Nat) x, xs[i]? = some x → ∃ p, ps[i]? = some p ∧ Spt m H x p
theorem SpL.tk {m : Nat} {H H' : Hp} {xs : List V} {ps : List (Rat × Rat)} (t : Tk H H') (h : SpL m H xs ps) : SpL m H' xs ps := ⟨h.1, fun i x e => let ⟨q, e1, e2⟩ := h.2 i x e; ⟨q, e1, e2.tk t⟩⟩
theorem newF {H : Hp} {Q : VK} {q : Rat} (hn : q.num.natAbs < 2 ^ 5) (hd : q.den < 2 ^ 5) (k : ∀ p H', Same H H' → Fr 5 H' (.ref p) q → Q (.ref p) H') : NewT [.int q.num, .int q.den] H Q :=
  newT (Nat.le_of_ble_eq_true rfl) (fun p H' s _ e => k p H' s ⟨⟨p, rfl, e⟩, hn, hd⟩)
theorem spl_nil {m : Nat} {H : Hp} : SpL m H [] [] := ⟨rfl, fun i x e => by cases e⟩
theorem spl_snoc {m : Nat} {H : Hp} {xs : List V} {ps : List (Rat × Rat)} {v : V} {p : Rat × Rat} (h : SpL m H xs ps) (hv : Spt m H v p) : SpL m H (xs ++ [v]) (ps ++ [p]) := by
  refine ⟨by rw [List.length_append, List.length_append, h.1]; rfl, fun i x e => ?_⟩
  by_cases c : i < xs.length
  · rw [List.getElem?_append_left c] at e
    obtain ⟨p', e2, hp⟩ := h.2 i x e
    exact ⟨p', by rw [List.getElem?_append_left (by rw [← h.1]; exact c)]; exact e2, hp⟩
  · rw [List.getElem?_append_right (by omega)] at e
    have c2 : i - xs.length = 0 := by
      have := (List.getElem?_eq_some_iff.mp e).1
      simp only [List.length_cons, List.length_nil] at this
      omega
    rw [c2] at e
    cases e
    refine ⟨p, ?_, hv⟩
    rw [List.getElem?_append_right (by rw [← h.1]; omega), ← h.1, c2]
    rfl
structure Tps (m : Nat) (H : Hp) (p : Addr) (ps : List (Rat × Rat)) : Prop where
  ex : ∃ xs, H p = some (.tup xs) ∧ SpL m H xs ps
theorem Tps.tk {m : Nat} {H H' : Hp} {p : Addr} {ps : List (Rat × Rat)} (t : Tk H H') (h : Tps m H p ps) : Tps m H' p ps := let ⟨xs, e, hs⟩ := h.ex; ⟨xs, t _ _ e, hs.tk t⟩
/-- a list of tuples of spots -/
structure Pcs (m : Nat) (H : Hp) (xs : List V) (pss : List (List (Rat × Rat))) : Prop where
  len : xs.length = pss.length
  at_ : ∀ (i : Nat) x, xs[i]? = some x → ∃ p ps, x = .ref p ∧ pss[i]? = some ps ∧ Tps m H p ps
theorem Pcs.tk {m : Nat} {H H' : Hp} {xs : List V} {pss : List (List (Rat × Rat))} (t : Tk H H') (h : Pcs m H xs pss) : Pcs m H' xs pss := ⟨h.len, fun i x e => let ⟨p, ps, e1, e2, hp⟩ := h.at_ i x e; ⟨p, ps, e1, e2, hp.tk t⟩⟩
theorem Pcs.nil {m : Nat} {H : Hp} : Pcs m H [] [] := ⟨rfl, fun i x e => by cases e⟩
theorem Pcs.snoc {m : Nat} {H : Hp} {xs : List V} {pss : List (List (Rat × Rat))} {p : Addr} {ps : List (Rat × Rat)} (h : Pcs m H xs pss) (hp : Tps m H p ps) : Pcs m H (xs ++ [.ref p]) (pss ++ [ps]) := by
  refine ⟨by rw [List.length_append, List.length_append, h.len]; rfl, fun i x e => ?_⟩
  by_cases c : i < xs.length
  · rw [List.getElem?_append_left c] at e
    obtain ⟨q, qs, e1, e2, hq⟩ := h.at_ i x e
    exact ⟨q, qs, e1, by rw [List.getElem?_append_left (by rw [← h.len]; exact c)]; exact e2, hq⟩
  · rw [List.getElem?_append_right (by omega)] at e
    have hl := h.len
    cases z : i - xs.length with
    | zero =>
      rw [z] at e
      cases e
      exact ⟨p, ps, rfl, by rw [List.getElem?_append_right (by omega), ← hl, z]; rfl, hp⟩
    | succ q => rw [z] at e; simp at e
theorem newP3 {m : Nat} {H : Hp} {Q : VK} {x y z : V} {a b c : Rat × Rat} (h1 : Spt m H x a) (h2 : Spt m H y b) (h3 : Spt m H z c) (k : ∀ p H', Same H H' → H p = none → Tps m H' p [a, b, c] → Q (.ref p) H') : NewT [x, y, z] H Q :=
  newT (Nat.le_of_ble_eq_true rfl) fun p H' s hp e => k p H' s hp ⟨_, e, rfl, fun i v ei => by
    match i, ei with
    | 0, ei => cases ei; exact ⟨_, rfl, h1.tk s.tk⟩
    | 1, ei => cases ei; exact ⟨_, rfl, h2.tk s.tk⟩
    | 2, ei => cases ei; exact ⟨_, rfl, h3.tk s.tk⟩
    | i + 3, ei => simp at ei⟩
def dT (ps : List (Rat × Rat)) : PyData := .tuple (ps.map dS)
theorem spl_dp {K : PySem.W.Frag} {m : Nat} {H : Hp} : ∀ {xs : List V} {ps : List (Rat × Rat)}, SpL m H xs ps → DpAll K H xs (ps.map dS)
  | [], [], _ => .nil
  | [], _ :: _, h => by cases h.1
  | _ :: _, [], h => by cases h.1
  | x :: xs, p :: ps, h => by
    obtain ⟨q, e, hq⟩ := h.2 0 x rfl
    cases e
    exact .cons hq.dp (spl_dp ⟨by have := h.1; simpa using this, fun i y ei => h.2 (i + 1) y ei⟩)
theorem Tps.dp {K : PySem.W.Frag} {m : Nat} {H : Hp} {p : Addr} {ps : List (Rat × Rat)} (h : Tps m H p ps) : Dp K H (.ref p) (dT ps) := by
  obtain ⟨xs, e, hs⟩ := h.ex
  exact .tup (SqT.of e) (spl_dp hs)
theorem pcs_dp {K : PySem.W.Frag} {m : Nat} {H : Hp} : ∀ {xs : List V} {pss : List (List (Rat × Rat))}, Pcs m H xs pss → DpAll K H xs (pss.map dT)
  | [], [], _ => .nil
  | [], _ :: _, h => by cases h.len
  | _ :: _, [], h => by cases h.len
  | x :: xs, p :: ps, h => by
    obtain ⟨q, qs, rfl, e, hq⟩ := h.at_ 0 x rfl
    cases e
    exact .cons hq.dp (pcs_dp ⟨by have := h.len; simpa using this, fun i y ei => h.at_ (i + 1) y ei⟩)
theorem sh_dT (ps : List (Rat × Rat)) : ShN 4 (dT ps) := ShN.tuple fun d hd => by
  obtain ⟨p, _, rfl⟩ := List.mem_map.mp hd
  exact ShN.dS p
theorem sh_dTs (pss : List (List (Rat × Rat))) : ShN 5 (.list (pss.map dT)) := ShN.list fun d hd => by
  obtain ⟨p, _, rfl⟩ := List.mem_map.mp hd
  exact sh_dT p

abbrev s_with_moved : Stmt := top 10
theorem sc_with_moved : FnScope ["pieces", "spot", "goal", "piece", "corner"] ["pieces", "spot", "goal"] (defScope s_with_moved) := ⟨rfl, rfl, rfl, by decide +kernel, rfl, by decide +kernel, by decide +kernel⟩
def mvQ (a b p : Rat × Rat) : Rat × Rat := if p = a then b else p
def sp_with_moved (tbs : List Addr) : Sp := fun vs H Q _ => ∃ (l : Addr) (sv gv : V) (xs : List V) (pss : List (List (Rat × Rat))) (s g : Rat × Rat) (m : Nat), vs = [.ref l, sv, gv] ∧ H l = some (.lst xs) ∧ Pcs m H xs pss ∧ (∀ ps ∈ pss, ps.length ≤ 100) ∧ pss.length ≤ 1000 ∧ Spt m H sv s ∧ Spt m H gv g ∧ Tbs tbs H ∧ ∀ p ys H', Same H H' → H p = none → H' p = some (.lst ys) → Pcs m H' ys (pss.map fun ps => ps.map (mvQ s g)) → Q (.ref p) H'

set_option maxHeartbeats 4000000 in
theorem ok_with_moved {f : Addr} {fd : FuncData} {q_with_moved t_with_moved : Addr} (F : Fun K "with_moved" "with_moved" s_with_moved f fd) (m : mg "with_moved" = some (.ref f)) (b : Binds K fd ["pieces", "spot", "goal"] []) (z_tuple : mg "tuple" = none) (CK_with_moved : CodeK K fd.code q_with_moved t_with_moved) (TB_with_moved : t_with_moved ∈ tbs) (BM : ∃ bm ob, BMod base mainGlobals mg bm ob) : Cal P w K mg base 2 "with_moved" ["pieces", "spot", "goal"] (sp_with_moved tbs) := by
  refine cal_ofG F sc_with_moved m b (fun vs H Q E h => ?_) (fun A outer s H vs Q E hr h => ?_)
  · obtain ⟨l, sv, gv, xs, pss, s, g, m, rfl, _⟩ := h
    rfl
  · obtain ⟨l, sv, gv, xs, pss, s, g, m, rfl, el, hp, hs3, hl, hs, hg, hT, k⟩ := h
    refine ⟨_, (wss_one ⟨(ps_ret (pe_lc (own := [("piece", 3)]) (g := gName 3) (by rfl) sc_with_moved.nd (pi_list (pv 0)) (blkOk_by (own := [("piece", 3)]) (N := ["pieces", "spot", "goal", "piece", "corner"]) (sc := defScope s_with_moved) (by decide +kernel)) (fun _ _ _ _ _ => pg_name (i := 3) sc_with_moved.nd rfl (by first | exact Or.inl rfl | exact Or.inr rfl)) (fun _ _ _ _ _ => pts_nil) (fun _ _ _ _ _ => (pe_tupG (own := [("corner", 4)]) (g := (gName 4)) (k := 0) (by rfl) sc_with_moved.nd CK_with_moved BM (hr.mono (by decide)) (by rfl) z_tuple (pi_tupK rfl (pv 3)) (blkOk_by (own := [("corner", 4)]) (by kernel_rfl)) rfl rfl rfl (fun _ _ _ _ _ _ _ hr => (pg_name (i := 4) sc_with_moved.nd rfl (by first | exact Or.inl rfl | exact Or.inr rfl))) (fun _ _ _ _ _ _ _ hr => pts_nil) (fun _ _ _ _ _ _ _ hr => (pe_ifExp (pt_cmpR (op_eqK hr.units rfl) (pv 4) (pv 1) (nomark _)) (pv 2) (pv 4)))))))⟩), ?_⟩
    have e : start ["pieces", "spot", "goal", "piece", "corner"] [V.ref l, sv, gv] = [some (.ref l), some sv, some gv, none, none] := rfl
    rw [e]
    try walk_at "vc"
    refine ⟨⟨_, SqL.of el⟩, fun D hD => ?_⟩
    have nD : l ≠ D := ne_of_none el hD
    refine lcL (xs := xs) (fun i J => Kp D H J ∧ Tk H J ∧ ∃ ws, J D = some (.lst ws) ∧ Pcs m J ws ((pss.take i).map fun ps => ps.map (mvQ s g))) ⟨kp_upd, (same_upd hD).tk, [], upd_same, by rw [List.take_zero]; exact Pcs.nil⟩ (fun i J _ ⟨kJ, _⟩ => SqL.of (kJ _ _ el nD)) ?_ ?_
    · rintro i x J hi ⟨kJ, tJ, ws, eD, hw⟩
      obtain ⟨p, ps, rfl, ei, hq⟩ := hp.at_ i x hi
      obtain ⟨ys, ep, hy⟩ := hq.ex
      have hlen := hs3 ps (List.mem_of_getElem? ei)
      have epJ := tJ _ _ ep
      have hyl := hy.1
      try walk_at "vc"
      refine ⟨⟨_, SqT.of epJ⟩, kJ _ _ (hT _ TB_with_moved) (ne_of_none (hT _ TB_with_moved) hD), ?_⟩
      refine tnT (xs := ys) (fun acc i J2 => J2 = J ∧ SpL m J acc ((ps.take i).map (mvQ s g))) (by rw [hyl]; exact Nat.le_of_lt (small1000 (by omega))) ⟨rfl, by rw [List.take_zero]; exact ⟨rfl, fun i x e => by cases e⟩⟩ (fun acc i J2 _ ⟨h, _⟩ => h ▸ SqT.of epJ) ?_ ?_
      · rintro acc i2 x J2 Nx No hx ⟨rfl, ha⟩ hNx hNo
        obtain ⟨q, eq, fq⟩ := (hy.tk tJ).2 i2 x hx
        have step : ∀ v, Spt m J2 v (mvQ s g q) → SpL m J2 (acc ++ [v]) ((ps.take (i2 + 1)).map (mvQ s g)) := fun v hv => by
          rw [List.take_succ, eq, List.map_append]
          exact spl_snoc ha hv
        simp only [tIf]
        try walk_at "vc"
        refine eq_s fq (hs.tk tJ) ?_
        refine ⟨_, rfl, ?_⟩
        by_cases c : q = s
        · rw [if_pos (by simp [c])]
          exact hNx gv J2 ⟨rfl, step gv (by unfold mvQ; rw [if_pos c]; exact hg.tk tJ)⟩
        · rw [if_neg (by simp [c])]
          exact hNx x J2 ⟨rfl, step x (by unfold mvQ; rw [if_neg c]; exact fq)⟩
      rintro acc J2 ⟨rfl, ha⟩ r hr
      rw [List.take_of_length_le (by rw [hyl]; exact Nat.le_refl _)] at ha
      have sr := same_upd (o := .tup acc) hr
      have eD2 := sr _ _ eD
      have tu := tk_upd (o := .lst (ws ++ [V.ref r])) eD2
      have er : upd J2 r (.tup acc) r = some (.tup acc) := upd_same
      refine ⟨ws, eD2, small1000 (by rw [hw.len, List.length_map, List.length_take]; omega), (kJ.trans sr.kp).trans kp_upd, tJ.trans (sr.tk.trans tu), ws ++ [.ref r], upd_same, ?_⟩
      rw [List.take_succ, ei, List.map_append]
      exact Pcs.snoc (hw.tk (sr.tk.trans tu)) ⟨acc, tu _ _ er, ha.tk (sr.tk.trans tu)⟩
    rintro J ⟨kJ, tJ, ws, eD, hw⟩
    rw [List.take_of_length_le (by rw [hp.len]; exact Nat.le_refl _)] at hw
    exact k D ws J (same_of_kp kJ hD) hD eD hw
theorem u_with_moved {tbs : List Addr} {l : Addr} {sv gv : V} {xs : List V} {pss : List (List (Rat × Rat))} {s g : Rat × Rat} {m : Nat} {H : Hp} {Q : VK} {E : XK} (el : H l = some (.lst xs)) (hp : Pcs m H xs pss) (h3 : ∀ ps ∈ pss, ps.length ≤ 100) (hl : pss.length ≤ 1000) (hs : Spt m H sv s) (hg : Spt m H gv g) (hT : Tbs tbs H) (k : ∀ p ys H', Same H H' → H p = none → H' p = some (.lst ys) → Pcs m H' ys (pss.map fun ps => ps.map (mvQ s g)) → Q (.ref p) H') : sp_with_moved tbs [.ref l, sv, gv] H Q E := ⟨l, sv, gv, xs, pss, s, g, m, rfl, el, hp, h3, hl, hs, hg, hT, k⟩
abbrev s_signed_sum : Stmt := top 11
theorem sc_signed_sum : FnScope ["pieces", "piece"] ["pieces"] (defScope s_signed_sum) := ⟨rfl, rfl, rfl, by decide +kernel, rfl, by decide +kernel, by decide +kernel⟩
def hlf : Rat := ⟨1, 2, by decide, by decide⟩
def twP (ps : List (Rat × Rat)) : Rat := tw (gp ps 0) (gp ps 1) (gp ps 2)
def sp_signed_sum : Sp := fun vs H Q _ => ∃ (l : Addr) (xs : List V) (pss : List (List (Rat × Rat))) (m : Nat), vs = [.ref l] ∧ H l = some (.lst xs) ∧ Pcs m H xs pss ∧ (∀ ps ∈ pss, ps.length = 3) ∧ pss.length ≤ 900 ∧ 8 * m + 5 ≤ 8000 ∧ (8 * m + 6) * pss.length + 10 ≤ 8000 ∧ ∀ v H', Same H H' → Fr ((8 * m + 6) * pss.length + 7) H' v (sumQ (pss.map twP) * hlf) → Q v H'

set_option maxHeartbeats 4000000 in
theorem ok_signed_sum {f : Addr} {fd : FuncData} (F : Fun K "signed_sum" "signed_sum" s_signed_sum f fd) (m : mg "signed_sum" = some (.ref f)) (b : Binds K fd ["pieces"] []) (C_multiplied : Cal P w K mg base 3 "multiplied" ["one", "other"] sp_multiplied) (C_sum_of : Cal P w K mg base 4 "sum_of" ["parts"] sp_sum_of) (C_twice_of : Cal P w K mg base 4 "twice_of" ["one", "other", "third"] sp_twice_of) : Cal P w K mg base 5 "signed_sum" ["pieces"] sp_signed_sum := by
  refine cal_ofW F sc_signed_sum m b (fun vs H Q E h => ?_) (fun cdv A outer s H vs Q E hr h => ?_)
  · obtain ⟨l, xs, pss, m, rfl, _⟩ := h
    rfl
  · obtain ⟨l, xs, pss, m, rfl, el, hp, h3, hl, hm8, hm, k⟩ := h
    refine ⟨_, (wss_one ⟨(ps_ret (pe_callC C_multiplied hr (by decide) (by rfl) (pa_cons (pe_callC C_sum_of hr (by decide) (by rfl) (pa_cons (pe_lc (own := [("piece", 1)]) (g := gName 1) (by rfl) sc_signed_sum.nd (pi_list (pv 0)) (blkOk_by (own := [("piece", 1)]) (N := ["pieces", "piece"]) (sc := defScope s_signed_sum) (by decide +kernel)) (fun _ _ _ _ _ => pg_name (i := 1) sc_signed_sum.nd rfl (by first | exact Or.inl rfl | exact Or.inr rfl)) (fun _ _ _ _ _ => pts_nil) (fun _ _ _ _ _ => (pe_callS C_twice_of hr (by decide) (by rfl) rfl (pv 1)))) pa_nil se_ListComp) (by decide) se_ListComp (se_any rfl)) (pa_cons pe_ci2 pa_nil se_Tuple) se_Call) (by decide) se_Call (se_any rfl)))⟩), ?_⟩
    have e : start ["pieces", "piece"] [V.ref l] = [some (.ref l), none] := rfl
    rw [e]
    try walk_at "vc"
    refine ⟨⟨_, SqL.of el⟩, fun D hD => ?_⟩
    have nD : l ≠ D := ne_of_none el hD
    refine lcL (xs := xs) (fun i J => Kp D H J ∧ Tk H J ∧ ∃ ws, J D = some (.lst ws) ∧ FrL (8 * m + 5) J ws ((pss.take i).map twP)) ⟨kp_upd, (same_upd hD).tk, [], upd_same, by rw [List.take_zero]; exact FrL.nil⟩ (fun i J _ ⟨kJ, _⟩ => SqL.of (kJ _ _ el nD)) ?_ ?_
    · rintro i x J hi ⟨kJ, tJ, ws, eD, hw⟩
      obtain ⟨p, ps, rfl, ei, hq⟩ := hp.at_ i x hi
      obtain ⟨ys, ep, hy⟩ := hq.ex
      have hps := h3 ps (List.mem_of_getElem? ei)
      have epJ := tJ _ _ ep
      have hyJ := hy.tk tJ
      obtain ⟨x, y, z, rfl⟩ : ∃ x y z, ys = [x, y, z] := by
        have : ys.length = 3 := by rw [hy.1, hps]
        match ys, this with
        | [x, y, z], _ => exact ⟨x, y, z, rfl⟩
      obtain ⟨a, b, c, rfl⟩ : ∃ a b c, ps = [a, b, c] := by
        match ps, hps with
        | [a, b, c], _ => exact ⟨a, b, c, rfl⟩
      obtain ⟨_, e1, f1⟩ := hyJ.2 0 x rfl
      obtain ⟨_, e2, f2⟩ := hyJ.2 1 y rfl
      obtain ⟨_, e3, f3⟩ := hyJ.2 2 z rfl
      cases e1; cases e2; cases e3
      try walk_at "vc"
      refine ⟨_, SqT.of epJ, ?_⟩
      try walk_at "vc"
      refine u_twice_of f1 f2 f3 hm8 (fun v J2 s2 f => ?_)
      have eD2 := s2 _ _ eD
      have tu := tk_upd (o := .lst (ws ++ [v])) eD2
      have hwl := hw.1
      rw [List.length_map, List.length_take] at hwl
      refine ⟨ws, eD2, small1000 (by omega), (kJ.trans s2.kp).trans kp_upd, tJ.trans (s2.tk.trans tu), ws ++ [v], upd_same, ?_⟩
      rw [List.take_succ, ei, List.map_append]
      exact FrL.add (hw.tk (s2.tk.trans tu)) (f.tk tu)
    rintro J ⟨kJ, tJ, ws, eD, hw⟩
    rw [List.take_of_length_le (by rw [hp.len]; exact Nat.le_refl _)] at hw
    refine u_sum_of eD hw (by rw [List.length_map, show 8 * m + 5 + 1 = 8 * m + 6 from rfl]; omega) (fun v H2 s2 f2 => ?_)
    rw [List.length_map, show 8 * m + 5 + 1 = 8 * m + 6 from rfl] at f2
    try walk_at "vc"
    refine newF (q := hlf) (by decide) (by decide) (fun w H3 s3 f3 => ?_)
    refine u_multiplied (f2.tk s3.tk) f3 (by omega) (fun v4 H4 s4 f4 => ?_)
    try walk_at "vc"
    exact k _ _ ((same_of_kp kJ hD).trans (s2.trans (s3.trans s4))) (f4.le (by omega))
theorem u_signed_sum {l : Addr} {xs : List V} {pss : List (List (Rat × Rat))} {m : Nat} {H : Hp} {Q : VK} {E : XK} (el : H l = some (.lst xs)) (hp : Pcs m H xs pss) (h3 : ∀ ps ∈ pss, ps.length = 3) (hl : pss.length ≤ 900) (h8 : 8 * m + 5 ≤ 8000) (hm : (8 * m + 6) * pss.length + 10 ≤ 8000) (k : ∀ v H', Same H H' → Fr ((8 * m + 6) * pss.length + 7) H' v (sumQ (pss.map twP) * hlf) → Q v H') : sp_signed_sum [.ref l] H Q E := ⟨l, xs, pss, m, rfl, el, hp, h3, hl, h8, hm, k⟩
abbrev s_law_take : Stmt := top 13
theorem sc_law_take : FnScope ["_law_row", "_law_base", "_law_rest", "_law_number"] ["_law_row", "_law_base"] (defScope s_law_take) := ⟨rfl, rfl, rfl, by decide +kernel, rfl, by decide +kernel, by decide +kernel⟩
def sp_law_take : Sp := fun vs H Q _ => ∃ (r : Addr) (b : Int) (n : Nat), vs = [.ref r, .int b] ∧ Row n H r ∧ n ≤ 1000000 ∧ 0 < b ∧ b < 2 ^ 200 ∧ ∀ v H', 0 ≤ v → v < b → Row (n + 1) H' r → Kp r H H' → Tk H H' → Q (.int v) H'
set_option maxHeartbeats 4000000 in
theorem ok_law_take {f : Addr} {fd : FuncData} (F : Fun K "_law_take" "_law_take" s_law_take f fd) (m : mg "_law_take" = some (.ref f)) (b : Binds K fd ["_law_row", "_law_base"] []) (z_int : mg "int" = none) : Cal P w K mg base 1 "_law_take" ["_law_row", "_law_base"] sp_law_take := by
  refine cal_ofW F sc_law_take m b (fun vs H Q E h => ?_) (fun cdv A outer s H vs Q E hr h => ?_)
  · obtain ⟨r, b, n, rfl, _⟩ := h
    rfl
  · obtain ⟨r, b, n, rfl, hrow, hn, hb, hb2, k⟩ := h
    refine ⟨_, (wss_cons ⟨(ps_asg (pe_op op_addA (pe_ix ix_seq (pv 0) pe_int (fun _ _ => rfl)) pe_int) (pg_sub (pv 0) pe_int set_list))⟩
        (wss_cons (ws_if (pt_cmpR op_ge (pe_ix ix_seq (pv 0) pe_int (fun _ _ => rfl)) (pe_op op_pow pe_int pe_int) (nomark _)) (wss_cons ⟨(ps_set (i := 2) sc_law_take.nd rfl (by first | exact Or.inl rfl | exact Or.inr rfl) (pe_op op_sub (pe_op op_fdivB (pe_ix ix_seq (pv 0) pe_int (fun _ _ => rfl)) (pe_op op_pow pe_int pe_int)) pe_int))⟩
        (wss_cons ⟨(ps_asg (pe_op op_addA (pe_op op_mulB (pe_op op_mulB (pe_op op_addA (pe_op op_fdivB (pv 2) (pv 1)) pe_int) (pe_op op_pow pe_int pe_int)) (pe_callTy call_int1 (by rfl) z_int bt_int (pa_cons (pe_cmpR op_ge (pv 2) (pv 1) (nomark _)) pa_nil se_Compare))) (pe_op op_modN (pe_ix ix_seq (pv 0) pe_int (fun _ _ => rfl)) (pe_op op_pow pe_int pe_int))) (pg_sub (pv 0) pe_int set_list))⟩
        (wss_one ⟨(ps_ret (pe_op op_modN (pv 2) (pv 1)))⟩))) wss_nil)
        (wss_cons ⟨(ps_set (i := 3) sc_law_take.nd rfl (by first | exact Or.inl rfl | exact Or.inr rfl) (pe_op op_modN (pe_op op_addA (pe_op op_addA (pe_op op_mulB (pe_op op_modN (pe_ix ix_seq (pv 0) pe_int (fun _ _ => rfl)) pe_int) pe_int) (pe_op op_mulB (pe_op op_mulB pe_int (pe_ix ix_seq (pv 0) pe_int (fun _ _ => rfl))) (pe_ix ix_seq (pv 0) pe_int (fun _ _ => rfl)))) pe_int) pe_int))⟩
        (wss_cons ⟨(ps_set (i := 3) sc_law_take.nd rfl (by first | exact Or.inl rfl | exact Or.inr rfl) (pe_op op_modN (pe_op op_mulB (pv 3) (pe_op op_addA (pe_op op_modN (pv 3) pe_int) pe_int)) pe_int))⟩
        (wss_one ⟨(ps_ret (pe_op op_modN (pe_op op_fdivB (pv 3) pe_int) (pv 1)))⟩))))), ?_⟩
    have e : start ["_law_row", "_law_base", "_law_rest", "_law_number"] [V.ref r, V.int b] = [some (V.ref r), some (V.int b), none, none] := rfl
    rw [e]
    walk_at "vc"
    obtain ⟨c, i, e1, i0, i1⟩ := hrow.ex
    have fin : ∀ (z c' : Int), Q (.int (z.fmod b)) (upd H r (.lst [.int c', .int (i + 1)])) := fun z c' => k _ _ (Int.fmod_nonneg_of_pos _ hb) (Int.fmod_lt_of_pos _ hb) (row_up i0 i1) kp_upd (tk_upd e1)
    refine ix_lst1 e1 ?_
    walk_at "vc"
    refine set_l1 e1 ?_
    refine ix_lst0 upd_same ?_
    walk_at "vc"
    refine ite_d (fun c1 => ?_) (fun c1 => ?_)
    · refine ix_lst0 upd_same ?_
      walk_at "vc"
      refine ⟨⟨by decide, by decide⟩, ?_⟩
      refine ⟨small_ok (Int.le_of_lt hb) hb2 (by decide) hb, mulOkR (by decide), ?_⟩
      refine .inr ?_
      refine ⟨mulOkR (by split <;> decide), ?_⟩
      refine ix_lst0 upd_same ?_
      walk_at "vc"
      refine ⟨by decide, ?_⟩
      refine set_l0 upd_same ?_
      rw [upd_upd]
      exact ⟨by omega, fin _ _⟩
    · refine ix_lst0 upd_same ?_
      walk_at "vc"
      have m1 := Int.fmod_nonneg_of_pos c (show (0 : Int) < 2147483629 by decide)
      have m2 := Int.fmod_lt_of_pos c (show (0 : Int) < 2147483629 by decide)
      refine ⟨by decide, mulOkR (by decide), ?_⟩
      refine ix_lst1 upd_same ?_
      walk_at "vc"
      refine ⟨mulOkL (by decide), ?_⟩
      refine ix_lst1 upd_same ?_
      walk_at "vc"
      refine ⟨mulOkR (bd64 (by omega) (by omega)), by decide, by decide, ?_⟩
      generalize hA : (c.fmod 2147483629 * 48271 + 104729 * (i + 1) * (i + 1) + 17).fmod 2147483647 = A
      have a1 : 0 ≤ A := hA ▸ Int.fmod_nonneg_of_pos _ (by decide)
      have a2 : A < 2147483647 := hA ▸ Int.fmod_lt_of_pos _ (by decide)
      refine ⟨mulOkL (bd64 (by omega) (by omega)), by decide, ?_⟩
      refine ⟨⟨by decide, by decide⟩, by omega, ?_⟩
      exact fin _ _
theorem u_law_take {r : Addr} {b : Int} {n : Nat} {H : Hp} {Q : VK} {E : XK} (h : Row n H r) (hn : n ≤ 1000000) (hb : 0 < b) (hb2 : b < 2 ^ 200) (k : ∀ v H', 0 ≤ v → v < b → Row (n + 1) H' r → Kp r H H' → Tk H H' → Q (.int v) H') : sp_law_take [.ref r, .int b] H Q E := ⟨r, b, n, rfl, h, hn, hb, hb2, k⟩
local macro_rules | `(tactic| walk_at "call") => `(tactic| ((with_reducible refine' u_law_take ?h1 ?h2 ?h3 ?h4 ?k); (case h1 => walk_at "row"); (case h2 => omega); (case h3 => omega); (case h4 => first | decide | omega); intro _ _ _ _ _ _ _))
abbrev s_law_lowest : Stmt := top 14
theorem sc_law_lowest : FnScope ["_law_top", "_law_bottom", "_law_one", "_law_other"] ["_law_top", "_law_bottom"] (defScope s_law_lowest) := ⟨rfl, rfl, rfl, by decide +kernel, rfl, by decide +kernel, by decide +kernel⟩
def sp_law_lowest : Sp := sp_in_lowest
set_option maxHeartbeats 4000000 in
theorem ok_law_lowest {f : Addr} {fd : FuncData} (F : Fun K "_law_lowest" "_law_lowest" s_law_lowest f fd) (m : mg "_law_lowest" = some (.ref f)) (b : Binds K fd ["_law_top", "_law_bottom"] []) (z_abs : mg "abs" = none) : Cal P w K mg base 1 "_law_lowest" ["_law_top", "_law_bottom"] sp_law_lowest := by
  refine cal_ofW F sc_law_lowest m b (fun vs H Q E h => ?_) (fun cdv A outer s H vs Q E hr h => ?_)
  · obtain ⟨a, b, n, rfl, _⟩ := h
    rfl
  · obtain ⟨a, b, n, rfl, hb, h1', h2', hn, k⟩ := h
    refine ⟨_, (wss_cons ⟨(ps_par (i := 2) (j := 3) (by rfl) sc_law_lowest.nd rfl rfl (by decide) rfl rfl (pa_cons (pe_callB call_abs (by rfl) z_abs bt_abs (pa_cons (pv 0) pa_nil se_Name)) (pa_cons (pe_callB call_abs (by rfl) z_abs bt_abs (pa_cons (pv 1) pa_nil se_Name)) pa_nil se_Call) se_Call) (by rfl))⟩
        (wss_cons (ws_while PassesOwn.never (pt_cmpR op_gt (pv 3) pe_int (nomark _)) (wss_one ⟨(ps_par (i := 2) (j := 3) (by rfl) sc_law_lowest.nd rfl rfl (by decide) rfl rfl (pa_cons (pv 3) (pa_cons (pe_op op_modN (pv 2) (pv 3)) pa_nil se_BinOp) se_Name) (by rfl))⟩))
        (wss_cons (ws_if (pt_cmpR op_lt (pv 1) pe_int (nomark _)) (wss_one ⟨(ps_set (i := 2) sc_law_lowest.nd rfl (by first | exact Or.inl rfl | exact Or.inr rfl) (pe_op op_sub pe_int (pv 2)))⟩) wss_nil)
        (wss_one ⟨(ps_ret (pe_tup (pa_cons (pe_op op_fdivB (pv 0) (pv 2)) (pa_cons (pe_op op_fdivB (pv 1) (pv 2)) pa_nil se_BinOp) se_BinOp)))⟩)))), ?_⟩
    have e : start ["_law_top", "_law_bottom", "_law_one", "_law_other"] [V.int a, V.int b] = [some (V.int a), some (V.int b), none, none] := rfl
    rw [e]
    walk_at "vc"
    refine while_by (fun σ H1 => ∃ r y : Int, σ = [some (V.int a), some (V.int b), some (V.int r), some (V.int y)] ∧ H1 = H ∧ 0 ≤ r ∧ 0 ≤ y ∧ r.natAbs.gcd y.natAbs = a.natAbs.gcd b.natAbs)
      (fun σ _ => match σ[3]? with | some (some (V.int y)) => y.toNat | _ => 0) ⟨_, _, rfl, rfl, by split <;> omega, by split <;> omega, gcd_abs a b⟩ ?_ ?_
    · rintro σ H1 ⟨r, y, rfl, rfl, h1, h2, h3⟩
      walk_at "vc"
      refine ite_d (fun c => ?_) (fun c => ?_)
      · refine ⟨by omega, h2, ?_, ?_, ?_⟩
        · exact Int.fmod_nonneg_of_pos _ c
        · rw [← h3]; exact gcd_turn h1 c
        · show (r.fmod y).toNat < y.toNat
          have := Int.fmod_lt_of_pos r c
          omega
      · have e : y = 0 := by omega
        subst e
        have e2 : (r.natAbs : Int) = r := by omega
        rw [Int.natAbs_zero, Nat.gcd_zero_right] at h3
        have h3 : ((a.natAbs.gcd b.natAbs : Nat) : Int) = r := by omega
        try walk_at "vc"
        refine ite_d (fun c => ?_) (fun c => ?_)
        · have e3 : (0 : Int) - r = sg a b := by rw [sg_neg c]; omega
          rw [e3]
          exact ⟨div_ok hb h2' hn, div_ok hb h2' hn, by walk_at "sz", fun p hp => k _ _ (same_upd hp) (fr_low hb h1' h2')⟩
        · have e3 : r = sg a b := by rw [sg_pos c]; omega
          rw [e3]
          exact ⟨div_ok hb h2' hn, div_ok hb h2' hn, by walk_at "sz", fun p hp => k _ _ (same_upd hp) (fr_low hb h1' h2')⟩
    · exact gt_mono
theorem u_law_lowest (n : Nat) {a b : Int} {H : Hp} {Q : VK} {E : XK} (hb : b ≠ 0) (h1 : a.natAbs < 2 ^ n) (h2 : b.natAbs < 2 ^ n) (hn : n ≤ 8000) (k : ∀ v H', Same H H' → Fr n H' v (Rat.divInt a b) → Q v H') : sp_law_lowest [.int a, .int b] H Q E := ⟨a, b, n, rfl, hb, h1, h2, hn, k⟩
theorem u_law_lowest24 {a b : Int} {H : Hp} {Q : VK} {E : XK} (hb : b ≠ 0) (h1 : a.natAbs < 16777216) (h2 : b.natAbs < 16777216) (k : ∀ v H', Same H H' → Fr 24 H' v (Rat.divInt a b) → Q v H') : sp_law_lowest [.int a, .int b] H Q E := u_law_lowest 24 hb h1 h2 (by decide) k
local macro_rules | `(tactic| walk_at "call") => `(tactic| ((with_reducible refine' u_law_lowest24 ?h1 ?h2 ?h3 ?k); (case h1 => omega); (case h2 => omega); (case h3 => omega); intro _ _ _ _))
abbrev s_law_whole : Stmt := top 15
theorem sc_law_whole : FnScope ["_law_found"] ["_law_found"] (defScope s_law_whole) := ⟨rfl, rfl, rfl, by decide +kernel, rfl, by decide +kernel, by decide +kernel⟩
def sp_law_whole : Sp := fun vs H Q _ => ∃ (x : V) (d : PyData) (r : Addr), vs = [x] ∧ Rp r H x d ∧ Q (.bl (isWh d)) H

set_option maxHeartbeats 4000000 in
theorem ok_law_whole {f : Addr} {fd : FuncData} (F : Fun K "_law_whole" "_law_whole" s_law_whole f fd) (m : mg "_law_whole" = some (.ref f)) (b : Binds K fd ["_law_found"] []) (z_int : mg "int" = none) (z_isinstance : mg "isinstance" = none) (z_bool : mg "bool" = none) : Cal P w K mg base 1 "_law_whole" ["_law_found"] sp_law_whole := by
  refine cal_ofW F sc_law_whole m b (fun vs H Q E h => ?_) (fun cdv A outer s H vs Q E hr h => ?_)
  · obtain ⟨x, d, r, rfl, _⟩ := h
    rfl
  · obtain ⟨x, d, r, rfl, hx, k⟩ := h
    refine ⟨_, (wss_one ⟨(ps_ret (pe_and (pe_callB call_isi (by rfl) z_isinstance bt_isinstance (pa_cons (pv 0) (pa_cons (pe_bltn (v := .ty "int") (by rfl) z_int bt_int rfl) pa_nil se_Name) se_Name)) (pe_one (pe_not (pe_callB call_isi (by rfl) z_isinstance bt_isinstance (pa_cons (pv 0) (pa_cons (pe_bltn (v := .ty "bool") (by rfl) z_bool bt_bool rfl) pa_nil se_Name) se_Name))))))⟩), ?_⟩
    have e : start ["_law_found"] [x] = [some x] := rfl
    rw [e]
    walk_at "vc"
    refine isi_int hx ?_
    walk_at "vc"
    rw [← isWh_and] at k
    cases h1 : isInt d with
    | true =>
      rw [h1] at k
      walk_at "vc"
      refine isi_bool hx ?_
      walk_at "vc"
      exact k
    | false =>
      rw [h1] at k
      walk_at "vc"
      exact k
theorem u_law_whole {x : V} {d : PyData} {r : Addr} {H : Hp} {Q : VK} {E : XK} (hx : Rp r H x d) (k : Q (.bl (isWh d)) H) : sp_law_whole [x] H Q E := ⟨x, d, r, rfl, hx, k⟩
local macro_rules | `(tactic| walk_at "call") => `(tactic| ((with_reducible refine' u_law_whole ?h1 ?k); (case h1 => walk_at "rp1")))
abbrev s_law_is_frac : Stmt := top 16
theorem sc_law_is_frac : FnScope ["_law_found"] ["_law_found"] (defScope s_law_is_frac) := ⟨rfl, rfl, rfl, by decide +kernel, rfl, by decide +kernel, by decide +kernel⟩
def sp_law_is_frac : Sp := fun vs H Q _ => ∃ (x : V) (d : PyData) (r : Addr) (n : Nat), vs = [x] ∧ Rp r H x d ∧ smN n d ∧ n ≤ 8000 ∧ ∀ H', Same H H' → Q (.bl (frB d)) H'

set_option maxHeartbeats 4000000 in
theorem ok_law_is_frac {f : Addr} {fd : FuncData} (F : Fun K "_law_is_frac" "_law_is_frac" s_law_is_frac f fd) (m : mg "_law_is_frac" = some (.ref f)) (b : Binds K fd ["_law_found"] []) (z_isinstance : mg "isinstance" = none) (z_tuple : mg "tuple" = none) (z_len : mg "len" = none) (C_law_whole : Cal P w K mg base 1 "_law_whole" ["_law_found"] sp_law_whole) (C_law_lowest : Cal P w K mg base 1 "_law_lowest" ["_law_top", "_law_bottom"] sp_law_lowest) : Cal P w K mg base 2 "_law_is_frac" ["_law_found"] sp_law_is_frac := by
  refine cal_ofW F sc_law_is_frac m b (fun vs H Q E h => ?_) (fun cdv A outer s H vs Q E hr h => ?_)
  · obtain ⟨x, d, r, nn, rfl, _⟩ := h
    rfl
  · obtain ⟨x, d, r, nn, rfl, hx, sm, hnn, k⟩ := h
    refine ⟨_, (wss_cons (ws_if (PW.pt (pw_or (pt_not (pt_val (pe_callB call_isi (by rfl) z_isinstance bt_isinstance (pa_cons (pv 0) (pa_cons (pe_bltn (v := .ty "tuple") (by rfl) z_tuple bt_tuple rfl) pa_nil se_Name) se_Name)))) (pw_or (pt_cmpR (op_neA hr.units) (pe_callB call_lenA (by rfl) z_len bt_len (pa_cons (pv 0) pa_nil se_Name)) pe_int (nomark _)) (pw_or (pt_not (pt_val (pe_callC C_law_whole hr (by decide) (by rfl) (pa_cons (pe_ix ix_seq (pv 0) pe_int (fun _ _ => rfl)) pa_nil se_Subscript) (by decide) se_Subscript (se_any rfl)))) (pw_or1 (pt_not (pt_val (pe_callC C_law_whole hr (by decide) (by rfl) (pa_cons (pe_ix ix_seq (pv 0) pe_int (fun _ _ => rfl)) pa_nil se_Subscript) (by decide) se_Subscript (se_any rfl))))))))) (wss_one ⟨(ps_ret pe_bl)⟩) wss_nil)
        (wss_one ⟨(ps_ret (pe_and (pe_cmpR op_gt (pe_ix ix_seq (pv 0) pe_int (fun _ _ => rfl)) pe_int (nomark _)) (pe_one (pe_cmpR (op_eqA hr.units) (pe_callC C_law_lowest hr (by decide) (by rfl) (pa_cons (pe_ix ix_seq (pv 0) pe_int (fun _ _ => rfl)) (pa_cons (pe_ix ix_seq (pv 0) pe_int (fun _ _ => rfl)) pa_nil se_Subscript) se_Subscript) (by decide) se_Subscript (se_any rfl)) (pv 0) (nomark _)))))⟩)), ?_⟩
    have e : start ["_law_found"] [x] = [some x] := rfl
    rw [e]
    walk_at "vc"
    refine isi_tup hx ?_
    walk_at "vc"
    have kf : frB d = false → Q (.bl false) H := fun z => z ▸ k H (Same.refl _)
    cases hx with
    | tup h1 h2 h3 =>
      rename_i aa xx dd
      simp only [isTup, Bool.not_true, Bool.false_eq_true, if_false]
      refine len_t h1 ?_
      refine ne_i ?_
      walk_at "vc"
      refine ite_n (fun c => ?_) (fun c => ?_)
      · exact kf (frB_len (fun z => c (by have := h3.len; omega)))
      · have hl : xx.length = 2 := by omega
        match xx, hl, h1, h3 with
        | [x, y], _, h1, h3 =>
          cases h3 with
          | cons hx h4 =>
          cases h4 with
          | cons hy h5 =>
          cases h5
          rename_i dx dy
          refine ixT0 (.tup h1 h2 (.cons hx (.cons hy .nil))) (fun x' hx' => ?_)
          refine u_law_whole hx' ?_
          walk_at "vc"
          cases w1 : isWh dx with
          | false =>
            walk_at "vc"
            exact kf (frB_1 w1)
          | true =>
            walk_at "vc"
            refine ixT1 (.tup h1 h2 (.cons hx (.cons hy .nil))) (fun y' hy' => ?_)
            refine u_law_whole hy' ?_
            walk_at "vc"
            cases w2 : isWh dy with
            | false =>
              walk_at "vc"
              exact kf (frB_2 w2)
            | true =>
              obtain ⟨u, rfl⟩ := isWh_eq w1
              obtain ⟨v, rfl⟩ := isWh_eq w2
              cases hx
              cases hy
              walk_at "vc"
              refine ixT1 (.tup h1 h2 (.cons (.int u) (.cons (.int v) .nil))) (fun y2 hy2 => ?_)
              cases hy2
              walk_at "vc"
              refine ite_d (fun c1 => ?_) (fun c1 => ?_)
              · refine ixT0 (.tup h1 h2 (.cons (.int u) (.cons (.int v) .nil))) (fun x3 hx3 => ?_)
                cases hx3
                refine ixT1 (.tup h1 h2 (.cons (.int u) (.cons (.int v) .nil))) (fun y3 hy3 => ?_)
                cases hy3
                obtain ⟨b1, b2⟩ := sm u v rfl
                refine u_law_lowest nn (by omega) b1 b2 hnn (fun v7 H7 s7 f7 => ?_)
                refine eq_d f7.dp (Rp.dp (r := r) _ _ (.tup (s7 _ _ h1) h2 (.cons (.int u) (.cons (.int v) .nil)))) (dF_sh _) rfl ?_
                rw [← frB_low c1]
                exact k _ s7
              · exact kf (frB_neg c1)
    | _ =>
      simp only [isTup, Bool.not_false, if_true]
      exact kf rfl
theorem u_law_is_frac {x : V} {d : PyData} {r : Addr} {H : Hp} {Q : VK} {E : XK} {n : Nat} (hx : Rp r H x d) (sm : smN n d) (hn : n ≤ 8000) (k : ∀ H', Same H H' → Q (.bl (frB d)) H') : sp_law_is_frac [x] H Q E := ⟨x, d, r, n, rfl, hx, sm, hn, k⟩
abbrev s_law_gap : Stmt := top 17
theorem sc_law_gap : FnScope ["_law_here", "_law_there"] ["_law_here", "_law_there"] (defScope s_law_gap) := ⟨rfl, rfl, rfl, by decide +kernel, rfl, by decide +kernel, by decide +kernel⟩
theorem gap_q {x y : Rat} : (lsN y x : Rat) = (y - x) * (lsD x y : Rat) := by
  have h := sub_q y x
  have e : lsD x y = lsD y x := by unfold lsD; exact Int.mul_comm _ _
  rw [e]
  exact h
def sp_law_gap : Sp := fun vs H Q _ => ∃ (x y : V) (a b : Rat) (m : Nat), vs = [x, y] ∧ Fr m H x a ∧ Fr m H y b ∧ m ≤ 3000 ∧ ∀ v H', Same H H' → TupI H' v (lsN b a) (lsD a b) → (lsN b a).natAbs < 2 ^ (m + m + 1) → (lsD a b).natAbs < 2 ^ (m + m) → Q v H'

set_option maxHeartbeats 4000000 in
theorem ok_law_gap {f : Addr} {fd : FuncData} (F : Fun K "_law_gap" "_law_gap" s_law_gap f fd) (m : mg "_law_gap" = some (.ref f)) (b : Binds K fd ["_law_here", "_law_there"] []) : Cal P w K mg base 1 "_law_gap" ["_law_here", "_law_there"] sp_law_gap := by
  refine cal_ofW F sc_law_gap m b (fun vs H Q E h => ?_) (fun cdv A outer s H vs Q E hr h => ?_)
  · obtain ⟨x, y, a, b, m, rfl, _⟩ := h
    rfl
  · obtain ⟨x, y, a, b, m, rfl, hx, hy, hm, k⟩ := h
    refine ⟨_, (wss_one ⟨(ps_ret (pe_tup (pa_cons (pe_op op_sub (pe_op op_mulB (pe_ix ix_seq (pv 1) pe_int (fun _ _ => rfl)) (pe_ix ix_seq (pv 0) pe_int (fun _ _ => rfl))) (pe_op op_mulB (pe_ix ix_seq (pv 0) pe_int (fun _ _ => rfl)) (pe_ix ix_seq (pv 1) pe_int (fun _ _ => rfl)))) (pa_cons (pe_op op_mulB (pe_ix ix_seq (pv 0) pe_int (fun _ _ => rfl)) (pe_ix ix_seq (pv 1) pe_int (fun _ _ => rfl))) pa_nil se_BinOp) se_BinOp)))⟩), ?_⟩
    have e : start ["_law_here", "_law_there"] [x, y] = [some x, some y] := rfl
    rw [e]
    walk_at "go"
    refine ⟨mulOk hy.nb (den_bd hx.db) (by omega), ?_⟩
    walk_at "go"
    refine ⟨mulOk hx.nb (den_bd hy.db) (by omega), ?_⟩
    walk_at "go"
    refine ⟨mulOk (den_bd hx.db) (den_bd hy.db) (by omega), ?_⟩
    refine newT (Nat.le_of_ble_eq_true rfl) (fun p H' s hp e2 => ?_)
    exact k _ _ s ⟨p, rfl, e2⟩ (sub_bd hy.nb (den_bd hx.db) hx.nb (den_bd hy.db)) (mul_bd (den_bd hx.db) (den_bd hy.db))
theorem u_law_gap {x y : V} {a b : Rat} {m : Nat} {H : Hp} {Q : VK} {E : XK} (hx : Fr m H x a) (hy : Fr m H y b) (hm : m ≤ 3000) (k : ∀ v H', Same H H' → TupI H' v (lsN b a) (lsD a b) → (lsN b a).natAbs < 2 ^ (m + m + 1) → (lsD a b).natAbs < 2 ^ (m + m) → Q v H') : sp_law_gap [x, y] H Q E := ⟨x, y, a, b, m, rfl, hx, hy, hm, k⟩
local macro_rules | `(tactic| walk_at "call") => `(tactic| ((with_reducible refine' u_law_gap ?h1 ?h2 ?h4 ?k); (case h1 => walk_at "fr"); (case h2 => walk_at "fr"); (case h4 => omega); intro _ _ _ _ _ _))
abbrev s_law_twice : Stmt := top 18
theorem sc_law_twice : FnScope ["_law_one", "_law_other", "_law_third", "_law_right", "_law_up", "_law_across", "_law_high", "_law_top"] ["_law_one", "_law_other", "_law_third"] (defScope s_law_twice) := ⟨rfl, rfl, rfl, by decide +kernel, rfl, by decide +kernel, by decide +kernel⟩
def sp_law_twice : Sp := fun vs H Q _ => ∃ (x y z : V) (a b c : Rat × Rat) (m : Nat), vs = [x, y, z] ∧ Spt m H x a ∧ Spt m H y b ∧ Spt m H z c ∧ m ≤ 1000 ∧ ∀ v (T B : Int) H', Same H H' → TupI H' v T B → 0 < B → (T : Rat) = tw a b c * (B : Rat) → T.natAbs < 2 ^ (8 * m + 10) → B.natAbs < 2 ^ (8 * m + 10) → Q v H'

set_option maxHeartbeats 4000000 in
theorem ok_law_twice {f : Addr} {fd : FuncData} (F : Fun K "_law_twice" "_law_twice" s_law_twice f fd) (m : mg "_law_twice" = some (.ref f)) (b : Binds K fd ["_law_one", "_law_other", "_law_third"] []) (C_law_gap : Cal P w K mg base 1 "_law_gap" ["_law_here", "_law_there"] sp_law_gap) : Cal P w K mg base 2 "_law_twice" ["_law_one", "_law_other", "_law_third"] sp_law_twice := by
  refine cal_ofW F sc_law_twice m b (fun vs H Q E h => ?_) (fun cdv A outer s H vs Q E hr h => ?_)
  · obtain ⟨x, y, z, a, b, c, m, rfl, _⟩ := h
    rfl
  · obtain ⟨x, y, z, a, b, c, m, rfl, hx, hy, hz, hm, k⟩ := h
    refine ⟨_, (wss_cons ⟨(ps_par (i := 3) (j := 4) (by rfl) sc_law_twice.nd rfl rfl (by decide) rfl rfl (pa_cons (pe_callC C_law_gap hr (by decide) (by rfl) (pa_cons (pe_ix ix_seq (pv 0) pe_int (fun _ _ => rfl)) (pa_cons (pe_ix ix_seq (pv 1) pe_int (fun _ _ => rfl)) pa_nil se_Subscript) se_Subscript) (by decide) se_Subscript (se_any rfl)) (pa_cons (pe_callC C_law_gap hr (by decide) (by rfl) (pa_cons (pe_ix ix_seq (pv 0) pe_int (fun _ _ => rfl)) (pa_cons (pe_ix ix_seq (pv 1) pe_int (fun _ _ => rfl)) pa_nil se_Subscript) se_Subscript) (by decide) se_Subscript (se_any rfl)) pa_nil se_Call) se_Call) (by rfl))⟩
        (wss_cons ⟨(ps_par (i := 5) (j := 6) (by rfl) sc_law_twice.nd rfl rfl (by decide) rfl rfl (pa_cons (pe_callC C_law_gap hr (by decide) (by rfl) (pa_cons (pe_ix ix_seq (pv 0) pe_int (fun _ _ => rfl)) (pa_cons (pe_ix ix_seq (pv 2) pe_int (fun _ _ => rfl)) pa_nil se_Subscript) se_Subscript) (by decide) se_Subscript (se_any rfl)) (pa_cons (pe_callC C_law_gap hr (by decide) (by rfl) (pa_cons (pe_ix ix_seq (pv 0) pe_int (fun _ _ => rfl)) (pa_cons (pe_ix ix_seq (pv 2) pe_int (fun _ _ => rfl)) pa_nil se_Subscript) se_Subscript) (by decide) se_Subscript (se_any rfl)) pa_nil se_Call) se_Call) (by rfl))⟩
        (wss_cons ⟨(ps_set (i := 7) sc_law_twice.nd rfl (by first | exact Or.inl rfl | exact Or.inr rfl) (pe_op op_mulB (pe_op op_mulB (pe_op op_mulB (pe_ix ix_seq (pv 3) pe_int (fun _ _ => rfl)) (pe_ix ix_seq (pv 6) pe_int (fun _ _ => rfl))) (pe_ix ix_seq (pv 4) pe_int (fun _ _ => rfl))) (pe_ix ix_seq (pv 5) pe_int (fun _ _ => rfl))))⟩
        (wss_one ⟨(ps_ret (pe_tup (pa_cons (pe_op op_sub (pv 7) (pe_op op_mulB (pe_op op_mulB (pe_op op_mulB (pe_ix ix_seq (pv 5) pe_int (fun _ _ => rfl)) (pe_ix ix_seq (pv 4) pe_int (fun _ _ => rfl))) (pe_ix ix_seq (pv 3) pe_int (fun _ _ => rfl))) (pe_ix ix_seq (pv 6) pe_int (fun _ _ => rfl)))) (pa_cons (pe_op op_mulB (pe_op op_mulB (pe_op op_mulB (pe_ix ix_seq (pv 3) pe_int (fun _ _ => rfl)) (pe_ix ix_seq (pv 6) pe_int (fun _ _ => rfl))) (pe_ix ix_seq (pv 4) pe_int (fun _ _ => rfl))) (pe_ix ix_seq (pv 5) pe_int (fun _ _ => rfl))) pa_nil se_BinOp) se_BinOp)))⟩)))), ?_⟩
    have e : start ["_law_one", "_law_other", "_law_third", "_law_right", "_law_up", "_law_across", "_law_high", "_law_top"] [x, y, z] = [some x, some y, some z, none, none, none, none, none] := rfl
    rw [e]
    walk_at "go"
    rename_i e1a f1a e1b f1b v1 H1 s1 t1 n1 d1 e2a f2a e2b f2b v2 H2 s2 t2 n2 d2 e3a f3a e3b f3b v3 H3 s3 t3 n3 d3 e4a f4a e4b f4b v4 H4 s4 t4 n4 d4
    have p1 := mul_bd n1 n4
    have p2 := mul_bd p1 d2
    have p3 := mul_bd p2 d3
    have q1 := mul_bd n3 n2
    have q2 := mul_bd q1 d1
    have q3 := mul_bd q2 d4
    have b1 := mul_bd d1 d4
    have b2 := mul_bd b1 d2
    have b3 := mul_bd b2 d3
    refine ⟨mulOk n1 n4 (by omega), ?_⟩
    walk_at "go"
    refine ⟨mulOk p1 d2 (by omega), ?_⟩
    walk_at "go"
    refine ⟨mulOk p2 d3 (by omega), ?_⟩
    walk_at "go"
    refine ⟨mulOk n3 n2 (by omega), ?_⟩
    walk_at "go"
    refine ⟨mulOk q1 d1 (by omega), ?_⟩
    walk_at "go"
    refine ⟨mulOk q2 d4 (by omega), ?_⟩
    walk_at "go"
    refine ⟨mulOk d1 d4 (by omega), ?_⟩
    walk_at "go"
    refine ⟨mulOk b1 d2 (by omega), ?_⟩
    walk_at "go"
    refine ⟨mulOk b2 d3 (by omega), ?_⟩
    walk_at "go"
    refine newT (Nat.le_of_ble_eq_true rfl) (fun p H5 s5 hp e5 => ?_)
    refine k _ _ _ H5 (s1.trans (s2.trans (s3.trans (s4.trans s5)))) ⟨p, rfl, e5⟩ ?_ ?_ ?_ (bdle b3 (by omega))
    · exact Int.mul_pos (Int.mul_pos (Int.mul_pos (lsD_pos _ _) (lsD_pos _ _)) (lsD_pos _ _)) (lsD_pos _ _)
    · have g1 := gap_q (x := a.1) (y := b.1)
      have g2 := gap_q (x := a.2) (y := b.2)
      have g3 := gap_q (x := a.1) (y := c.1)
      have g4 := gap_q (x := a.2) (y := c.2)
      simp only [Rat.intCast_sub, Rat.intCast_mul]
      rw [g1, g2, g3, g4]
      unfold tw
      grind
    · have e1 : ∀ u v : Int, u - v = u + -v := fun u v => by omega
      rw [e1]
      exact bdle (add_bd2 (bdle p3 (Nat.le_refl _)) (by rw [Int.natAbs_neg]; exact bdle q3 (by omega))) (by omega)
theorem u_law_twice {x y z : V} {a b c : Rat × Rat} {m : Nat} {H : Hp} {Q : VK} {E : XK} (hx : Spt m H x a) (hy : Spt m H y b) (hz : Spt m H z c) (hm : m ≤ 1000) (k : ∀ v (T B : Int) H', Same H H' → TupI H' v T B → 0 < B → (T : Rat) = tw a b c * (B : Rat) → T.natAbs < 2 ^ (8 * m + 10) → B.natAbs < 2 ^ (8 * m + 10) → Q v H') : sp_law_twice [x, y, z] H Q E := ⟨x, y, z, a, b, c, m, rfl, hx, hy, hz, hm, k⟩
abbrev s_law_frac : Stmt := top 20
theorem sc_law_frac : FnScope ["_law_row", "_law_small"] ["_law_row", "_law_small"] (defScope s_law_frac) := ⟨rfl, rfl, rfl, by decide +kernel, rfl, by decide +kernel, by decide +kernel⟩
theorem rowLe {n m : Nat} {H : Hp} {r : Addr} (l : n ≤ m) (h : Row n H r) : Row m H r := by
  obtain ⟨c, j, e, h0, h1⟩ := h.ex
  exact ⟨c, j, e, h0, by omega⟩
def bsm (b : Bool) : Nat := if b then 4 else 102
def sp_law_frac : Sp := fun vs H Q _ => ∃ (r : Addr) (b : Bool) (n : Nat), vs = [.ref r, .bl b] ∧ Row n H r ∧ n + 200 ≤ 1000000 ∧ ∀ v q H', Fr (bsm b) H' v q → Row (n + 3) H' r → Kp r H H' → Tk H H' → Q v H'

set_option maxHeartbeats 4000000 in
theorem ok_law_frac {f : Addr} {fd : FuncData} (F : Fun K "_law_frac" "_law_frac" s_law_frac f fd) (m : mg "_law_frac" = some (.ref f)) (b : Binds K fd ["_law_row", "_law_small"] []) (C_law_lowest : Cal P w K mg base 1 "_law_lowest" ["_law_top", "_law_bottom"] sp_law_lowest) (C_law_take : Cal P w K mg base 1 "_law_take" ["_law_row", "_law_base"] sp_law_take) : Cal P w K mg base 2 "_law_frac" ["_law_row", "_law_small"] sp_law_frac := by
  refine cal_ofW F sc_law_frac m b (fun vs H Q E h => ?_) (fun cdv A outer s H vs Q E hr h => ?_)
  · obtain ⟨r, b, n, rfl, _⟩ := h
    rfl
  · obtain ⟨r, b, n, rfl, hrow, hn, k⟩ := h
    have le4 : 4 ≤ bsm b := by cases b <;> decide
    refine ⟨_, (wss_cons (ws_if (PW.pt (pw_or (pt_val (pv 1)) (pw_or1 (pt_cmpR op_gt (pe_callC C_law_take hr (by decide) (by rfl) (pa_cons (pv 0) (pa_cons pe_int pa_nil se_Constant) se_Name) (by decide) se_Name (se_any rfl)) pe_int (nomark _))))) (wss_one ⟨(ps_ret (pe_callC C_law_lowest hr (by decide) (by rfl) (pa_cons (pe_op op_sub (pe_callC C_law_take hr (by decide) (by rfl) (pa_cons (pv 0) (pa_cons pe_int pa_nil se_Constant) se_Name) (by decide) se_Name (se_any rfl)) pe_int) (pa_cons (pe_op op_addA pe_int (pe_callC C_law_take hr (by decide) (by rfl) (pa_cons (pv 0) (pa_cons pe_int pa_nil se_Constant) se_Name) (by decide) se_Name (se_any rfl))) pa_nil se_BinOp) se_BinOp) (by decide) se_BinOp (se_any rfl)))⟩) wss_nil)
        (wss_one ⟨(ps_ret (pe_callC C_law_lowest hr (by decide) (by rfl) (pa_cons (pe_op op_addA (pe_op op_sub (pe_callC C_law_take hr (by decide) (by rfl) (pa_cons (pv 0) (pa_cons (pe_op op_sub (pe_op op_mulB pe_int (pe_op op_pow pe_int pe_int)) pe_int) pa_nil se_BinOp) se_Name) (by decide) se_Name (se_any rfl)) (pe_op op_pow pe_int pe_int)) pe_int) (pa_cons (pe_op op_addA pe_int (pe_callC C_law_take hr (by decide) (by rfl) (pa_cons (pv 0) (pa_cons (pe_op op_sub (pe_op op_pow pe_int pe_int) pe_int) pa_nil se_BinOp) se_Name) (by decide) se_Name (se_any rfl))) pa_nil se_BinOp) se_BinOp) (by decide) se_BinOp (se_any rfl)))⟩)), ?_⟩
    have e : start ["_law_row", "_law_small"] [V.ref r, V.bl b] = [some (.ref r), some (.bl b)] := rfl
    rw [e]
    try walk_at "vc"
    cases b with
    | true =>
      try walk_at "vc"
      refine u_law_take hrow (by omega) (by decide) (by decide) (fun v H3 a3 b3 row3 kp3 tk3 => ?_)
      try walk_at "vc"
      refine u_law_take row3 (by omega) (by decide) (by decide) (fun w H4 a4 b4 row4 kp4 tk4 => ?_)
      try walk_at "vc"
      refine u_law_lowest 4 (by omega) (by show _ < 16; omega) (by show _ < 16; omega) (by decide) (fun u H5 s5 f5 => ?_)
      exact k _ _ _ (f5.le le4) (rowLe (Nat.le_succ _) (by walk_at "row")) (by walk_at "kp") (by walk_at "tk")
    | false =>
      try walk_at "vc"
      refine u_law_take hrow (by omega) (by decide) (by decide) (fun t H2 a2 b2 row2 kp2 tk2 => ?_)
      try walk_at "vc"
      refine ite_d (fun c1 => ?_) (fun c1 => ?_)
      · try walk_at "vc"
        refine u_law_take row2 (by omega) (by decide) (by decide) (fun v H3 a3 b3 row3 kp3 tk3 => ?_)
        try walk_at "vc"
        refine u_law_take row3 (by omega) (by decide) (by decide) (fun w H4 a4 b4 row4 kp4 tk4 => ?_)
        try walk_at "vc"
        refine u_law_lowest 4 (by omega) (by show _ < 16; omega) (by show _ < 16; omega) (by decide) (fun u H5 s5 f5 => ?_)
        exact k _ _ _ (f5.le le4) (by walk_at "row") (by walk_at "kp") (by walk_at "tk")
      · try walk_at "vc"
        refine u_law_take row2 (by omega) (by decide) (by decide) (fun v H3 a3 b3 row3 kp3 tk3 => ?_)
        try walk_at "vc"
        refine u_law_take row3 (by omega) (by decide) (by decide) (fun w H4 a4 b4 row4 kp4 tk4 => ?_)
        try walk_at "vc"
        refine u_law_lowest 102 (by omega) (by show _ < 2 ^ 102; omega) (by show _ < 2 ^ 102; omega) (by decide) (fun u H5 s5 f5 => ?_)
        exact k _ _ _ (f5.le (by decide)) (by walk_at "row") (by walk_at "kp") (by walk_at "tk")
theorem u_law_frac {r : Addr} {b : Bool} {n : Nat} {H : Hp} {Q : VK} {E : XK} (h : Row n H r) (hn : n + 200 ≤ 1000000) (k : ∀ v q H', Fr (bsm b) H' v q → Row (n + 3) H' r → Kp r H H' → Tk H H' → Q v H') : sp_law_frac [.ref r, .bl b] H Q E := ⟨r, b, n, rfl, h, hn, k⟩
abbrev s_law_spot : Stmt := top 21
theorem sc_law_spot : FnScope ["_law_row", "_law_some", "_law_small"] ["_law_row", "_law_some", "_law_small"] (defScope s_law_spot) := ⟨rfl, rfl, rfl, by decide +kernel, rfl, by decide +kernel, by decide +kernel⟩
def sp_law_spot : Sp := fun vs H Q _ => ∃ (r l : Addr) (b : Bool) (xs : List V) (ps : List (Rat × Rat)) (n : Nat), vs = [.ref r, .ref l, .bl b] ∧ Row n H r ∧ n + 400 ≤ 1000000 ∧ H l = some (.lst xs) ∧ SpL (bsm b) H xs ps ∧ l ≠ r ∧ xs.length ≤ 1000 ∧ ∀ v p H', Spt (bsm b) H' v p → Row (n + 7) H' r → Kp r H H' → Tk H H' → Q v H'

set_option maxHeartbeats 4000000 in
theorem ok_law_spot {f : Addr} {fd : FuncData} (F : Fun K "_law_spot" "_law_spot" s_law_spot f fd) (m : mg "_law_spot" = some (.ref f)) (b : Binds K fd ["_law_row", "_law_some", "_law_small"] []) (z_len : mg "len" = none) (C_law_frac : Cal P w K mg base 2 "_law_frac" ["_law_row", "_law_small"] sp_law_frac) (C_law_take : Cal P w K mg base 1 "_law_take" ["_law_row", "_law_base"] sp_law_take) : Cal P w K mg base 3 "_law_spot" ["_law_row", "_law_some", "_law_small"] sp_law_spot := by
  refine cal_ofW F sc_law_spot m b (fun vs H Q E h => ?_) (fun cdv A outer s H vs Q E hr h => ?_)
  · obtain ⟨r, l, b, xs, ps, n, rfl, _⟩ := h
    rfl
  · obtain ⟨r, l, b, xs, ps, n, rfl, hrow, hn, el, hx, nlr, hl, k⟩ := h
    refine ⟨_, (wss_cons (ws_if (PW.pt (pw_and (pt_cmpR (op_neA hr.units) (pv 1) (pe_lst pa_nil) (nomark _)) (pw_and1 (pt_cmpR (op_eqA hr.units) (pe_callC C_law_take hr (by decide) (by rfl) (pa_cons (pv 0) (pa_cons pe_int pa_nil se_Constant) se_Name) (by decide) se_Name (se_any rfl)) pe_int (nomark _))))) (wss_one ⟨(ps_ret (pe_ix ix_seq (pv 1) (pe_callC C_law_take hr (by decide) (by rfl) (pa_cons (pv 0) (pa_cons (pe_callB call_lenA (by rfl) z_len bt_len (pa_cons (pv 1) pa_nil se_Name)) pa_nil se_Call) se_Name) (by decide) se_Name (se_any rfl)) (fun _ _ => rfl)))⟩) wss_nil)
        (wss_one ⟨(ps_ret (pe_tup (pa_cons (pe_callC C_law_frac hr (by decide) (by rfl) (pa_cons (pv 0) (pa_cons (pv 2) pa_nil se_Name) se_Name) (by decide) se_Name (se_any rfl)) (pa_cons (pe_callC C_law_frac hr (by decide) (by rfl) (pa_cons (pv 0) (pa_cons (pv 2) pa_nil se_Name) se_Name) (by decide) se_Name (se_any rfl)) pa_nil se_Call) se_Call)))⟩)), ?_⟩
    have e : start ["_law_row", "_law_some", "_law_small"] [V.ref r, V.ref l, V.bl b] = [some (.ref r), some (.ref l), some (.bl b)] := rfl
    rw [e]
    try walk_at "vc"
    refine newL (Nat.le_of_ble_eq_true rfl) (fun pl H1 s1 np ep => ?_)
    have two : ∀ n2 H2, n2 ≤ n + 1 → Row n2 H2 r → Kp r H H2 → Tk H H2 → sp_law_frac [V.ref r, V.bl b] H2 (fun x H1 => sp_law_frac [V.ref r, V.bl b] H1 (fun x_1 H1 => NewT [x, x_1] H1 Q) E0) E0 := fun n2 H2 l2 row2 kp2 tk2 => by
      refine u_law_frac row2 (by omega) (fun v q H3 f3 row3 kp3 tk3 => ?_)
      refine u_law_frac row3 (by omega) (fun v4 q4 H4 f4 row4 kp4 tk4 => ?_)
      refine newS (f3.tk tk4) f4 (fun p H5 s5 f5 => ?_)
      exact k _ _ _ f5 (rowLe (by omega) (row4.mono s5)) (kp2.trans (kp3.trans (kp4.trans s5.kp))) (tk2.trans (tk3.trans (tk4.trans s5.tk)))
    have el1 := s1 _ _ el
    have hx1 := hx.tk s1.tk
    have row1 := hrow.mono s1
    have shd : SeqAt.shaped (.list (ps.map dS)) = true := (ShN.list (n := 3) fun d hd => by obtain ⟨a, _, rfl⟩ := List.mem_map.mp hd; exact ShN.dS a).sh (by decide)
    refine ne_d (.lst (SqL.of el1) (spl_dp hx1)) (.lst (SqL.of ep) .nil) shd rfl ?_
    refine ⟨_, rfl, ?_⟩
    cases ps with
    | nil =>
      rw [show (!PyData.eqv (.list (([] : List (Rat × Rat)).map dS)) (.list [])) = false from rfl]
      rw [if_neg (by decide)]
      exact two n H1 (by omega) row1 s1.kp s1.tk
    | cons p0 ps0 =>
      rw [show (!PyData.eqv (.list ((p0 :: ps0).map dS)) (.list [])) = true from rfl]
      rw [if_pos rfl]
      refine u_law_take row1 (by omega) (by decide) (by decide) (fun v H2 a2 b2 row2 kp2 tk2 => ?_)
      try walk_at "vc"
      have el2 := kp2 _ _ el1 nlr
      have hx2 := hx1.tk tk2
      refine eq_i ?_
      refine ⟨_, rfl, ?_⟩
      refine ite_d (fun c1 => ?_) (fun c1 => ?_)
      · refine len_l el2 ?_
        have hxl := hx.1
        rw [List.length_cons] at hxl
        refine u_law_take row2 (by omega) (by omega) (Int.lt_of_le_of_lt (show (xs.length : Int) ≤ 1000 by omega) (by decide)) (fun w H3 a3 b3 row3 kp3 tk3 => ?_)
        have el3 := kp3 _ _ el2 nlr
        have hx3 := hx2.tk tk3
        obtain ⟨j, rfl⟩ := Int.eq_ofNat_of_zero_le a3
        have hj : j < xs.length := by omega
        obtain ⟨q, eq, fq⟩ := hx3.2 j xs[j] (List.getElem?_eq_getElem hj)
        refine ix_lst el3 (List.getElem?_eq_getElem hj) ?_
        exact k _ _ _ fq (rowLe (by omega) row3) (s1.kp.trans (kp2.trans kp3)) (s1.tk.trans (tk2.trans tk3))
      · exact two (n + 1) H2 (by omega) row2 (s1.kp.trans kp2) (s1.tk.trans tk2)
theorem u_law_spot {r l : Addr} {b : Bool} {xs : List V} {ps : List (Rat × Rat)} {n : Nat} {H : Hp} {Q : VK} {E : XK} (h : Row n H r) (hn : n + 400 ≤ 1000000) (el : H l = some (.lst xs)) (hx : SpL (bsm b) H xs ps) (nlr : l ≠ r) (hl : xs.length ≤ 1000) (k : ∀ v p H', Spt (bsm b) H' v p → Row (n + 7) H' r → Kp r H H' → Tk H H' → Q v H') : sp_law_spot [.ref r, .ref l, .bl b] H Q E := ⟨r, l, b, xs, ps, n, rfl, h, hn, el, hx, nlr, hl, k⟩
abbrev s_law : Stmt := top 22
theorem sc_law : FnScope ["_law_script", "_law_cell", "_law_row", "_law_some", "_law_threes", "_law_small", "_law_k", "_law_j", "_law_total", "_law_one", "_law_other", "_law_third", "_law_top", "_law_bottom", "_law_spot_here", "_law_goal", "_law_three", "_law_corner", "_law_due", "_law_handed", "_law_found"] ["_law_script"] (defScope s_law) := ⟨rfl, rfl, rfl, by decide +kernel, rfl, by decide +kernel, by decide +kernel⟩
theorem ix_lstN {K : PySem.W.Frag} {H : Hp} {Q : VK} {a : Addr} {xs : List V} {j : Nat} {i : Int} {v : V} (h : H a = some (.lst xs)) (hj : 0 < j) (hl : j ≤ xs.length) (hi : i = -(j : Int)) (e : xs[xs.length - j]? = some v) (k : Q v H) : rIx K (.ref a) (.int i) H Q := by
  refine .inl ⟨a, xs, i, v, rfl, rfl, SqL.of h, ?_, k⟩
  subst hi
  have e2 : ixN xs.length (-(j : Int)) = some (xs.length - j) := by
    unfold ixN
    rw [if_neg (by omega), if_pos (by omega)]
    congr 1
    omega
  unfold atI
  rw [e2]
  exact e
theorem dvo {t B : Int} {S : Rat} (hB : B ≠ 0) (h : (t : Rat) = S * (B : Rat)) : Rat.divInt t B = S := by
  have hB' : (B : Rat) ≠ 0 := fun z => hB (by exact_mod_cast z)
  rw [Rat.divInt_eq_div, h, Rat.div_def, Rat.mul_assoc, Rat.mul_inv_cancel _ hB', Rat.mul_one]
theorem numOf (q : Rat) : (q.num : Rat) = q * (q.den : Rat) := by
  have hd : (q.den : Rat) ≠ 0 := fun z => Nat.ne_of_gt q.den_pos (by exact_mod_cast z)
  have h := Rat.num_divInt_den q
  rw [Rat.divInt_eq_div, Rat.intCast_natCast, Rat.div_def] at h
  calc (q.num : Rat) = q.num * ((q.den : Rat)⁻¹ * q.den) := by rw [Rat.inv_mul_cancel _ hd, Rat.mul_one]
    _ = q * q.den := by rw [← Rat.mul_assoc, h]
theorem tot_v {q t : Rat} {T B : Int} (b0 : 0 < B) (eT : (T : Rat) = t * (B : Rat)) : Rat.divInt (q.num * B + T * (q.den : Int)) ((q.den : Int) * B) = q + t := by
  have hd := q.den_pos
  refine dvo (Int.mul_ne_zero (by omega) (by omega)) ?_
  rw [Rat.intCast_add, Rat.intCast_mul, Rat.intCast_mul, Rat.intCast_mul, Rat.intCast_natCast, numOf q, eT]
  grind
theorem half_v {q : Rat} : Rat.divInt q.num (2 * (q.den : Int)) = q * hlf := by
  have hd := q.den_pos
  have h2 : hlf * 2 = 1 := by decide +kernel
  refine dvo (by omega) ?_
  rw [Rat.intCast_mul, Rat.intCast_natCast, numOf q]
  have e : ((2 : Int) : Rat) = 2 := rfl
  rw [e]
  grind
theorem tot_b {x y u v : Int} {e t n : Nat} (h1 : x.natAbs < 2 ^ e) (h2 : u.natAbs < 2 ^ e) (hT : y.natAbs < 2 ^ t) (hB : v.natAbs < 2 ^ t) (hn : e + t + 1 ≤ n) : (x * v + y * u).natAbs < 2 ^ n := by
  have a1 := Nat.mul_lt_mul'' h1 hB
  have a2 := Nat.mul_lt_mul'' hT h2
  have a3 := Int.natAbs_add_le (x * v) (y * u)
  rw [Int.natAbs_mul, Int.natAbs_mul] at a3
  have a4 : 2 ^ (e + t + 1) ≤ 2 ^ n := Nat.pow_le_pow_right (by decide) hn
  rw [Nat.pow_succ, Nat.pow_add] at a4
  rw [Nat.mul_comm (2 ^ t) (2 ^ e)] at a2
  omega
theorem tot_d {u v : Int} {e t n : Nat} (h2 : u.natAbs < 2 ^ e) (hB : v.natAbs < 2 ^ t) (hn : e + t + 1 ≤ n) : (u * v).natAbs < 2 ^ n := by
  have a1 := Nat.mul_lt_mul'' h2 hB
  rw [Int.natAbs_mul]
  have a4 : 2 ^ (e + t + 1) ≤ 2 ^ n := Nat.pow_le_pow_right (by decide) hn
  rw [Nat.pow_succ, Nat.pow_add] at a4
  omega
theorem isi_l60 {K : PySem.W.Frag} {H : Hp} {Q : VK} {a : Addr} {xs : List V} (e : H a = some (.lst xs)) (k : Q (.bl true) H) : rIsi K [.ref a, .ty "list"] H Q := ⟨_, _, _, _, _, rfl, rfl, .lst e, rfl, k⟩
theorem isi_t60 {K : PySem.W.Frag} {H : Hp} {Q : VK} {a : Addr} {xs : List V} (e : H a = some (.tup xs)) (k : Q (.bl true) H) : rIsi K [.ref a, .ty "tuple"] H Q := ⟨_, _, _, _, _, rfl, rfl, .tup e, rfl, k⟩
theorem sumQ_end {qs : List Rat} {q : Rat} : sumQ (qs ++ [q]) = sumQ qs + q := by
  unfold sumQ
  rw [List.foldl_append]
  rfl
theorem Tps.three {K : PySem.W.Frag} {m : Nat} {H : Hp} {p : Addr} {a b c : Rat × Rat} {t : TGs} {σ : L2.St} {Q : L2.St → Hp → Prop} (h : Tps m H p [a, b, c]) (k : ∀ x y z, Spt m H x a → Spt m H y b → Spt m H z c → t [x, y, z] σ H Q) : gSeq K 3 t (.ref p) σ H Q := by
  obtain ⟨xs, e, hl, hs⟩ := h.ex
  match xs, hl, e, hs with
  | [x, y, z], _, e, hs =>
    obtain ⟨_, e1, h1⟩ := hs 0 x rfl
    obtain ⟨_, e2, h2⟩ := hs 1 y rfl
    obtain ⟨_, e3, h3⟩ := hs 2 z rfl
    cases e1; cases e2; cases e3
    exact seq_t e rfl (k x y z h1 h2 h3)
/-- the heap where pieces are drawn: spots at S, pieces at D, both of the row's bits -/
structure Dr (m n : Nat) (S D r p3 : Addr) (tbs : List Addr) (cs : List V) (i j : Nat) (H : Hp) (pss : List (List (Rat × Rat))) : Prop where
  so : ∃ xs ps, H S = some (.lst xs) ∧ SpL m H xs ps ∧ xs.length = 3 * i + j
  th : ∃ ds, H D = some (.lst ds) ∧ Pcs m H ds pss
  len : pss.length = i
  three : ∀ ps ∈ pss, ps.length = 3
  row : Row n H r
  cells : H p3 = some (.lst cs)
  tb : Tbs tbs H
def sp_law (K : PySem.W.Frag) (tbs : List Addr) : Sp := fun vs H Q _ => ∃ (a : Addr) (ns : List Int), vs = [.ref a] ∧ SqL K H a (ns.map V.int) ∧ ns.length ≤ 63 ∧ Tbs tbs H ∧ ∀ H1, Tbs tbs H1 → Q (.bl true) H1

set_option maxHeartbeats 4000000 in
theorem ok_law {f : Addr} {fd : FuncData} (F : Fun K "law" "law" s_law f fd) (z_range : mg "range" = none) (z_list : mg "list" = none) (z_tuple : mg "tuple" = none) (z_int : mg "int" = none) (z_isinstance : mg "isinstance" = none) (z_all : mg "all" = none) (C_law_lowest : Cal P w K mg base 1 "_law_lowest" ["_law_top", "_law_bottom"] sp_law_lowest) (C_with_moved : Cal P w K mg base 2 "with_moved" ["pieces", "spot", "goal"] (sp_with_moved tbs)) (C_law_take : Cal P w K mg base 1 "_law_take" ["_law_row", "_law_base"] sp_law_take) (C_law_twice : Cal P w K mg base 2 "_law_twice" ["_law_one", "_law_other", "_law_third"] sp_law_twice) (C_law_spot : Cal P w K mg base 3 "_law_spot" ["_law_row", "_law_some", "_law_small"] sp_law_spot) (C_signed_sum : Cal P w K mg base 5 "signed_sum" ["pieces"] sp_signed_sum) (C_law_is_frac : Cal P w K mg base 2 "_law_is_frac" ["_law_found"] sp_law_is_frac) : FnOk P w K mg base CX0 6 f fd ["_law_script"] (sp_law K tbs) := by
  refine okW F sc_law (fun vs H Q E h => ?_) (fun cdv A outer s H vs Q E hr h => ?_)
  · obtain ⟨a, ns, rfl, _⟩ := h
    rfl
  · obtain ⟨a, ns, rfl, hS, hlen, tb0, k⟩ := h
    refine ⟨_, (wss_cons (ws_for PassesOwn.never rfl ⟨(pi_list (pe_op op_addA (pe_lst (pa_cons pe_int pa_nil se_Constant)) (pe_slice sl_list (pv 0) po_none (po_some pe_int))))⟩ (pg_name (i := 1) sc_law.nd rfl (by first | exact Or.inl rfl | exact Or.inr rfl)) (wss_cons ⟨(ps_set (i := 2) sc_law.nd rfl (by first | exact Or.inl rfl | exact Or.inr rfl) (pe_lst (pa_cons (pv 1) (pa_cons pe_int pa_nil se_Constant) se_Name)))⟩
        (wss_cons ⟨(ps_set (i := 3) sc_law.nd rfl (by first | exact Or.inl rfl | exact Or.inr rfl) (pe_lst pa_nil))⟩
        (wss_cons ⟨(ps_set (i := 4) sc_law.nd rfl (by first | exact Or.inl rfl | exact Or.inr rfl) (pe_lst pa_nil))⟩
        (wss_cons ⟨(ps_set (i := 5) sc_law.nd rfl (by first | exact Or.inl rfl | exact Or.inr rfl) (pe_cmpR (op_eqA hr.units) (pe_callC C_law_take hr (by decide) (by rfl) (pa_cons (pv 2) (pa_cons pe_int pa_nil se_Constant) se_Name) (by decide) se_Name (se_any rfl)) pe_int (nomark _)))⟩
        (wss_cons (ws_for PassesOwn.never rfl ⟨(pi_range1 (by rfl) z_range (pa_cons (pe_ix ix_seq (pe_lst (pa_cons (pe_callC C_law_take hr (by decide) (by rfl) (pa_cons (pv 2) (pa_cons pe_int pa_nil se_Constant) se_Name) (by decide) se_Name (se_any rfl)) (pa_cons pe_int pa_nil se_Constant) se_Call)) (pe_callTy call_int1 (by rfl) z_int bt_int (pa_cons (pv 5) pa_nil se_Name)) (fun _ _ => rfl)) pa_nil se_Subscript))⟩ (pg_name (i := 6) sc_law.nd rfl (by first | exact Or.inl rfl | exact Or.inr rfl)) (wss_cons (ws_for PassesOwn.never rfl ⟨(pi_range1 (by rfl) z_range (pa_cons pe_int pa_nil se_Constant))⟩ (pg_name (i := 7) sc_law.nd rfl (by first | exact Or.inl rfl | exact Or.inr rfl)) (wss_one ⟨(ps_expr (pe_bm PySem.F.plainAttrs_list PySem.F.slot_list_append PySem.F.type_list_append mt_append (pv 3) (pa_cons (pe_callC C_law_spot hr (by decide) (by rfl) (pa_cons (pv 2) (pa_cons (pv 3) (pa_cons (pv 5) pa_nil se_Name) se_Name) se_Name) (by decide) se_Name (se_any rfl)) pa_nil se_Call)))⟩))
        (wss_one ⟨(ps_expr (pe_bm PySem.F.plainAttrs_list PySem.F.slot_list_append PySem.F.type_list_append mt_append (pv 4) (pa_cons (pe_tup (pa_cons (pe_ix ix_seq (pv 3) (pe_un un_neg pe_int) (fun _ _ => rfl)) (pa_cons (pe_ix ix_seq (pv 3) (pe_un un_neg pe_int) (fun _ _ => rfl)) (pa_cons (pe_ix ix_seq (pv 3) (pe_un un_neg pe_int) (fun _ _ => rfl)) pa_nil se_Subscript) se_Subscript) se_Subscript)) pa_nil se_Tuple)))⟩)))
        (wss_cons ⟨(ps_set (i := 8) sc_law.nd rfl (by first | exact Or.inl rfl | exact Or.inr rfl) pe_ci2)⟩
        (wss_cons (ws_for PassesOwn.never rfl ⟨(pi_list (pv 4))⟩ (pg_seq (n := 3) (by rfl) (pgs_cons (pg_name (i := 9) sc_law.nd rfl (by first | exact Or.inl rfl | exact Or.inr rfl)) (pgs_cons (pg_name (i := 10) sc_law.nd rfl (by first | exact Or.inl rfl | exact Or.inr rfl)) (pgs_cons (pg_name (i := 11) sc_law.nd rfl (by first | exact Or.inl rfl | exact Or.inr rfl)) pgs_nil)))) (wss_cons ⟨(ps_asg (pe_callC C_law_twice hr (by decide) (by rfl) (pa_cons (pv 9) (pa_cons (pv 10) (pa_cons (pv 11) pa_nil se_Name) se_Name) se_Name) (by decide) se_Name (se_any rfl)) (pg_seq (n := 2) (by rfl) (pgs_cons (pg_name (i := 12) sc_law.nd rfl (by first | exact Or.inl rfl | exact Or.inr rfl)) (pgs_cons (pg_name (i := 13) sc_law.nd rfl (by first | exact Or.inl rfl | exact Or.inr rfl)) pgs_nil))))⟩
        (wss_one ⟨(ps_set (i := 8) sc_law.nd rfl (by first | exact Or.inl rfl | exact Or.inr rfl) (pe_callC C_law_lowest hr (by decide) (by rfl) (pa_cons (pe_op op_addA (pe_op op_mulB (pe_ix ix_seq (pv 8) pe_int (fun _ _ => rfl)) (pv 13)) (pe_op op_mulB (pv 12) (pe_ix ix_seq (pv 8) pe_int (fun _ _ => rfl)))) (pa_cons (pe_op op_mulB (pe_ix ix_seq (pv 8) pe_int (fun _ _ => rfl)) (pv 13)) pa_nil se_BinOp) se_BinOp) (by decide) se_BinOp (se_any rfl)))⟩)))
        (wss_cons ⟨(ps_set (i := 8) sc_law.nd rfl (by first | exact Or.inl rfl | exact Or.inr rfl) (pe_callC C_law_lowest hr (by decide) (by rfl) (pa_cons (pe_ix ix_seq (pv 8) pe_int (fun _ _ => rfl)) (pa_cons (pe_op op_mulB pe_int (pe_ix ix_seq (pv 8) pe_int (fun _ _ => rfl))) pa_nil se_BinOp) se_Subscript) (by decide) se_Subscript (se_any rfl)))⟩
        (wss_cons ⟨(ps_asg (pe_tup (pa_cons (pe_callC C_law_spot hr (by decide) (by rfl) (pa_cons (pv 2) (pa_cons (pv 3) (pa_cons (pv 5) pa_nil se_Name) se_Name) se_Name) (by decide) se_Name (se_any rfl)) (pa_cons (pe_callC C_law_spot hr (by decide) (by rfl) (pa_cons (pv 2) (pa_cons (pv 3) (pa_cons (pv 5) pa_nil se_Name) se_Name) se_Name) (by decide) se_Name (se_any rfl)) pa_nil se_Call) se_Call)) (pg_seq (n := 2) (by rfl) (pgs_cons (pg_name (i := 14) sc_law.nd rfl (by first | exact Or.inl rfl | exact Or.inr rfl)) (pgs_cons (pg_name (i := 15) sc_law.nd rfl (by first | exact Or.inl rfl | exact Or.inr rfl)) pgs_nil))))⟩
        (wss_cons ⟨(ps_setLc (i := 18) (own := [("_law_three", 16)]) (g := (gName 16)) (by rfl) sc_law.nd rfl rfl (sw_true rfl rfl rfl (by decide +kernel)) (pi_list (pv 4)) (blkOk_by (own := [("_law_three", 16)]) (N := ["_law_script", "_law_cell", "_law_row", "_law_some", "_law_threes", "_law_small", "_law_k", "_law_j", "_law_total", "_law_one", "_law_other", "_law_third", "_law_top", "_law_bottom", "_law_spot_here", "_law_goal", "_law_three", "_law_corner", "_law_due", "_law_handed", "_law_found"]) (sc := defScope s_law) (by decide +kernel)) (fun _ _ _ _ _ => pg_name (i := 16) sc_law.nd rfl (by first | exact Or.inl rfl | exact Or.inr rfl)) (fun _ _ _ _ _ => pts_nil) (fun _ _ _ _ _ => (pe_callTy (call_tuple_ofK rfl) (by rfl) z_tuple bt_tuple (pa_cons (pe_lc (own := [("_law_corner", 17)]) (g := gName 17) (by rfl) sc_law.nd (pi_tupK rfl (pv 16)) (blkOk_by (own := [("_law_corner", 17)]) (by kernel_rfl)) (fun _ _ _ _ _ => pg_name (i := 17) sc_law.nd rfl (by first | exact Or.inl rfl | exact Or.inr rfl)) (fun _ _ _ _ _ => pts_nil) (fun _ _ _ _ _ => (pe_ix (ix_seqK rfl) (pe_lst (pa_cons (pv 17) (pa_cons (pv 15) pa_nil se_Name) se_Name)) (pe_callTy call_int1 (by rfl) z_int bt_int (pa_cons (pe_cmpR (op_eqK hr.units rfl) (pv 17) (pv 14) (nomark _)) pa_nil se_Compare)) (fun _ _ => rfl)))) pa_nil se_ListComp))))⟩
        (wss_cons ⟨(ps_set (i := 19) sc_law.nd rfl (by first | exact Or.inl rfl | exact Or.inr rfl) (pe_callTy call_list_of (by rfl) z_list bt_list (pa_cons (pv 4) pa_nil se_Name)))⟩
        (wss_cons ⟨(ps_set (i := 20) sc_law.nd rfl (by first | exact Or.inl rfl | exact Or.inr rfl) (pe_callC C_with_moved hr (by decide) (by rfl) (pa_cons (pv 19) (pa_cons (pv 14) (pa_cons (pv 15) pa_nil se_Name) se_Name) se_Name) (by decide) se_Name (se_any rfl)))⟩
        (wss_cons (ws_if (PW.pt (pw_or (pt_cmpR (op_neA hr.units) (pe_callC C_signed_sum hr (by decide) (by rfl) (pa_cons (pv 19) pa_nil se_Name) (by decide) se_Name (se_any rfl)) (pv 8) (nomark _)) (pw_or1 (pt_not (pt_val (pe_callC C_law_is_frac hr (by decide) (by rfl) (pa_cons (pe_callC C_signed_sum hr (by decide) (by rfl) (pa_cons (pv 4) pa_nil se_Name) (by decide) se_Name (se_any rfl)) pa_nil se_Call) (by decide) se_Call (se_any rfl))))))) (wss_one ⟨(ps_ret pe_bl)⟩) wss_nil)
        (wss_cons (ws_if (pt_cmpR (op_neA hr.units) (pv 19) (pv 4) (nomark _)) (wss_one ⟨(ps_ret pe_bl)⟩) wss_nil)
        (wss_cons (ws_if (PW.pt (pw_or (pt_not (pt_val (pe_callB call_isi (by rfl) z_isinstance bt_isinstance (pa_cons (pv 20) (pa_cons (pe_bltn (v := .ty "list") (by rfl) z_list bt_list rfl) pa_nil se_Name) se_Name)))) (pw_or (pt_cmpR (op_neA hr.units) (pv 20) (pv 18) (nomark _)) (pw_or1 (pt_not (pt_val (pe_callB (cr_all rfl) (by rfl) z_all bt_all (pa_cons (pe_lc (own := [("_law_three", 16)]) (g := gName 16) (by rfl) sc_law.nd (pi_list (pv 20)) (blkOk_by (own := [("_law_three", 16)]) (N := ["_law_script", "_law_cell", "_law_row", "_law_some", "_law_threes", "_law_small", "_law_k", "_law_j", "_law_total", "_law_one", "_law_other", "_law_third", "_law_top", "_law_bottom", "_law_spot_here", "_law_goal", "_law_three", "_law_corner", "_law_due", "_law_handed", "_law_found"]) (sc := defScope s_law) (by decide +kernel)) (fun _ _ _ _ _ => pg_name (i := 16) sc_law.nd rfl (by first | exact Or.inl rfl | exact Or.inr rfl)) (fun _ _ _ _ _ => pts_nil) (fun _ _ _ _ _ => (pe_callB (call_isiK rfl) (by rfl) z_isinstance bt_isinstance (pa_cons (pv 16) (pa_cons (pe_bltn (v := .ty "tuple") (by rfl) z_tuple bt_tuple rfl) pa_nil se_Name) se_Name)))) pa_nil se_ListComp)))))))) (wss_one ⟨(ps_ret pe_bl)⟩) wss_nil)
        (wss_cons ⟨(ps_expr (pe_bm PySem.F.plainAttrs_list PySem.F.slot_list_append PySem.F.type_list_append mt_append (pv 20) (pa_cons pe_non pa_nil se_Constant)))⟩
        (wss_one (ws_if (pt_cmpR (op_neA hr.units) (pe_callC C_with_moved hr (by decide) (by rfl) (pa_cons (pv 4) (pa_cons (pv 14) (pa_cons (pv 15) pa_nil se_Name) se_Name) se_Name) (by decide) se_Name (se_any rfl)) (pv 18) (nomark _)) (wss_one ⟨(ps_ret pe_bl)⟩) wss_nil)))))))))))))))))))
        (wss_one ⟨(ps_ret pe_bl)⟩)), ?_⟩
    have e : start ["_law_script", "_law_cell", "_law_row", "_law_some", "_law_threes", "_law_small", "_law_k", "_law_j", "_law_total", "_law_one", "_law_other", "_law_third", "_law_top", "_law_bottom", "_law_spot_here", "_law_goal", "_law_three", "_law_corner", "_law_due", "_law_handed", "_law_found"] [V.ref a] = [some (V.ref a), none, none, none, none, none, none, none, none, none, none, none, none, none, none, none, none, none, none, none, none] := rfl
    rw [e]
    walk_at "vc"
    refine newL (Nat.le_of_ble_eq_true rfl) (fun p1 HH1 s1 hp1 e1 => ?_)
    refine ⟨_, s1.seq hS, fun p2 hp2 => ?_⟩
    refine cat_l (same_upd hp2 _ _ e1) upd_same (cut_len (by rw [List.length_map]; exact hlen) _ _ (by decide)) (fun p3 hp3 => ?_)
    walk_at "vc"
    have tb1 : Tbs tbs (upd (upd HH1 p2 (.lst (cutV (ns.map V.int) none (some 6)))) p3 (.lst (V.int 0 :: cutV (ns.map V.int) none (some 6)))) := ((tb0.mono s1).mono (same_upd hp2)).mono (same_upd hp3)
    have hxs : ∀ x ∈ V.int 0 :: cutV (ns.map V.int) none (some 6), ∃ z, x = V.int z := fun x hx => cells_int hx
    generalize V.int 0 :: cutV (ns.map V.int) none (some 6) = xs at hxs tb1 ⊢
    refine forL (xs := xs) (fun i σ H2 => ∃ o1 o2 o3 o4 o5 o6 o7 o8 o9 o10 o11 o12 o13 o14 o15 o16 o17 o18 o19 o20 : Option V, σ = [some (V.ref a), o1, o2, o3, o4, o5, o6, o7, o8, o9, o10, o11, o12, o13, o14, o15, o16, o17, o18, o19, o20] ∧ H2 p3 = some (.lst xs) ∧ Tbs tbs H2) ⟨_, _, _, _, _, _, _, _, _, _, _, _, _, _, _, _, _, _, _, _, rfl, upd_same, tb1⟩ (fun i σ H2 _ ⟨_, _, _, _, _, _, _, _, _, _, _, _, _, _, _, _, _, _, _, _, _, h2, _⟩ => SqL.of h2) ?_ ?_
    · rintro i x σ H2 hi ⟨o1, o2, o3, o4, o5, o6, o7, o8, o9, o10, o11, o12, o13, o14, o15, o16, o17, o18, o19, o20, rfl, ep3, tb⟩
      obtain ⟨z, rfl⟩ := hxs x (List.mem_of_getElem? hi)
      clear tb1 tb0
      walk_at "vc"
      refine ⟨Nat.le_of_lt (small1000 (Nat.le_of_ble_eq_true rfl)), fun r hr0 => ?_⟩
      have row0 : Row 0 (upd H2 r (.lst [.int z, .int 0])) r := row_new
      have np3 : p3 ≠ r := ne_of_none ep3 hr0
      replace ep3 := same_upd (o := .lst [.int z, .int 0]) hr0 _ _ ep3
      replace tb := tb.mono (same_upd (o := .lst [.int z, .int 0]) hr0)
      generalize upd H2 r (.lst [.int z, .int 0]) = H3 at row0 ep3 tb ⊢
      clear hr0
      try walk_at "vc"
      refine newL (Nat.le_of_ble_eq_true rfl) (fun S H4 s4 nS eS => ?_)
      refine newL (Nat.le_of_ble_eq_true rfl) (fun D H5 s5 nD eD => ?_)
      try walk_at "vc"
      obtain ⟨_, er0⟩ := row0.at_
      have nSr : S ≠ r := (ne_of_none er0 nS).symm
      have nDr : D ≠ r := (ne_of_none (s4 _ _ er0) nD).symm
      have nSD : S ≠ D := ne_of_none eS nD
      have nS3 : p3 ≠ S := ne_of_none ep3 nS
      have nD3 : p3 ≠ D := ne_of_none (s4 _ _ ep3) nD
      have tbk : ∀ {m : Nat} {J J' : Hp}, Row m J r → Kp r J J' → Tbs tbs J → Tbs tbs J' := fun hr hk ht => by
        obtain ⟨_, er⟩ := hr.at_
        exact Tbs.kp er hk ht
      refine u_law_take ((row0.mono s4).mono s5) (by decide) (by decide) (by decide) (fun t1 H6 a1 b1 row6 k6 t6 => ?_)
      refine eq_i ?_
      generalize hsm : decide (t1 = 1) = small
      refine u_law_take row6 (by decide) (by decide) (by decide) (fun t2 H7 a2 b2 row7 k7 t7 => ?_)
      refine newL (Nat.le_of_ble_eq_true rfl) (fun L H8 s8 nL eL => ?_)
      refine .inr ⟨_, rfl, ?_⟩
      have K8 : Kp r H5 H8 := k6.trans (k7.trans s8.kp)
      have eS8 := K8 _ _ (s5 _ _ eS) nSr
      have eD8 := K8 _ _ eD nDr
      have ep8 := K8 _ _ (s5 _ _ (s4 _ _ ep3)) np3
      have row8 := row7.mono s8
      have tb8 : Tbs tbs H8 := (tbk row6 k7 (tbk ((row0.mono s4).mono s5) k6 ((tb.mono s4).mono s5))).mono s8
      obtain ⟨t2, rfl⟩ := Int.eq_ofNat_of_zero_le a2
      obtain ⟨n, hn, en⟩ : ∃ n : Nat, n ≤ (if small then 40 else 5) ∧ [V.int ((t2 : Nat) : Int), V.int 40][if small = true then 1 else 0]? = some (V.int (n : Int)) := by
        cases small with
        | true => exact ⟨40, Nat.le_refl _, rfl⟩
        | false => exact ⟨t2, by show t2 ≤ 5; omega, rfl⟩
      rw [show (if small = true then (1 : Int) else 0) = (((if small = true then 1 else 0 : Nat)) : Int) by cases small <;> rfl]
      refine ix_lst eL en ?_
      have hn40 : n ≤ 40 := by cases small <;> simp at hn <;> omega
      refine ⟨_, rfl, by omega, by omega, ?_⟩
      rw [Int.toNat_natCast]
      have D0 : Dr (bsm small) 2 S D r p3 tbs xs 0 0 H8 [] := ⟨⟨[], [], eS8, spl_nil, rfl⟩, ⟨[], eD8, Pcs.nil⟩, rfl, fun _ h => (by cases h), row8, ep8, tb8⟩
      clear tb8 row8 ep8 eD8 eS8 K8 eL nL s8 k7 t7 row7 k6 t6 row6 eD eS s5 s4 nS nD ep3 tb row0 er0 en
      refine forR (fun i σ J => ∃ (u6 u7 : Option V) (pss : List (List (Rat × Rat))), σ = [some (V.ref a), some (V.int z), some (V.ref r), some (V.ref S), some (V.ref D), some (V.bl small), u6, u7, o8, o9, o10, o11, o12, o13, o14, o15, o16, o17, o18, o19, o20] ∧ Dr (bsm small) (2 + 21 * i) S D r p3 tbs xs i 0 J pss) ⟨_, _, [], rfl, D0⟩ ?_ ?_
      · rintro i σ J hi ⟨u6, u7, pss, rfl, dr⟩
        try walk_at "vc"
        refine ⟨by decide, by decide, forR (fun j σ J => ∃ (u7 : Option V), σ = [some (V.ref a), some (V.int z), some (V.ref r), some (V.ref S), some (V.ref D), some (V.bl small), some (V.int (0 + (i : Nat))), u7, o8, o9, o10, o11, o12, o13, o14, o15, o16, o17, o18, o19, o20] ∧ Dr (bsm small) (2 + 21 * i + 7 * j) S D r p3 tbs xs i j J pss) ⟨_, rfl, dr⟩ ?_ ?_⟩
        · rintro j σ J hj ⟨u7, rfl, dr⟩
          obtain ⟨ys, ps, eS, hx, hxl⟩ := dr.so
          obtain ⟨ds, eD, hd⟩ := dr.th
          try walk_at "vc"
          have hj3 : j < 3 := hj
          refine ⟨.inl ⟨rfl, _, SqL.of eS⟩, ?_⟩
          refine u_law_spot dr.row (by omega) eS hx nSr (by omega) (fun v p J2 f2 row2 k2 t2' => ?_)
          have eS2 := k2 _ _ eS nSr
          have tu := tk_upd (o := .lst (ys ++ [v])) eS2
          have hdl := hd.len
          refine ⟨_, ys, v, rfl, rfl, eS2, small1000 (by omega), ?_⟩
          obtain ⟨_, er2⟩ := row2.at_
          refine ⟨⟨ys ++ [v], ps ++ [p], upd_same, spl_snoc (hx.tk (t2'.trans tu)) (f2.tk tu), by rw [List.length_append, hxl]; rfl⟩, ⟨ds, (kp_upd _ _ (k2 _ _ eD nDr) (Ne.symm nSD)), hd.tk (t2'.trans tu)⟩, dr.len, dr.three, ?_, kp_upd _ _ (k2 _ _ dr.cells np3) nS3, (tbk dr.row k2 dr.tb).upd eS2⟩
          obtain ⟨c, q, e, z1, z2⟩ := row2.ex
          exact ⟨c, q, kp_upd _ _ e nSr.symm, z1, by omega⟩
        · rintro σ J ⟨u7, rfl, dr⟩
          obtain ⟨ys, ps, eS, hx, hxl⟩ := dr.so
          obtain ⟨ds, eD, hd⟩ := dr.th
          have hdl := hd.len
          have hpl := dr.len
          have g1 : ys[ys.length - 3]? = some ys[ys.length - 3] := List.getElem?_eq_getElem (by omega)
          have g2 : ys[ys.length - 2]? = some ys[ys.length - 2] := List.getElem?_eq_getElem (by omega)
          have g3 : ys[ys.length - 1]? = some ys[ys.length - 1] := List.getElem?_eq_getElem (by omega)
          obtain ⟨q1, _, f1⟩ := hx.2 _ _ g1
          obtain ⟨q2, _, f2⟩ := hx.2 _ _ g2
          obtain ⟨q3, _, f3⟩ := hx.2 _ _ g3
          try walk_at "vc"
          refine ⟨.inl ⟨rfl, _, SqL.of eD⟩, ?_⟩
          refine ix_lstN (j := 3) eS (by decide) (by omega) rfl g1 ?_
          refine ix_lstN (j := 2) eS (by decide) (by omega) rfl g2 ?_
          refine ix_lstN (j := 1) eS (by decide) (by omega) rfl g3 ?_
          refine newP3 f1 f2 f3 (fun p J2 s2 np hq => ?_)
          have eD2 := s2 _ _ eD
          have tu := tk_upd (o := .lst (ds ++ [V.ref p])) eD2
          refine ⟨_, ds, _, rfl, rfl, eD2, small1000 (by omega), ?_⟩
          refine ⟨pss ++ [[q1, q2, q3]], ⟨ys, ps, kp_upd _ _ (s2 _ _ eS) nSD, hx.tk (s2.tk.trans tu), by omega⟩, ⟨_, upd_same, Pcs.snoc (hd.tk (s2.tk.trans tu)) (hq.tk tu)⟩, by rw [List.length_append, hpl]; rfl, fun ps2 h2 => ?_, ?_, kp_upd _ _ (s2 _ _ dr.cells) nD3, (dr.tb.mono s2).upd eD2⟩
          · rcases List.mem_append.mp h2 with h2 | h2
            · exact dr.three ps2 h2
            · rw [List.mem_singleton.mp h2]; rfl
          · obtain ⟨c, q, e, z1, z2⟩ := dr.row.ex
            exact ⟨c, q, kp_upd _ _ (s2 _ _ e) nDr.symm, z1, by omega⟩
      rintro σ J ⟨u6, u7, pss, rfl, dr⟩
      obtain ⟨ys, ps, eS, hx, hxl⟩ := dr.so
      obtain ⟨ds, eD, hd⟩ := dr.th
      have hdl := hd.len
      have hpl := dr.len
      have h3 := dr.three
      have row0 := dr.row
      have ep3 := dr.cells
      have tb := dr.tb
      clear dr
      obtain ⟨M, hM, hM2, hM3⟩ : ∃ M, M = bsm small ∧ M ≤ 102 ∧ (8 * M + 12) * n ≤ 4140 := by
        refine ⟨_, rfl, ?_, ?_⟩
        · cases small <;> decide
        · cases small with
          | true => show (8 * 4 + 12) * n ≤ 4140; omega
          | false => have hn5 : n ≤ 5 := hn
                     show (8 * 102 + 12) * n ≤ 4140; omega
      try walk_at "vc"
      refine newT (Nat.le_of_ble_eq_true rfl) (fun pz J1 s1 nz ez => ?_)
      try walk_at "vc"
      rw [← hM] at hd
      refine forL (xs := ds) (fun i σ J2 => ∃ (tv : V) (u9 u10 u11 u12 u13 : Option V), σ = [some (V.ref a), some (V.int z), some (V.ref r), some (V.ref S), some (V.ref D), some (V.bl small), u6, u7, some tv, u9, u10, u11, u12, u13, o14, o15, o16, o17, o18, o19, o20] ∧ Same J J2 ∧ Fr ((8 * M + 12) * i + 2) J2 tv (sumQ ((pss.take i).map twP))) ⟨.ref pz, _, _, _, _, _, rfl, s1, ⟨⟨pz, rfl, ez⟩, by rw [List.take_zero, Nat.mul_zero]; decide, by rw [List.take_zero, Nat.mul_zero]; decide⟩⟩ (fun i σ J2 _ ⟨_, _, _, _, _, _, _, ss, _⟩ => SqL.of (ss _ _ eD)) ?_ ?_
      · rintro i x σ J2 hi ⟨tv, u9, u10, u11, u12, u13, rfl, ss, ft⟩
        have hil : i < n := by have := (List.getElem?_eq_some_iff.mp hi).1; omega
        obtain ⟨p, ps, rfl, ei, hq⟩ := hd.at_ i x hi
        have hps := h3 ps (List.mem_of_getElem? ei)
        obtain ⟨a1, a2, a3, rfl⟩ : ∃ a b c, ps = [a, b, c] := by
          match ps, hps with
          | [a, b, c], _ => exact ⟨a, b, c, rfl⟩
        try walk_at "vc"
        refine (hq.tk ss.tk).three (fun x y z f1 f2 f3 => ?_)
        try walk_at "vc"
        refine u_law_twice f1 f2 f3 (by omega) (fun tu T B J3 s3 ti b0 eT bT bB => ?_)
        refine seq_ti ti ?_
        try walk_at "vc"
        have ft3 := ft.mono s3
        refine ix_fr0 ft3 ?_
        try walk_at "vc"
        have hstep : (8 * M + 12) * (i + 1) = (8 * M + 12) * i + (8 * M + 12) := Nat.mul_succ _ _
        have hmx : (8 * M + 12) * (i + 1) ≤ 4140 := Nat.le_trans (Nat.mul_le_mul_left _ hil) hM3
        refine ⟨mulOk ft3.nb bB (by omega), ?_⟩
        refine ix_fr1 ft3 ?_
        try walk_at "vc"
        refine ⟨mulOk bT ft3.db (by omega), ?_⟩
        refine ix_fr1 ft3 ?_
        try walk_at "vc"
        refine ⟨mulOk ft3.db bB (by omega), ?_⟩
        refine u_law_lowest ((8 * M + 12) * (i + 1) + 2) (Int.mul_ne_zero (by have := Rat.den_pos (sumQ ((pss.take i).map twP)); omega) (by omega)) (tot_b ft3.nb ft3.db bT bB (by omega)) (tot_d ft3.db bB (by omega)) (by omega) (fun tv2 J4 s4 f4 => ?_)
        rw [tot_v b0 eT] at f4
        try walk_at "vc"
        refine ⟨ss.trans (s3.trans s4), ?_⟩
        rw [List.take_succ, ei, List.map_append]
        show Fr _ _ _ (sumQ (_ ++ [tw a1 a2 a3]))
        rw [sumQ_end]
        exact f4
      rintro σ J2 ⟨tv, u9, u10, u11, u12, u13, rfl, ss, ft⟩
      rw [List.take_of_length_le (by omega), show ds.length = n by omega] at ft
      try walk_at "vc"
      refine ix_fr0 ft ?_
      refine ix_fr1 ft ?_
      refine rI_ii.mpr ⟨mulOkL (by decide), ?_⟩
      refine u_law_lowest ((8 * M + 12) * n + 5) (Int.ne_of_gt (by have := Rat.den_pos (sumQ (pss.map twP)); omega)) (bdle ft.nb (by omega)) (by
        rw [Int.mul_comm]
        exact tot_d (e := (8 * M + 12) * n + 2) (t := 2) (n := (8 * M + 12) * n + 5) ft.db (by decide) (by omega)) (by omega) (fun tv2 J3 s3 f3 => ?_)
      rw [half_v] at f3
      have S3 := ss.trans s3
      refine u_law_spot (row0.mono S3) (by omega) (S3 _ _ eS) (hx.tk S3.tk) nSr (by omega) (fun v1 g1 J4 f4 row4 k4 t4 => ?_)
      refine u_law_spot row4 (by omega) (k4 _ _ (S3 _ _ eS) nSr) ((hx.tk S3.tk).tk t4) nSr (by omega) (fun v2 g2 J5 f5 row5 k5 t5 => ?_)
      refine newT (Nat.le_of_ble_eq_true rfl) (fun w J6 s6 nw ew => ?_)
      refine seq_t ew rfl ?_
      try walk_at "vc"
      rw [← hM] at f4 f5
      have K6 : Kp r J J6 := S3.kp.trans (k4.trans (k5.trans s6.kp))
      have T6 : Tk J J6 := S3.tk.trans (t4.trans (t5.trans s6.tk))
      have tb6 : Tbs tbs J6 := (tbk row4 k5 (tbk (row0.mono S3) k4 (tb.mono S3))).mono s6
      have ep6 := K6 _ _ ep3 np3
      obtain ⟨_, er6⟩ := (row5.mono s6).at_
      have eD6 := K6 _ _ eD nDr
      have hd6 := hd.tk T6
      have ft6 := f3.tk (t4.trans (t5.trans s6.tk))
      have fs := f4.tk (t5.trans s6.tk)
      have fg := f5.tk s6.tk
      clear f3 f4 f5 ep3 eD hd tb k4 t4 k5 t5 s6 row4 row5 ss S3 s3 ft row0 s1 nz ez nw ew K6 T6
      refine ⟨⟨ds, SqL.of eD6⟩, fun U hU => ?_⟩
      have nDU : D ≠ U := ne_of_none eD6 hU
      refine lcL (xs := ds) (fun i J7 => Kp U J6 J7 ∧ Tk J6 J7 ∧ ∃ ws, J7 U = some (.lst ws) ∧ Pcs M J7 ws ((pss.take i).map fun ps => ps.map (mvQ g1 g2))) ⟨kp_upd, (same_upd hU).tk, [], upd_same, by rw [List.take_zero]; exact Pcs.nil⟩ (fun i J7 _ ⟨kJ, _⟩ => SqL.of (kJ _ _ eD6 nDU)) ?_ ?_
      · rintro i x J7 hi ⟨kJ, tJ, ws, eU, hw⟩
        obtain ⟨p, ps, rfl, ei, hq⟩ := hd6.at_ i x hi
        obtain ⟨zs, ep, hz⟩ := hq.ex
        have epJ := tJ _ _ ep
        have hps := h3 ps (List.mem_of_getElem? ei)
        have hzl := hz.1
        have hwl := hw.len
        rw [List.length_map, List.length_take] at hwl
        try walk_at "vc"
        refine ⟨⟨_, SqT.of epJ⟩, fun I hI => ?_⟩
        have nI : p ≠ I := ne_of_none epJ hI
        refine lcT (xs := zs) (fun i2 J8 => Kp I J7 J8 ∧ Tk J7 J8 ∧ ∃ vs, J8 I = some (.lst vs) ∧ SpL M J8 vs ((ps.take i2).map (mvQ g1 g2))) ⟨kp_upd, (same_upd hI).tk, [], upd_same, by rw [List.take_zero]; exact spl_nil⟩ (fun i2 J8 _ ⟨k8, _⟩ => SqT.of (k8 _ _ epJ nI)) ?_ ?_
        · rintro i2 x J8 hx2 ⟨k8, t8, vs, eI, hv⟩
          obtain ⟨q, eq, fq⟩ := hz.2 i2 x hx2
          have fq8 := fq.tk (tJ.trans t8)
          have hvl := hv.1
          rw [List.length_map, List.length_take] at hvl
          try walk_at "vc"
          refine newL (Nat.le_of_ble_eq_true rfl) (fun L J9 s9 nL eL => ?_)
          refine eq_s (fq8.tk s9.tk) (fs.tk (tJ.trans (t8.trans s9.tk))) ?_
          refine .inr ⟨_, rfl, ?_⟩
          have eI9 := s9 _ _ eI
          have fin : ∀ v, Spt M J9 v (mvQ g1 g2 q) → ∃ acc, J9 I = some (.lst acc) ∧ acc.length < sizeLine ∧ Kp I J7 (upd J9 I (.lst (acc ++ [v]))) ∧ Tk J7 (upd J9 I (.lst (acc ++ [v]))) ∧ ∃ vs, upd J9 I (.lst (acc ++ [v])) I = some (.lst vs) ∧ SpL M (upd J9 I (.lst (acc ++ [v]))) vs ((ps.take (i2 + 1)).map (mvQ g1 g2)) := fun v fv => by
            have tu := tk_upd (o := .lst (vs ++ [v])) eI9
            refine ⟨vs, eI9, small1000 (by omega), (k8.trans s9.kp).trans kp_upd, t8.trans (s9.tk.trans tu), vs ++ [v], upd_same, ?_⟩
            rw [List.take_succ, eq, List.map_append]
            exact spl_snoc (hv.tk (s9.tk.trans tu)) (fv.tk tu)
          by_cases c : q = g1
          · rw [decide_eq_true c, if_pos rfl]
            refine ix_lst1 eL ?_
            exact fin _ (by unfold mvQ; rw [if_pos c]; exact fg.tk (tJ.trans (t8.trans s9.tk)))
          · rw [decide_eq_false c, if_neg (by decide)]
            refine ix_lst0 eL ?_
            exact fin _ (by unfold mvQ; rw [if_neg c]; exact fq8.tk s9.tk)
        rintro J8 ⟨k8, t8, vs, eI, hv⟩
        rw [List.take_of_length_le (by omega)] at hv
        have S8 := same_of_kp k8 hI
        refine ⟨vs, .inl ⟨SqL.of eI, fun l hl => ?_⟩⟩
        have sr := same_upd (o := .tup vs) hl
        have eU2 := sr _ _ (S8 _ _ eU)
        have tu := tk_upd (o := .lst (ws ++ [V.ref l])) eU2
        have er : upd J8 l (.tup vs) l = some (.tup vs) := upd_same
        refine ⟨ws, eU2, small1000 (by omega), (kJ.trans (S8.kp.trans sr.kp)).trans kp_upd, tJ.trans (S8.tk.trans (sr.tk.trans tu)), ws ++ [.ref l], upd_same, ?_⟩
        rw [List.take_succ, ei, List.map_append]
        exact Pcs.snoc (hw.tk (S8.tk.trans (sr.tk.trans tu))) ⟨vs, tu _ _ er, hv.tk (sr.tk.trans tu)⟩
      rintro J7 ⟨kJ, tJ, ws, eU, hw⟩
      rw [List.take_of_length_le (by omega)] at hw
      have S7 := same_of_kp kJ hU
      try walk_at "vc"
      refine ⟨ds, .inl (SqL.of (S7 _ _ eD6)), fun l hl => ?_⟩
      have sl := same_upd (o := .lst ds) hl
      have el : upd J7 l (.lst ds) l = some (.lst ds) := upd_same
      generalize upd J7 l (.lst ds) = J8 at sl el ⊢
      have S8 := S7.trans sl
      have eU8 := sl _ _ eU
      have hw8 := hw.tk sl.tk
      have tb8 := tb6.mono S8
      have hsum : (8 * M + 6) * pss.length + 10 ≤ 8000 := by
        have := Nat.mul_le_mul_right pss.length (show 8 * M + 6 ≤ 8 * M + 12 by omega)
        rw [hpl] at this ⊢
        omega
      refine u_with_moved el (hd6.tk S8.tk) (fun ps h => by rw [h3 ps h]; decide) (by omega) (fs.tk S8.tk) (fg.tk S8.tk) tb8 (fun fnd fx J9 s9 nf ef hf => ?_)
      have S9 := S8.trans s9
      refine u_signed_sum (s9 _ _ el) (hd6.tk S9.tk) h3 (by omega) (by omega) hsum (fun sv J10 s10 f10 => ?_)
      have S10 := S9.trans s10
      refine ne_f f10 (ft6.mono S10) ?_
      refine ⟨_, rfl, ?_⟩
      rw [decide_eq_true rfl]
      try walk_at "vc"
      refine u_signed_sum (S10 _ _ eD6) (hd6.tk S10.tk) h3 (by omega) (by omega) hsum (fun sv2 J11 s11 f11 => ?_)
      have S11 := S10.trans s11
      refine u_law_is_frac (f11.rp (S11 _ _ er6)) (smN_dF f11) (by omega) (fun J12 s12 => ?_)
      refine ⟨_, rfl, ?_⟩
      rw [frB_dF]
      try walk_at "vc"
      have S12 := S11.trans s12
      have S812 := s9.trans (s10.trans (s11.trans s12))
      have S912 := s10.trans (s11.trans s12)
      have el12 := S812 _ _ el
      have eD12 := S12 _ _ eD6
      have hd12 := hd6.tk S12.tk
      have ef12 := S912 _ _ ef
      have hf12 := hf.tk S912.tk
      have eU12 := S812 _ _ eU8
      have hw12 := hw8.tk S812.tk
      have nDf : D ≠ fnd := ne_of_none (S8 _ _ eD6) nf
      have nUf : U ≠ fnd := ne_of_none eU8 nf
      have n3f : p3 ≠ fnd := ne_of_none (S8 _ _ ep6) nf
      have hfl := hf.len
      rw [List.length_map] at hfl
      refine ne_same (.lst (SqL.of el12) (pcs_dp hd12)) (.lst (SqL.of eD12) (pcs_dp hd12)) ((sh_dTs pss).sh (by decide)) ?_
      refine ⟨_, rfl, ?_⟩
      try walk_at "vc"
      refine isi_l60 ef12 ?_
      refine ⟨_, rfl, ?_⟩
      try walk_at "vc"
      refine ne_same (.lst (SqL.of ef12) (pcs_dp hf12)) (.lst (SqL.of eU12) (pcs_dp hw12)) ((sh_dTs _).sh (by decide)) ?_
      refine ⟨_, rfl, ?_⟩
      try walk_at "vc"
      refine ⟨⟨_, SqL.of ef12⟩, fun B hB => ?_⟩
      have nfB : fnd ≠ B := ne_of_none ef12 hB
      refine lcL (xs := fx) (fun i J => Kp B J12 J ∧ Tk J12 J ∧ J B = some (.lst ((List.replicate i true).map V.bl))) ⟨kp_upd, (same_upd hB).tk, upd_same⟩ (fun i J _ ⟨kB, _⟩ => SqL.of (kB _ _ ef12 nfB)) ?_ ?_
      · rintro i x J hi ⟨kB, tB, eB⟩
        have hil := (List.getElem?_eq_some_iff.mp hi).1
        obtain ⟨p, ps, rfl, ei, hq⟩ := hf12.at_ i x hi
        obtain ⟨zs, ep, hz⟩ := hq.ex
        try walk_at "vc"
        refine isi_t60 (tB _ _ ep) ?_
        refine ⟨_, eB, small1000 (by rw [List.length_map, List.length_replicate]; omega), kB.trans kp_upd, tB.trans (tk_upd eB), ?_⟩
        rw [upd_same, List.replicate_succ', List.map_append]
        rfl
      rintro J13 ⟨kB, tB, eB⟩
      have S13 := same_of_kp kB hB
      refine ⟨B, _, rfl, SqL.of eB, ?_⟩
      refine ⟨_, rfl, ?_⟩
      rw [show (List.replicate fx.length true).all id = true from List.all_eq_true.mpr fun b hb => by rw [List.eq_of_mem_replicate hb]; rfl]
      try walk_at "vc"
      have ef13 := S13 _ _ ef12
      have tf := tk_upd (o := .lst (fx ++ [V.non])) ef13
      refine ⟨.inl ⟨rfl, _, SqL.of ef13⟩, _, fx, _, rfl, rfl, ef13, small1000 (by omega), ?_⟩
      have S613 := S12.trans S13
      have T := S613.tk.trans tf
      refine u_with_moved (kp_upd _ _ (S613 _ _ eD6) nDf) (hd6.tk T) (fun ps h => by rw [h3 ps h]; decide) (by omega) (fs.tk T) (fg.tk T) ((tb6.mono S613).upd ef13) (fun f2 fy J15 s15 nf2 ef2 hf2 => ?_)
      refine ne_same (.lst (SqL.of ef2) (pcs_dp hf2)) (.lst (SqL.of (s15 _ _ (kp_upd _ _ (S13 _ _ eU12) nUf))) (pcs_dp (((hw12.tk S13.tk).tk tf).tk s15.tk))) ((sh_dTs _).sh (by decide)) ?_
      refine ⟨_, rfl, ?_⟩
      try walk_at "vc"
      exact ⟨s15 _ _ (kp_upd _ _ (S613 _ _ ep6) n3f), ((tb6.mono S613).upd ef13).mono s15⟩
    · rintro σ H2 ⟨o1, o2, o3, o4, o5, o6, o7, o8, o9, o10, o11, o12, o13, o14, o15, o16, o17, o18, o19, o20, rfl, ep3, tb⟩
      walk_at "vc"
      exact k _ tb
end
set_option maxHeartbeats 0 in
theorem all_mk {l : PySem.W.OpenLaw} {w : World} {K : PySem.W.Frag} {h : Heap} {mg : Str → Option Value} {fa f0 f1 f2 f3 f4 f5 f6 f7 f8 f9 f10 f11 f12 f13 f14 f15 f16 f17 : Addr} (X : K.In h) (G : h.Ns mainGlobals mg) (hfa : mg "law" = some (.ref fa))
    {od0 an0 od1 an1 od2 an2 od3 an3 od4 an4 od5 an5 od6 an6 od7 an7 od8 an8 od9 an9 od10 an10 od11 an11 od12 an12 od13 an13 od14 an14 od15 an15 od16 an16 od17 an17 : Option Addr} {sl0 sl1 sl2 sl3 sl4 sl5 sl6 sl7 sl8 sl9 sl10 sl11 sl12 sl13 sl14 sl15 sl16 sl17 : Array (Option Value)} {oc0 kV0 dc0 pm0 cd0 ct0 oc1 kV1 dc1 pm1 cd1 ct1 oc2 kV2 dc2 pm2 cd2 ct2 oc3 kV3 dc3 pm3 cd3 ct3 oc4 kV4 dc4 pm4 cd4 ct4 oc5 kV5 dc5 pm5 cd5 ct5 oc6 kV6 dc6 pm6 cd6 ct6 oc7 kV7 dc7 pm7 cd7 ct7 oc8 kV8 dc8 pm8 cd8 ct8 oc9 kV9 dc9 pm9 cd9 ct9 oc10 kV10 dc10 pm10 cd10 ct10 oc11 kV11 dc11 pm11 cd11 ct11 oc12 kV12 dc12 pm12 cd12 ct12 oc13 kV13 dc13 pm13 cd13 ct13 oc14 kV14 dc14 pm14 cd14 ct14 oc15 kV15 dc15 pm15 cd15 ct15 oc16 kV16 dc16 pm16 cd16 ct16 oc17 kV17 dc17 pm17 cd17 ct17 : Value}
    (a0 : PySem.W.nsIn K mainGlobals "divisor" = some (some (.ref f0))) (l0 : K.lookup f0 = some ⟨oc0, od0, .func (PySem.W.fnOf "divisor" "divisor" (defArgs s_divisor) (defBody s_divisor) (defScope s_divisor) .none kV0 dc0 pm0 an0 cd0 ct0), sl0⟩) (c0 : PySem.W.codeIn K cd0 "divisor" = true) (k0 : PySem.W.keepIn K (.ref f0) = true)
    (a1 : PySem.W.nsIn K mainGlobals "in_lowest" = some (some (.ref f1))) (l1 : K.lookup f1 = some ⟨oc1, od1, .func (PySem.W.fnOf "in_lowest" "in_lowest" (defArgs s_in_lowest) (defBody s_in_lowest) (defScope s_in_lowest) .none kV1 dc1 pm1 an1 cd1 ct1), sl1⟩) (c1 : PySem.W.codeIn K cd1 "in_lowest" = true) (k1 : PySem.W.keepIn K (.ref f1) = true)
    (a2 : PySem.W.nsIn K mainGlobals "added" = some (some (.ref f2))) (l2 : K.lookup f2 = some ⟨oc2, od2, .func (PySem.W.fnOf "added" "added" (defArgs s_added) (defBody s_added) (defScope s_added) .none kV2 dc2 pm2 an2 cd2 ct2), sl2⟩) (c2 : PySem.W.codeIn K cd2 "added" = true) (k2 : PySem.W.keepIn K (.ref f2) = true)
    (a3 : PySem.W.nsIn K mainGlobals "lessened" = some (some (.ref f3))) (l3 : K.lookup f3 = some ⟨oc3, od3, .func (PySem.W.fnOf "lessened" "lessened" (defArgs s_lessened) (defBody s_lessened) (defScope s_lessened) .none kV3 dc3 pm3 an3 cd3 ct3), sl3⟩) (c3 : PySem.W.codeIn K cd3 "lessened" = true) (k3 : PySem.W.keepIn K (.ref f3) = true)
    (a4 : PySem.W.nsIn K mainGlobals "multiplied" = some (some (.ref f4))) (l4 : K.lookup f4 = some ⟨oc4, od4, .func (PySem.W.fnOf "multiplied" "multiplied" (defArgs s_multiplied) (defBody s_multiplied) (defScope s_multiplied) .none kV4 dc4 pm4 an4 cd4 ct4), sl4⟩) (c4 : PySem.W.codeIn K cd4 "multiplied" = true) (k4 : PySem.W.keepIn K (.ref f4) = true)
    (a5 : PySem.W.nsIn K mainGlobals "sum_of" = some (some (.ref f5))) (l5 : K.lookup f5 = some ⟨oc5, od5, .func (PySem.W.fnOf "sum_of" "sum_of" (defArgs s_sum_of) (defBody s_sum_of) (defScope s_sum_of) .none kV5 dc5 pm5 an5 cd5 ct5), sl5⟩) (c5 : PySem.W.codeIn K cd5 "sum_of" = true) (k5 : PySem.W.keepIn K (.ref f5) = true)
    (a6 : PySem.W.nsIn K mainGlobals "twice_of" = some (some (.ref f6))) (l6 : K.lookup f6 = some ⟨oc6, od6, .func (PySem.W.fnOf "twice_of" "twice_of" (defArgs s_twice_of) (defBody s_twice_of) (defScope s_twice_of) .none kV6 dc6 pm6 an6 cd6 ct6), sl6⟩) (c6 : PySem.W.codeIn K cd6 "twice_of" = true) (k6 : PySem.W.keepIn K (.ref f6) = true)
    (a7 : PySem.W.nsIn K mainGlobals "with_moved" = some (some (.ref f7))) (l7 : K.lookup f7 = some ⟨oc7, od7, .func (PySem.W.fnOf "with_moved" "with_moved" (defArgs s_with_moved) (defBody s_with_moved) (defScope s_with_moved) .none kV7 dc7 pm7 an7 cd7 ct7), sl7⟩) (c7 : PySem.W.codeIn K cd7 "with_moved" = true) (k7 : PySem.W.keepIn K (.ref f7) = true)
    (a8 : PySem.W.nsIn K mainGlobals "signed_sum" = some (some (.ref f8))) (l8 : K.lookup f8 = some ⟨oc8, od8, .func (PySem.W.fnOf "signed_sum" "signed_sum" (defArgs s_signed_sum) (defBody s_signed_sum) (defScope s_signed_sum) .none kV8 dc8 pm8 an8 cd8 ct8), sl8⟩) (c8 : PySem.W.codeIn K cd8 "signed_sum" = true) (k8 : PySem.W.keepIn K (.ref f8) = true)
    (a9 : PySem.W.nsIn K mainGlobals "_law_take" = some (some (.ref f9))) (l9 : K.lookup f9 = some ⟨oc9, od9, .func (PySem.W.fnOf "_law_take" "_law_take" (defArgs s_law_take) (defBody s_law_take) (defScope s_law_take) .none kV9 dc9 pm9 an9 cd9 ct9), sl9⟩) (c9 : PySem.W.codeIn K cd9 "_law_take" = true) (k9 : PySem.W.keepIn K (.ref f9) = true)
    (a10 : PySem.W.nsIn K mainGlobals "_law_lowest" = some (some (.ref f10))) (l10 : K.lookup f10 = some ⟨oc10, od10, .func (PySem.W.fnOf "_law_lowest" "_law_lowest" (defArgs s_law_lowest) (defBody s_law_lowest) (defScope s_law_lowest) .none kV10 dc10 pm10 an10 cd10 ct10), sl10⟩) (c10 : PySem.W.codeIn K cd10 "_law_lowest" = true) (k10 : PySem.W.keepIn K (.ref f10) = true)
    (a11 : PySem.W.nsIn K mainGlobals "_law_whole" = some (some (.ref f11))) (l11 : K.lookup f11 = some ⟨oc11, od11, .func (PySem.W.fnOf "_law_whole" "_law_whole" (defArgs s_law_whole) (defBody s_law_whole) (defScope s_law_whole) .none kV11 dc11 pm11 an11 cd11 ct11), sl11⟩) (c11 : PySem.W.codeIn K cd11 "_law_whole" = true) (k11 : PySem.W.keepIn K (.ref f11) = true)
    (a12 : PySem.W.nsIn K mainGlobals "_law_is_frac" = some (some (.ref f12))) (l12 : K.lookup f12 = some ⟨oc12, od12, .func (PySem.W.fnOf "_law_is_frac" "_law_is_frac" (defArgs s_law_is_frac) (defBody s_law_is_frac) (defScope s_law_is_frac) .none kV12 dc12 pm12 an12 cd12 ct12), sl12⟩) (c12 : PySem.W.codeIn K cd12 "_law_is_frac" = true) (k12 : PySem.W.keepIn K (.ref f12) = true)
    (a13 : PySem.W.nsIn K mainGlobals "_law_gap" = some (some (.ref f13))) (l13 : K.lookup f13 = some ⟨oc13, od13, .func (PySem.W.fnOf "_law_gap" "_law_gap" (defArgs s_law_gap) (defBody s_law_gap) (defScope s_law_gap) .none kV13 dc13 pm13 an13 cd13 ct13), sl13⟩) (c13 : PySem.W.codeIn K cd13 "_law_gap" = true) (k13 : PySem.W.keepIn K (.ref f13) = true)
    (a14 : PySem.W.nsIn K mainGlobals "_law_twice" = some (some (.ref f14))) (l14 : K.lookup f14 = some ⟨oc14, od14, .func (PySem.W.fnOf "_law_twice" "_law_twice" (defArgs s_law_twice) (defBody s_law_twice) (defScope s_law_twice) .none kV14 dc14 pm14 an14 cd14 ct14), sl14⟩) (c14 : PySem.W.codeIn K cd14 "_law_twice" = true) (k14 : PySem.W.keepIn K (.ref f14) = true)
    (a15 : PySem.W.nsIn K mainGlobals "_law_frac" = some (some (.ref f15))) (l15 : K.lookup f15 = some ⟨oc15, od15, .func (PySem.W.fnOf "_law_frac" "_law_frac" (defArgs s_law_frac) (defBody s_law_frac) (defScope s_law_frac) .none kV15 dc15 pm15 an15 cd15 ct15), sl15⟩) (c15 : PySem.W.codeIn K cd15 "_law_frac" = true) (k15 : PySem.W.keepIn K (.ref f15) = true)
    (a16 : PySem.W.nsIn K mainGlobals "_law_spot" = some (some (.ref f16))) (l16 : K.lookup f16 = some ⟨oc16, od16, .func (PySem.W.fnOf "_law_spot" "_law_spot" (defArgs s_law_spot) (defBody s_law_spot) (defScope s_law_spot) .none kV16 dc16 pm16 an16 cd16 ct16), sl16⟩) (c16 : PySem.W.codeIn K cd16 "_law_spot" = true) (k16 : PySem.W.keepIn K (.ref f16) = true)
    (a17 : PySem.W.nsIn K mainGlobals "law" = some (some (.ref f17))) (l17 : K.lookup f17 = some ⟨oc17, od17, .func (PySem.W.fnOf "law" "law" (defArgs s_law) (defBody s_law) (defScope s_law) .none kV17 dc17 pm17 an17 cd17 ct17), sl17⟩) (c17 : PySem.W.codeIn K cd17 "law" = true) (k17 : PySem.W.keepIn K (.ref f17) = true)
    (zz_abs : PySem.W.nsIn K mainGlobals "abs" = some none)
    (zz_tuple : PySem.W.nsIn K mainGlobals "tuple" = some none)
    (zz_int : PySem.W.nsIn K mainGlobals "int" = some none)
    (zz_isinstance : PySem.W.nsIn K mainGlobals "isinstance" = some none)
    (zz_bool : PySem.W.nsIn K mainGlobals "bool" = some none)
    (zz_len : PySem.W.nsIn K mainGlobals "len" = some none)
    (zz_range : PySem.W.nsIn K mainGlobals "range" = some none)
    (zz_list : PySem.W.nsIn K mainGlobals "list" = some none)
    (zz_all : PySem.W.nsIn K mainGlobals "all" = some none)
    {q_with_moved t_with_moved : Addr} {odq_with_moved : Option Addr} {vq_with_moved : Array Value} {slq_with_moved : Array (Option Value)} {file_with_moved : Str} {tf_with_moved tg_with_moved tt_with_moved : Tok} {flags_with_moved text_with_moved : Int} {inF_with_moved : Bool}
    (qe_with_moved : cd7 = .ref q_with_moved)
    (lq_with_moved : K.lookup q_with_moved = some ⟨.type "code", odq_with_moved, .fields vq_with_moved, slq_with_moved⟩)
    (q1_with_moved : vq_with_moved[11]? = some (.ref t_with_moved))
    (q2_with_moved : vq_with_moved.getD 18 .none = .str file_with_moved tf_with_moved)
    (q3_with_moved : vq_with_moved.getD 7 .none = .int flags_with_moved tg_with_moved)
    (q4_with_moved : vq_with_moved.getD 9 .none = .bool inF_with_moved)
    (q5_with_moved : vq_with_moved.getD 10 .none = .int text_with_moved tt_with_moved)
    (q6_with_moved : q_with_moved ≠ t_with_moved)
    : ∃ fd : FuncData, (∀ (s : Shared) (v : Value), BindsTo s fd ⟨[v], []⟩ [("_law_script", v)]) ∧ ∀ base : Heap, K.In base → base.Ns mainGlobals mg → (∃ bm ob, BMod base mainGlobals mg bm ob) → FnOk l.prog w K mg base CX0 6 fa fd ["_law_script"] (sp_law K [t_with_moved]) := by
  have e := hfa.symm.trans (PySem.W.mg_of X G a17)
  cases e
  have z_abs := PySem.W.mg_none_of X G zz_abs
  have z_tuple := PySem.W.mg_none_of X G zz_tuple
  have z_int := PySem.W.mg_none_of X G zz_int
  have z_isinstance := PySem.W.mg_none_of X G zz_isinstance
  have z_bool := PySem.W.mg_none_of X G zz_bool
  have z_len := PySem.W.mg_none_of X G zz_len
  have z_range := PySem.W.mg_none_of X G zz_range
  have z_list := PySem.W.mg_none_of X G zz_list
  have z_all := PySem.W.mg_none_of X G zz_all
  have F0 := fun_mk (st := s_divisor) l0 c0 k0
  have b0 := F0.binds (ps := ["one", "other"]) fun _ _ _ _ _ _ us hl => match us, hl with | [_, _], _ => rfl
  have F1 := fun_mk (st := s_in_lowest) l1 c1 k1
  have b1 := F1.binds (ps := ["top", "bottom"]) fun _ _ _ _ _ _ us hl => match us, hl with | [_, _], _ => rfl
  have F2 := fun_mk (st := s_added) l2 c2 k2
  have b2 := F2.binds (ps := ["one", "other"]) fun _ _ _ _ _ _ us hl => match us, hl with | [_, _], _ => rfl
  have F3 := fun_mk (st := s_lessened) l3 c3 k3
  have b3 := F3.binds (ps := ["one", "other"]) fun _ _ _ _ _ _ us hl => match us, hl with | [_, _], _ => rfl
  have F4 := fun_mk (st := s_multiplied) l4 c4 k4
  have b4 := F4.binds (ps := ["one", "other"]) fun _ _ _ _ _ _ us hl => match us, hl with | [_, _], _ => rfl
  have F5 := fun_mk (st := s_sum_of) l5 c5 k5
  have b5 := F5.binds (ps := ["parts"]) fun _ _ _ _ _ _ us hl => match us, hl with | [_], _ => rfl
  have F6 := fun_mk (st := s_twice_of) l6 c6 k6
  have b6 := F6.binds (ps := ["one", "other", "third"]) fun _ _ _ _ _ _ us hl => match us, hl with | [_, _, _], _ => rfl
  have F7 := fun_mk (st := s_with_moved) l7 c7 k7
  have b7 := F7.binds (ps := ["pieces", "spot", "goal"]) fun _ _ _ _ _ _ us hl => match us, hl with | [_, _, _], _ => rfl
  have F8 := fun_mk (st := s_signed_sum) l8 c8 k8
  have b8 := F8.binds (ps := ["pieces"]) fun _ _ _ _ _ _ us hl => match us, hl with | [_], _ => rfl
  have F9 := fun_mk (st := s_law_take) l9 c9 k9
  have b9 := F9.binds (ps := ["_law_row", "_law_base"]) fun _ _ _ _ _ _ us hl => match us, hl with | [_, _], _ => rfl
  have F10 := fun_mk (st := s_law_lowest) l10 c10 k10
  have b10 := F10.binds (ps := ["_law_top", "_law_bottom"]) fun _ _ _ _ _ _ us hl => match us, hl with | [_, _], _ => rfl
  have F11 := fun_mk (st := s_law_whole) l11 c11 k11
  have b11 := F11.binds (ps := ["_law_found"]) fun _ _ _ _ _ _ us hl => match us, hl with | [_], _ => rfl
  have F12 := fun_mk (st := s_law_is_frac) l12 c12 k12
  have b12 := F12.binds (ps := ["_law_found"]) fun _ _ _ _ _ _ us hl => match us, hl with | [_], _ => rfl
  have F13 := fun_mk (st := s_law_gap) l13 c13 k13
  have b13 := F13.binds (ps := ["_law_here", "_law_there"]) fun _ _ _ _ _ _ us hl => match us, hl with | [_, _], _ => rfl
  have F14 := fun_mk (st := s_law_twice) l14 c14 k14
  have b14 := F14.binds (ps := ["_law_one", "_law_other", "_law_third"]) fun _ _ _ _ _ _ us hl => match us, hl with | [_, _, _], _ => rfl
  have F15 := fun_mk (st := s_law_frac) l15 c15 k15
  have b15 := F15.binds (ps := ["_law_row", "_law_small"]) fun _ _ _ _ _ _ us hl => match us, hl with | [_, _], _ => rfl
  have F16 := fun_mk (st := s_law_spot) l16 c16 k16
  have b16 := F16.binds (ps := ["_law_row", "_law_some", "_law_small"]) fun _ _ _ _ _ _ us hl => match us, hl with | [_, _, _], _ => rfl
  have F17 := fun_mk (st := s_law) l17 c17 k17
  refine ⟨PySem.W.fnOf "law" "law" (defArgs s_law) (defBody s_law) (defScope s_law) .none kV17 dc17 pm17 an17 cd17 ct17, fun s v => .of_eq rfl, fun base kb nb BM => ?_⟩
  have CK_with_moved : CodeK K cd7 q_with_moved t_with_moved := codeK_mk qe_with_moved lq_with_moved q1_with_moved q2_with_moved q3_with_moved q4_with_moved q5_with_moved q6_with_moved
  have TB_with_moved : t_with_moved ∈ [t_with_moved] := by simp
  have C_divisor := ok_divisor (P := l.prog) (w := w) (base := base) F0 (PySem.W.mg_of X G a0) b0 z_abs  
  have C_in_lowest := ok_in_lowest (P := l.prog) (w := w) (base := base) F1 (PySem.W.mg_of X G a1) b1  C_divisor 
  have C_added := ok_added (P := l.prog) (w := w) (base := base) F2 (PySem.W.mg_of X G a2) b2  C_in_lowest 
  have C_lessened := ok_lessened (P := l.prog) (w := w) (base := base) F3 (PySem.W.mg_of X G a3) b3  C_in_lowest 
  have C_multiplied := ok_multiplied (P := l.prog) (w := w) (base := base) F4 (PySem.W.mg_of X G a4) b4  C_in_lowest 
  have C_sum_of := ok_sum_of (P := l.prog) (w := w) (base := base) F5 (PySem.W.mg_of X G a5) b5  C_added 
  have C_twice_of := ok_twice_of (P := l.prog) (w := w) (base := base) F6 (PySem.W.mg_of X G a6) b6  C_multiplied C_lessened 
  have C_with_moved := ok_with_moved (P := l.prog) (w := w) (base := base) F7 (PySem.W.mg_of X G a7) b7 z_tuple  CK_with_moved TB_with_moved BM
  have C_signed_sum := ok_signed_sum (P := l.prog) (w := w) (base := base) F8 (PySem.W.mg_of X G a8) b8  C_multiplied C_sum_of C_twice_of 
  have C_law_take := ok_law_take (P := l.prog) (w := w) (base := base) F9 (PySem.W.mg_of X G a9) b9 z_int  
  have C_law_lowest := ok_law_lowest (P := l.prog) (w := w) (base := base) F10 (PySem.W.mg_of X G a10) b10 z_abs  
  have C_law_whole := ok_law_whole (P := l.prog) (w := w) (base := base) F11 (PySem.W.mg_of X G a11) b11 z_int z_isinstance z_bool  
  have C_law_is_frac := ok_law_is_frac (P := l.prog) (w := w) (base := base) F12 (PySem.W.mg_of X G a12) b12 z_isinstance z_tuple z_len C_law_whole C_law_lowest 
  have C_law_gap := ok_law_gap (P := l.prog) (w := w) (base := base) F13 (PySem.W.mg_of X G a13) b13   
  have C_law_twice := ok_law_twice (P := l.prog) (w := w) (base := base) F14 (PySem.W.mg_of X G a14) b14  C_law_gap 
  have C_law_frac := ok_law_frac (P := l.prog) (w := w) (base := base) F15 (PySem.W.mg_of X G a15) b15  C_law_lowest C_law_take 
  have C_law_spot := ok_law_spot (P := l.prog) (w := w) (base := base) F16 (PySem.W.mg_of X G a16) b16 z_len C_law_frac C_law_take 
  exact ok_law F17 z_range z_list z_tuple z_int z_isinstance z_all C_law_lowest C_with_moved C_law_take C_law_twice C_law_spot C_signed_sum C_law_is_frac 
theorem walk {l : PySem.W.OpenLaw} {q : Program} {loose : List Str} {XP : (Str → Option Value) → Heap → Prop} {YP : World → Heap → Prop} {d : DefRec} {K : Params → PySem.W.Frag} {T : List Addr} (hn : l.most = some 63) (hdf : d.params.defaults = [])
    (hY : ∀ (w : World) (h : Heap), YP w h → (K w.params).In h)
    (F : ∀ (w : World) (mg : Str → Option Value) (fa : Addr) (h : Heap), (K w.params).In h → h.Ns mainGlobals mg → mg d.name = some (.ref fa) →
      ∃ fd : FuncData, (∀ (s : Shared) (u : Value), BindsTo s fd ⟨[u], []⟩ [("_law_script", u)]) ∧ ∀ base : Heap, (K w.params).In base → base.Ns mainGlobals mg → (∃ bm ob, BMod base mainGlobals mg bm ob) → FnOk l.prog w (K w.params) mg base CX0 6 fa fd ["_law_script"] (sp_law (K w.params) T))
    (hTab : ∀ (w : World) (mg mb : Str → Option Value) (h : Heap) (mean : ExcName → Option Value), Top q (PySem.W.looseW q loose) mean mg mb h → (K w.params).In h → TabsAt (K w.params) T h) :
    PySem.W.WalkO q loose XP YP l.row.toRowW d [] (fun f vs => PySem.call f vs) :=
  L2.walk_ofT (n := 63) (k := 6) (x := "_law_script") (T := T) (CX := fun _ => CX0) (sp := fun w => sp_law (K w.params) T) hn (by decide) hdf ⟨rfl, by decide, by decide⟩ hY hTab F (fun _ _ a ns hl hT hS => ⟨a, ns, rfl, hS, hl, hT, fun _ h => ⟨rfl, h⟩⟩) fun _ _ _ _ _ z => z
end My
open PySem PySem.W PyProof.Rows
set_option maxRecDepth 100000 in
set_option maxHeartbeats 0 in
theorem PySem.Challenge.cw_likeshards_k60_signed_sums_holds : PySem.Challenge.rw_likeshards_k60_signed_sums.Holds := by
  w_on; o_law; k_head; (case hw => w_witness2)
  k_fill
  refine' My.walk (l := PySem.Challenge.rw_likeshards_k60_signed_sums) rfl rfl (fun w h Y => PySem.W.kIn_of Y) ?F ?TB
  case F =>
    intro w mg fa h KX G hmg
    refine' My.all_mk KX G hmg ?a0 ?l0 ?c0 ?k0 ?a1 ?l1 ?c1 ?k1 ?a2 ?l2 ?c2 ?k2 ?a3 ?l3 ?c3 ?k3 ?a4 ?l4 ?c4 ?k4 ?a5 ?l5 ?c5 ?k5 ?a6 ?l6 ?c6 ?k6 ?a7 ?l7 ?c7 ?k7 ?a8 ?l8 ?c8 ?k8 ?a9 ?l9 ?c9 ?k9 ?a10 ?l10 ?c10 ?k10 ?a11 ?l11 ?c11 ?k11 ?a12 ?l12 ?c12 ?k12 ?a13 ?l13 ?c13 ?k13 ?a14 ?l14 ?c14 ?k14 ?a15 ?l15 ?c15 ?k15 ?a16 ?l16 ?c16 ?k16 ?a17 ?l17 ?c17 ?k17 ?zz_abs ?zz_tuple ?zz_int ?zz_isinstance ?zz_bool ?zz_len ?zz_range ?zz_list ?zz_all ?qe_with_moved ?lq_with_moved ?q1_with_moved ?q2_with_moved ?q3_with_moved ?q4_with_moved ?q5_with_moved ?q6_with_moved
    (case a0 => k_is); (case l0 => k_is); (case c0 => k_is); (case k0 => k_is)
    (case a1 => k_is); (case l1 => k_is); (case c1 => k_is); (case k1 => k_is)
    (case a2 => k_is); (case l2 => k_is); (case c2 => k_is); (case k2 => k_is)
    (case a3 => k_is); (case l3 => k_is); (case c3 => k_is); (case k3 => k_is)
    (case a4 => k_is); (case l4 => k_is); (case c4 => k_is); (case k4 => k_is)
    (case a5 => k_is); (case l5 => k_is); (case c5 => k_is); (case k5 => k_is)
    (case a6 => k_is); (case l6 => k_is); (case c6 => k_is); (case k6 => k_is)
    (case a7 => k_is); (case l7 => k_is); (case c7 => k_is); (case k7 => k_is)
    (case a8 => k_is); (case l8 => k_is); (case c8 => k_is); (case k8 => k_is)
    (case a9 => k_is); (case l9 => k_is); (case c9 => k_is); (case k9 => k_is)
    (case a10 => k_is); (case l10 => k_is); (case c10 => k_is); (case k10 => k_is)
    (case a11 => k_is); (case l11 => k_is); (case c11 => k_is); (case k11 => k_is)
    (case a12 => k_is); (case l12 => k_is); (case c12 => k_is); (case k12 => k_is)
    (case a13 => k_is); (case l13 => k_is); (case c13 => k_is); (case k13 => k_is)
    (case a14 => k_is); (case l14 => k_is); (case c14 => k_is); (case k14 => k_is)
    (case a15 => k_is); (case l15 => k_is); (case c15 => k_is); (case k15 => k_is)
    (case a16 => k_is); (case l16 => k_is); (case c16 => k_is); (case k16 => k_is)
    (case a17 => k_is); (case l17 => k_is); (case c17 => k_is); (case k17 => k_is)
    (case zz_abs => k_is)
    (case zz_tuple => k_is)
    (case zz_int => k_is)
    (case zz_isinstance => k_is)
    (case zz_bool => k_is)
    (case zz_len => k_is)
    (case zz_range => k_is)
    (case zz_list => k_is)
    (case zz_all => k_is)
    (case qe_with_moved => rfl)
    (case lq_with_moved => k_is)
    (case q1_with_moved => rfl)
    (case q2_with_moved => rfl)
    (case q3_with_moved => rfl)
    (case q4_with_moved => rfl)
    (case q5_with_moved => rfl)
    (case q6_with_moved => decide)
  case TB =>
    intro w mg mb h mean TT X
    refine' L2.tabs_cons (L2.tab_of TT X (name := "with_moved") ?h1x7 ?h2x7 ?h3x7 ?h4x7 ?h5x7 ?h6x7) ?h7x7 ?h8x7
    (case h1x7 => rfl); (case h2x7 => k_is); (case h3x7 => k_is); (case h4x7 => rfl); (case h5x7 => k_is); (case h6x7 => rfl); (case h7x7 => kernel_rfl)
    exact L2.tabs_nil
