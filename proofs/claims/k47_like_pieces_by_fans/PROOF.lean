import PyProof.Rows.All
import Wide.All
import OpenK.AllK
import Wide.FinOn
import PyProof.EqAt
import PyProof.EqKinds
import PyProof.TupleCall
import KE.BitLaws
import PyProof.ExcInit
import KE.KSuper
import PySem.Challenge.RW_likeshards_k47_like_pieces_by_fans
section
set_option Elab.async false
set_option linter.all false
set_option maxRecDepth 100000
/-! THE HAND LAYER, for ints, bools, texts, own classes, lists, tuples, dicts, comprehensions, walks over dicts, enumerate, zip, reversed, texts, calls, loops. Paste it whole ahead of your own text; what your proof does not reach may be deleted. -/
namespace L2
open PySem PySem.Spec PyProof.Rows

/-- a key: an int or a str -/
abbrev Key := Sum Int Str
def keyIs : Key → Value → Bool
  | .inl k, v => Value.isInt k v
  | .inr x, v => Value.isStrOf x v
def keyH (w : World) : Key → Int
  | .inl k => hashInt k
  | .inr x => hashStr w x
theorem keyIs_shape : ∀ {k : Key} {v : Value}, keyIs k v = true → (∃ i t, k = Sum.inl i ∧ v = Value.int i t) ∨ (∃ x t, k = Sum.inr x ∧ v = Value.str x t)
  | .inl i, v, h => by
    obtain ⟨t, e⟩ := Value.isInt_shape (k := i) (v := v) h
    exact .inl ⟨i, t, rfl, e⟩
  | .inr x, v, h => by
    obtain ⟨t, e⟩ := Value.isStrOf_shape (x := x) (v := v) h
    exact .inr ⟨x, t, rfl, e⟩
theorem key_ll (a b : Int) : decide ((Sum.inl a : Key) = Sum.inl b) = (a == b) := by
  by_cases e : a = b
  · subst e; simp
  · have h : ¬ (Sum.inl a : Key) = Sum.inl b := fun q => e (Sum.inl.inj q)
    rw [decide_eq_false h]
    exact (beq_eq_false_iff_ne.mpr e).symm
theorem key_rr (a b : Str) : decide ((Sum.inr a : Key) = Sum.inr b) = decide (a = b) := by
  by_cases e : a = b
  · subst e; simp
  · have h : ¬ (Sum.inr a : Key) = Sum.inr b := fun q => e (Sum.inr.inj q)
    rw [decide_eq_false h, decide_eq_false e]
theorem key_lr (a : Int) (b : Str) : decide ((Sum.inl a : Key) = Sum.inr b) = false := decide_eq_false (fun q => nomatch q)
theorem key_rl (a : Str) (b : Int) : decide ((Sum.inr a : Key) = Sum.inl b) = false := decide_eq_false (fun q => nomatch q)

def mixKind (prog : Program) (w : World) : PySem.KeyKind prog w Key where
  is := keyIs
  hash := keyH w
  inj := fun v a b ha hb => by
    rcases keyIs_shape ha with ⟨i, t, rfl, rfl⟩ | ⟨x, t, rfl, rfl⟩
    · rcases keyIs_shape hb with ⟨j, u, rfl, e⟩ | ⟨y, u, rfl, e⟩
      · injection e with e1 _; rw [e1]
      · exact nomatch e
    · rcases keyIs_shape hb with ⟨j, u, rfl, e⟩ | ⟨y, u, rfl, e⟩
      · exact nomatch e
      · injection e with e1 _; rw [e1]
  byValue := fun k v h => by
    rcases keyIs_shape h with ⟨i, t, rfl, rfl⟩ | ⟨x, t, rfl, rfl⟩ <;> rfl
  pyHash := fun hv h => by
    rcases keyIs_shape hv with ⟨i, t, rfl, rfl⟩ | ⟨x, t, rfl, rfl⟩
    · exact wpAny_pyHash_int h
    · exact wpAny_pyHash_str h
  eqBool := fun hu hv h => by
    rcases keyIs_shape hu with ⟨i, t, rfl, rfl⟩ | ⟨x, t, rfl, rfl⟩
    · rcases keyIs_shape hv with ⟨j, u, rfl, rfl⟩ | ⟨y, u, rfl, rfl⟩
      · rw [key_ll] at h; exact wpAny_eqBool_int h
      · rw [key_lr] at h; exact SeqAt.EqAt.int_str i t y u _ _ _ _ h
    · rcases keyIs_shape hv with ⟨j, u, rfl, rfl⟩ | ⟨y, u, rfl, rfl⟩
      · rw [key_rl] at h; exact SeqAt.EqAt.str_int x t j u _ _ _ _ h
      · rw [key_rr] at h; exact wpAny_eqBool_str h
  «strs» := fun k x t v h => by
    rcases keyIs_shape h with ⟨i, u, rfl, e⟩ | ⟨y, u, rfl, e⟩
    · exact nomatch e
    · injection e with e1 _
      subst e1
      cases v <;> rfl

end L2

namespace L2
open PySem PySem.Spec PyProof.Rows

/-- a value, without the heap -/
inductive V where
  | non | bl (b : Bool) | int (i : Int) | str (x : Str) | byt (b : Array UInt8) | flt (b : UInt64) | ref (a : Addr) | ty (n : String)
  deriving DecidableEq

def RelV : V → Value → Prop
  | .non, u => u = Value.none
  | .bl b, u => u = Value.bool b
  | .int i, u => ∃ t, u = Value.int i t
  | .str x, u => ∃ t, u = Value.str x t
  | .byt b, u => ∃ t, u = Value.bytes b t
  | .flt b, u => ∃ t, u = Value.float b t
  | .ref a, u => u = Value.ref a
  | .ty n, u => u = Value.type n

abbrev Vals : List V → List Value → Prop := Paired RelV
theorem Vals.length {xs : List V} {us : List Value} (r : Vals xs us) : xs.length = us.length := Paired.length r
theorem Vals.get : ∀ {xs : List V} {us : List Value} {i : Nat} {x : V}, Vals xs us → xs[i]? = some x → ∃ u, us[i]? = some u ∧ RelV x u
  | _, _, _, _, .nil, e => by simp at e
  | _, _, 0, _, .cons r _, e => by simp at e; subst e; exact ⟨_, rfl, r⟩
  | _, _, i + 1, x, .cons _ t, e => by
    obtain ⟨u, h1, h2⟩ := Vals.get (i := i) (x := x) t (by simpa using e)
    exact ⟨u, by simpa using h1, h2⟩
theorem Vals.set {x : V} {u : Value} (r : RelV x u) : ∀ {xs : List V} {us : List Value} (i : Nat), Vals xs us → Vals (xs.set i x) (us.set i u)
  | _, _, _, .nil => .nil
  | _, _, 0, .cons _ t => .cons r t
  | _, _, i + 1, .cons q t => .cons q (Vals.set r i t)
theorem Vals.append : ∀ {xs ys : List V} {us ws : List Value}, Vals xs us → Vals ys ws → Vals (xs ++ ys) (us ++ ws)
  | _, _, _, _, .nil, s => s
  | _, _, _, _, .cons r t, s => .cons r (Vals.append t s)
theorem Vals.take : ∀ {xs : List V} {us : List Value} (n : Nat), Vals xs us → Vals (xs.take n) (us.take n)
  | _, _, 0, _ => .nil
  | _, _, _ + 1, .nil => .nil
  | _, _, n + 1, .cons r t => .cons r (Vals.take n t)
theorem Vals.drop : ∀ {xs : List V} {us : List Value} (n : Nat), Vals xs us → Vals (xs.drop n) (us.drop n)
  | _, _, 0, r => r
  | _, _, _ + 1, .nil => .nil
  | _, _, n + 1, .cons _ t => Vals.drop n t
theorem Vals.none_of : ∀ {xs : List V} {us : List Value} {i : Nat}, Vals xs us → xs[i]? = none → us[i]? = none := fun {xs us i} r e => by
  have h1 := r.length
  have h2 : xs.length ≤ i := List.getElem?_eq_none_iff.mp e
  exact List.getElem?_eq_none_iff.mpr (by omega)

def RelO : Option V → Option Value → Prop
  | some v, some u => RelV v u
  | none, none => True
  | _, _ => False
def KV {κ : Type} : List (κ × V) → List (κ × Value) → Prop := Paired fun (p : κ × V) (q : κ × Value) => p.1 = q.1 ∧ RelV p.2 q.2

/-- a key of a dict (00_mix): an int or a text -/
def kV : Key → V
  | .inl i => .int i
  | .inr x => .str x

/-- what stands at a tracked address -/
inductive HO where
  /-- a list -/
  | lst (xs : List V)
  /-- a tuple (never changes) -/
  | tup (xs : List V)
  /-- a dict whose keys are ints and texts; one whose keys are tuples of ints and texts (the empty one is both) -/
  | dK (kvs : List (Key × V)) | dT (kvs : List (List Key × V))
  /-- a set of ints: its members, its size -/
  | set (S : Int → Bool) (n : Nat)
  /-- an instance of the class at C, its dict at dx, its attributes -/
  | ins (C dx : Addr) (fs : List (Str × V))
  /-- the dict of the instance at x -/
  | own (x : Addr)
  /-- the dict of an exception -/
  | xd (fs : List (Str × V))
  /-- a bound method, f of x -/
  | met (f x : Addr)
  /-- a range object lo, lo + 1, .. below hi -/
  | rng (lo hi : Int)
  /-- a thing that is known to the object (the script; a dict while a loop walks it): read, never written while it is so -/
  | frz (o : Obj) (u : HO)
  /-- a code object's table -/
  | tbl (ps : Array Value)
  /-- any other thing, by what is true of its one object (a def of one's own: SetO a S n := HO.ext fun h => ..) -/
  | ext (φ : Heap → Prop)

abbrev Hp := Addr → Option HO
def upd (H : Hp) (a : Addr) (o : HO) : Hp := fun b => if b = a then some o else H b
theorem upd_same {H : Hp} {a : Addr} {o : HO} : upd H a o a = some o := by unfold upd; rw [if_pos rfl]
theorem upd_ne {H : Hp} {a b : Addr} {o : HO} (h : b ≠ a) : upd H a o b = H b := by unfold upd; rw [if_neg h]
theorem upd_upd {H : Hp} {a : Addr} {o u : HO} : upd (upd H a o) a u = upd H a u := by
  funext b; unfold upd; split <;> rfl
/-- two objects of different content stand apart -/
theorem ne_of {H : Hp} {a b : Addr} {o u : HO} (h : H a = some o) (h' : H b = some u) (d : o ≠ u) : a ≠ b := by
  intro e; subst e; rw [h] at h'; exact d (Option.some.inj h')
theorem ne_of_none {H : Hp} {a b : Addr} {o : HO} (h : H a = some o) (h' : H b = none) : a ≠ b := by
  intro e; subst e; rw [h] at h'; cases h'

section
variable (P : Program) (w : World)
def ObjOk (H : Hp) (h : Heap) (a : Addr) : HO → Prop
  | .lst xs => xs.length ≤ sizeLine ∧ ∃ (its : List Value) (n : Nat), Vals xs its ∧ h.get? a = some { cls := .type "list", data := .seq its.toArray n }
  | .tup xs => xs.length ≤ sizeLine ∧ ∃ its : List Value, Vals xs its ∧ IsTup h a its.toArray
  | .dK kvs => kvs.length ≤ sizeLine ∧ (a == sysModules) = false ∧ ∃ vs, KV kvs vs ∧ h.DictOf (mixKind P w) a vs
  | .dT kvs => kvs.length ≤ sizeLine ∧ (a == sysModules) = false ∧ ∃ xs : List (List Key × Addr × Value),
      Paired (fun (p : List Key × V) (q : List Key × Addr × Value) => p.1 = q.1 ∧ H q.2.1 = some (.tup (p.1.map kV)) ∧ RelV p.2 q.2.2) kvs xs ∧
      ∃ o es ep, h.get? a = some o ∧ o.ExactDict ∧ o.data = .dict es ep ∧ es.toList = xs.map (entryOfKey (tupleKind (mixKind P w))) ∧ (xs.map (·.1)).Nodup
  | .set S n => h.SetOf (intKind P w) a S n
  | .ins C dx fs => H dx = some (.own a) ∧ fs.length ≤ 1000 ∧ dx ≠ a ∧ h.get? a = some (PySem.W.instObj C dx) ∧
      ∃ mA, h.Ns1 dx mA ∧ (∀ f, RelO (fs.lookup f) (mA f)) ∧ PySem.Within mA (fs.map (·.1))
  | .own _ => ∃ o, h.get? a = some o
  | .xd fs => ∃ mA, h.Ns1 a mA ∧ ∀ f, RelO (fs.lookup f) (mA f)
  | .rng lo hi => ∃ t u v, h.get? a = some { cls := .type "range", data := .fields #[.int lo t, .int hi u, .int 1 v] }
  | .frz o u => h.get? a = some o ∧ ObjOk H h a u
  | .tbl ps => h.get? a = some { cls := .none, data := .fields ps }
  | .met f x => h.get? a = some (PySem.W.methodObj (.ref f) (.ref x))
  | .ext φ => φ h ∧ (∃ o, h.get? a = some o) ∧ ∀ h1 h2 : Heap, φ h1 → (∀ o, h1.get? a = some o → h2.get? a = some o) → φ h2
/-- the abstract heap is held -/
def HOk (H : Hp) (h : Heap) : Prop := ∀ a o, H a = some o → ObjOk P w H h a o
end

section
variable {P : Program} {w : World} {H H' : Hp} {h h' : Heap} {a : Addr} {o : HO}
theorem ObjOk.lt (x : ObjOk P w H h a o) : a < h.objs.size := by
  cases o with
  | lst xs => obtain ⟨_, _, _, _, e⟩ := x; exact Heap.lt_size e
  | tup xs => obtain ⟨_, _, _, p⟩ := x; exact p.lt
  | dK kvs => obtain ⟨_, _, _, _, o, _, _, e, _⟩ := x; exact Heap.lt_size e
  | dT kvs => obtain ⟨_, _, _, _, o, _, _, e, _⟩ := x; exact Heap.lt_size e
  | set S n => obtain ⟨o, _, _, _, e, _⟩ := x; exact Heap.lt_size e
  | ins C dx fs => obtain ⟨_, _, _, e, _⟩ := x; exact Heap.lt_size e
  | own y => obtain ⟨_, e⟩ := x; exact Heap.lt_size e
  | xd fs => obtain ⟨_, ⟨_, _, _, e, _⟩, _⟩ := x; exact Heap.lt_size e
  | rng lo hi => obtain ⟨_, _, _, e⟩ := x; exact Heap.lt_size e
  | frz ob u => obtain ⟨e, _⟩ := x; exact Heap.lt_size e
  | tbl ps => exact Heap.lt_size (show h.get? a = some _ from x)
  | met f y => exact Heap.lt_size (show h.get? a = some _ from x)
  | ext φ => obtain ⟨_, ⟨_, e⟩, _⟩ := x; exact Heap.lt_size e
theorem Paired.mapP {α β : Type} {F G : α → β → Prop} : ∀ {l₁ : List α} {l₂ : List β}, Paired F l₁ l₂ → (∀ a b, F a b → G a b) → Paired G l₁ l₂
  | _, _, .nil, _ => .nil
  | _, _, .cons r t, f => .cons (f _ _ r) (Paired.mapP t f)
/-- what an object's description leans on: its own object, its own dict, the tuples -/
theorem ObjOk.stay (x : ObjOk P w H h a o) (k : ∀ b u, (b = a ∨ H b = some (.own a)) → h.get? b = some u → h'.get? b = some u)
    (ho : ∀ b, H b = some (.own a) → H' b = some (.own a)) (ht : ∀ b xs, H b = some (.tup xs) → H' b = some (.tup xs)) : ObjOk P w H' h' a o := by
  induction o with
  | lst xs => obtain ⟨z, its, n, r, e⟩ := x; exact ⟨z, its, n, r, k _ _ (.inl rfl) e⟩
  | tup xs => obtain ⟨z, its, r, ob, e, c⟩ := x; exact ⟨z, its, r, ob, k _ _ (.inl rfl) e, c⟩
  | dK kvs => obtain ⟨z, y, vs, r, ob, es, ep, e, c⟩ := x; exact ⟨z, y, vs, r, ob, es, ep, k _ _ (.inl rfl) e, c⟩
  | dT kvs =>
    obtain ⟨z, y, xs, r, ob, es, ep, e, c⟩ := x
    exact ⟨z, y, xs, Paired.mapP r fun p q z => ⟨z.1, ht _ _ z.2.1, z.2.2⟩, ob, es, ep, k _ _ (.inl rfl) e, c⟩
  | set S n => obtain ⟨ob, es, ep, t, e, c⟩ := x; exact ⟨ob, es, ep, t, k _ _ (.inl rfl) e, c⟩
  | ins C dx fs =>
    obtain ⟨d, z, ne, e, mA, ⟨od, es, ep, e2, c⟩, r⟩ := x
    exact ⟨ho _ d, z, ne, k _ _ (.inl rfl) e, mA, ⟨od, es, ep, k _ _ (.inr d) e2, c⟩, r⟩
  | own y => obtain ⟨ob, e⟩ := x; exact ⟨ob, k _ _ (.inl rfl) e⟩
  | xd fs => obtain ⟨mA, ⟨od, es, ep, e, c⟩, r⟩ := x; exact ⟨mA, ⟨od, es, ep, k _ _ (.inl rfl) e, c⟩, r⟩
  | rng lo hi => obtain ⟨t, u, v, e⟩ := x; exact ⟨t, u, v, k _ _ (.inl rfl) e⟩
  | frz ob u ih => obtain ⟨e, q⟩ := x; exact ⟨k _ _ (.inl rfl) e, ih q⟩
  | tbl ps =>
    have e : h.get? a = some { cls := .none, data := .fields ps } := x
    show h'.get? a = some { cls := .none, data := .fields ps }
    exact k a _ (.inl rfl) e
  | met f y =>
    have e : h.get? a = some (PySem.W.methodObj (.ref f) (.ref y)) := x
    show h'.get? a = some (PySem.W.methodObj (.ref f) (.ref y))
    exact k a _ (.inl rfl) e
  | ext φ => obtain ⟨p, ⟨o, e⟩, st⟩ := x; exact ⟨st _ _ p fun o q => k _ _ (.inl rfl) q, ⟨o, k _ _ (.inl rfl) e⟩, st⟩
theorem HOk.lt (x : HOk P w H h) (e : H a = some o) : a < h.objs.size := (x a o e).lt
theorem HOk.fresh (x : HOk P w H h) (e : h.objs.size ≤ a) : H a = none := by
  cases q : H a with
  | none => rfl
  | some u => exact absurd (Nat.lt_of_lt_of_le (x.lt q) e) (Nat.lt_irrefl _)
/-- every object of the heap is kept -/
theorem HOk.kept (x : HOk P w H h) (k : ∀ b u, h.get? b = some u → h'.get? b = some u) : HOk P w H h' := fun a o e =>
  (x a o e).stay (fun b u _ q => k b u q) (fun _ q => q) fun _ _ q => q
/-- a new object is laid and tracked -/
theorem HOk.laid (x : HOk P w H h) (k : ∀ b u, h.get? b = some u → h'.get? b = some u) (hp : h.objs.size ≤ a) (new : ObjOk P w (upd H a o) h' a o) : HOk P w (upd H a o) h' := fun b u e => by
  have hn := x.fresh hp
  by_cases hb : b = a
  · subst hb; rw [upd_same] at e; cases e; exact new
  · rw [upd_ne hb] at e
    exact (x b u e).stay (fun c v _ q => k c v q) (fun c q => by rw [upd_ne (ne_of_none q hn)]; exact q) fun c xs q => by rw [upd_ne (ne_of_none q hn)]; exact q
end

/-- what may be read as u: it is u, or a known u -/
def Rd (H : Hp) (a : Addr) (u : HO) : Prop := H a = some u ∨ ∃ o, H a = some (.frz o u)
theorem Rd.of {H : Hp} {a : Addr} {u : HO} (h : H a = some u) : Rd H a u := .inl h
theorem Rd.ok {P : Program} {w : World} {H : Hp} {h : Heap} {a : Addr} {u : HO} (r : Rd H a u) (x : HOk P w H h) : ObjOk P w H h a u := by
  rcases r with r | ⟨o, r⟩
  · exact x a u r
  · obtain ⟨_, q⟩ := x a _ r
    exact q
/-- what may be written -/
def Mut : Option HO → Prop
  | some (.lst _) => True
  | some (.dK _) => True
  | some (.dT _) => True
  | some (.set _ _) => True
  | some (.ins _ _ _) => True
  | some (.ext _) => True
  | _ => False
section
variable {P : Program} {w : World} {H : Hp} {h h' : Heap} {x e : Addr} {o' : HO}
/-- the object at e is changed: x itself, or the dict of the instance x -/
theorem HOk.write (ok : HOk P w H h) (mu : Mut (H x)) (he : e = x ∨ H e = some (.own x)) (k : ∀ b u, b ≠ e → h.get? b = some u → h'.get? b = some u) (heo : ∃ u, h'.get? e = some u)
    (new : ObjOk P w (upd H x o') h' x o') : HOk P w (upd H x o') h' := fun b u q => by
  have nown : ∀ c y, H c = some (.own y) → c ≠ x := fun c y r z => by subst z; rw [r] at mu; exact mu
  have ntup : ∀ c xs, H c = some (.tup xs) → c ≠ x := fun c xs r z => by subst z; rw [r] at mu; exact mu
  by_cases hb : b = x
  · subst hb; rw [upd_same] at q; cases q; exact new
  · rw [upd_ne hb] at q
    by_cases hbe : b = e
    · have q' : H b = some (.own x) := by
        rcases he with z | z
        · exact absurd (hbe.trans z) hb
        · rw [hbe]; exact z
      rw [q] at q'; cases q'
      obtain ⟨v, hv⟩ := heo
      exact ⟨v, by rw [hbe]; exact hv⟩
    · refine (ok b u q).stay (fun c v hc r => k c v ?_ r) (fun c r => by rw [upd_ne (nown c b r)]; exact r) fun c xs r => by rw [upd_ne (ntup c xs r)]; exact r
      rcases hc with rfl | hc
      · exact hbe
      · rintro rfl
        rcases he with z | z
        · exact nown c b hc z
        · rw [hc] at z; cases z; exact hb rfl
end

/-! ### kept unless tracked; of the frames at fs (the callers') the slots may change (an exception that passes writes there); of the records at ex (iterators) nothing is said -/
structure Un (fs ex : List Addr) (H H' : Hp) (h h' : Heap) : Prop where
  keep : ∀ b o, h.get? b = some o → H b = none → b ∉ fs → b ∉ ex → h'.get? b = some o
  slot : ∀ b o, h.get? b = some o → H b = none → b ∈ fs → b ∉ ex → ∃ sl, h'.get? b = some { o with slots := sl }
  free : ∀ b o, h.get? b = some o → H b = none → b ∉ ex → H' b = none
  there : ∀ b o, h.get? b = some o → b ∉ ex → ∃ o', h'.get? b = some o'
  tups : ∀ b xs, H b = some (.tup xs) → H' b = some (.tup xs)
  frzs : ∀ b o u, H b = some (.frz o u) → H' b = some (.frz o u)
  tbls : ∀ b ps, H b = some (.tbl ps) → ∃ more, H' b = some (.tbl (ps ++ more))
section
variable {fs fs' ex ex' : List Addr} {H H1 H2 : Hp} {h h1 h2 h' : Heap} {a x e : Addr} {o : HO}
theorem Un.any (u : Un fs ex H H1 h h1) {b : Addr} {ob : Obj} (q : h.get? b = some ob) (n : H b = none) (hx : b ∉ ex) : ∃ sl, h1.get? b = some { ob with slots := sl } := by
  by_cases hb : b ∈ fs
  · exact u.slot b ob q n hb hx
  · exact ⟨ob.slots, u.keep b ob q n hb hx⟩
theorem Un.trans (a : Un fs ex H H1 h h1) (b : Un fs ex H1 H2 h1 h2) : Un fs ex H H2 h h2 where
  keep := fun c ob q n hc hx => b.keep c ob (a.keep c ob q n hc hx) (a.free c ob q n hx) hc hx
  slot := fun c ob q n hc hx => by
    obtain ⟨sl, e1⟩ := a.slot c ob q n hc hx
    obtain ⟨sl', e2⟩ := b.slot c _ e1 (a.free c ob q n hx) hc hx
    exact ⟨sl', e2⟩
  free := fun c ob q n hx => by
    obtain ⟨o', e1⟩ := a.there c ob q hx
    exact b.free c o' e1 (a.free c ob q n hx) hx
  there := fun c ob q hx => by
    obtain ⟨o', e1⟩ := a.there c ob q hx
    exact b.there c o' e1 hx
  tups := fun c xs q => b.tups c xs (a.tups c xs q)
  frzs := fun c ob xs q => b.frzs c ob xs (a.frzs c ob xs q)
  tbls := fun c ps q => by
    obtain ⟨m1, e1⟩ := a.tbls c ps q
    obtain ⟨m2, e2⟩ := b.tbls c _ e1
    exact ⟨m1 ++ m2, by rw [e2, Array.append_assoc]⟩
theorem Un.kept (k : ∀ b u, h.get? b = some u → h'.get? b = some u) : Un fs ex H H h h' :=
  ⟨fun b ob q _ _ _ => k b ob q, fun b ob q _ _ _ => ⟨ob.slots, k b ob q⟩, fun _ _ _ n _ => n, fun b ob q _ => ⟨ob, k b ob q⟩, fun _ _ q => q, fun _ _ _ q => q, fun _ ps q => ⟨#[], by rw [q]; simp⟩⟩
theorem Un.refl : Un fs ex H H h h := Un.kept fun _ _ q => q
theorem Un.laid (k : ∀ b u, h.get? b = some u → h'.get? b = some u) (hp : h.objs.size ≤ a) (hn : H a = none) : Un fs ex H (upd H a o) h h' where
  keep := fun b u q _ _ _ => k b u q
  slot := fun b u q _ _ _ => ⟨u.slots, k b u q⟩
  free := fun b u q n _ => by rw [upd_ne (Nat.ne_of_lt (Nat.lt_of_lt_of_le (Heap.lt_size q) hp))]; exact n
  there := fun b u q _ => ⟨u, k b u q⟩
  tups := fun b xs q => by rw [upd_ne (ne_of_none q hn)]; exact q
  frzs := fun b u xs q => by rw [upd_ne (ne_of_none q hn)]; exact q
  tbls := fun b ps q => ⟨#[], by rw [upd_ne (ne_of_none q hn), q]; simp⟩
theorem Un.write (mu : Mut (H x)) (he : e = x ∨ H e = some (.own x)) (k : ∀ b u, b ≠ e → h.get? b = some u → h'.get? b = some u) (heo : ∃ u, h'.get? e = some u) : Un fs ex H (upd H x o) h h' := by
  have hx : ∀ b, H b = none → b ≠ x := fun b n z => by subst z; rw [n] at mu; exact mu
  have hb : ∀ b, H b = none → b ≠ e := fun b n z => by
    subst z
    rcases he with r | r
    · exact hx b n r
    · rw [n] at r; cases r
  have hm : ∀ b u, H b = some u → ¬ Mut (some u) → b ≠ x := fun b u q nm z => by subst z; rw [q] at mu; exact nm mu
  refine ⟨fun b u q n _ _ => k b u (hb b n) q, fun b u q n _ _ => ⟨u.slots, k b u (hb b n) q⟩, fun b u q n _ => by rw [upd_ne (hx b n)]; exact n, fun b u q _ => ?_,
    fun b xs q => by rw [upd_ne (hm b _ q fun z => z)]; exact q, fun b u xs q => by rw [upd_ne (hm b _ q fun z => z)]; exact q, fun b ps q => ⟨#[], by rw [upd_ne (hm b _ q fun z => z), q]; simp⟩⟩
  by_cases hbe : b = e
  · subst hbe; exact heo
  · exact ⟨u, k b u hbe q⟩
theorem Un.mono (u : Un fs ex H H1 h h1) (hs : ∀ b ∈ fs, b ∈ fs') (hx : ∀ b ∈ ex, b ∈ ex') : Un fs' ex' H H1 h h1 :=
  ⟨fun b ob q n hb he => u.keep b ob q n (fun z => hb (hs b z)) fun z => he (hx b z), fun _ _ q n _ he => u.any q n fun z => he (hx _ z), fun b ob q n he => u.free b ob q n fun z => he (hx b z), fun b ob q he => u.there b ob q fun z => he (hx b z), u.tups, u.frzs, u.tbls⟩
end

/-! ### the heap without what is tracked -/
def trk (h : Heap) (H : Hp) : List Addr := (List.range h.objs.size).filter fun a => (H a).isSome
def hidT (h : Heap) (H : Hp) : Heap := PySem.W.hideAll h (trk h H)
theorem hidT_size (h : Heap) (H : Hp) : (hidT h H).objs.size = h.objs.size := PySem.W.hideAll_size _ _
theorem hidT_get {h : Heap} {H : Hp} {b : Addr} {o : Obj} (e : h.get? b = some o) (n : H b = none) : (hidT h H).get? b = some o :=
  PySem.W.hideAll_get _ e fun hm => by
    have q : (H b).isSome = true := (List.mem_filter.mp hm).2
    rw [n] at q; simp at q
theorem of_hidT {h : Heap} {H : Hp} {b : Addr} {o : Obj} (e : (hidT h H).get? b = some o) : h.get? b = some o ∧ H b = none := by
  have e' : h.get? b = some o := PySem.W.of_hideAll (trk h H) e
  refine ⟨e', ?_⟩
  cases q : H b with
  | none => rfl
  | some x =>
    have hm : b ∈ trk h H := List.mem_filter.mpr ⟨List.mem_range.mpr (Heap.lt_size e'), by simp [q]⟩
    have z : (hidT h H).get? b = none := PySem.W.hideAll_none (trk h H) hm
    rw [z] at e; cases e

/-! ### OpenK's ledger, filled with every new object but one -/
def allNews (g h : Heap) (L : Addr) : List (Addr × Obj) := (List.range h.objs.size).filterMap fun a => if a = L ∨ (g.get? a).isSome = true then none else (h.get? a).map fun o => (a, o)
def rest (g h : Heap) (L d : Addr) : List (Addr × Obj) := (allNews g h L).filter fun p => decide (p.1 ≠ d)
end L2

namespace L2
open PySem PySem.Spec PyProof.Rows

/-- the module's facts, over the base: the heap at the law's entry without what is tracked there -/
structure Mod (K : PySem.W.Frag) (mg : Str → Option Value) (base : Heap) : Prop where
  kin : K.In base
  glob : base.Ns mainGlobals mg
  blt : ∃ mb, base.Ns builtinsNs mb ∧ ∀ x : Str, x ≠ "__name__" → mb x = bootBuiltins x
  nolimit : base.NoLimit

/-- the context: a def's body (or a comprehension's block) running. base: fixed through the whole law; s₀, H₀: the entry; outer: the frames whose slots others may change (a def's callers); stack: all frames that run;
   ex: iterators that were made ahead of the entry and are walked here (a comprehension's); fn: the names whose cells were made at the entry (a def: all; a comprehension's block: its own); calm: not within an except suite; pn: pins that every state bears; xe: what is wanted of an exception that leaves the code -/
structure Cx where
  prog : Program
  w : World
  K : PySem.W.Frag
  mg : Str → Option Value
  base : Heap
  A : Around
  N : List Str
  s_0 : Shared
  H_0 : Hp
  env : Env
  outer : List Env
  stack : List Env
  ex : List Addr
  fn : Str → Bool
  calm : Bool
  pn : List (Addr × Obj)
  xe : Value → Shared → Prop
/-- the callers' frames -/
def frs (l : List Env) : List Addr := l.filterMap (·.frame)
abbrev Cx.fs (X : Cx) : List Addr := frs X.outer

def Vis (sc : Scope) (x : Str) : Prop := sc.names.lookup x = some .local ∨ sc.names.lookup x = some .cell ∨ sc.names.lookup x = some .free
def Loc (sc : Scope) (x : Str) : Prop := sc.names.lookup x = some .local ∨ sc.names.lookup x = some .cell
def Look (env : Env) (h : Heap) (m : Str → Option Value) (x : Str) (u : Value) : Prop :=
  (env.kindOf x = some .local ∧ m x = some u) ∨ ((env.kindOf x = some .cell ∨ env.kindOf x = some .free) ∧ ∃ c, env.cells.lookup x = some c ∧ h.IsCell c (some u))

structure Cx.Ok (X : Cx) : Prop where
  mod : Mod X.K X.mg X.base
  kind : X.env.scope.kind = .function
  glob : X.env.globals = mainGlobals
  blt : X.env.builtins = builtinsNs
  above : X.s_0.heap.objs.size ≤ X.env.locals
  inj : ∀ x y c, X.env.cells.lookup x = some c → X.env.cells.lookup y = some c → x = y
  has : ∀ x, (X.env.kindOf x = some .cell ∨ X.env.kindOf x = some .free) → ∃ c, X.env.cells.lookup x = some c
  cab : ∀ x c, X.fn x = true → X.env.cells.lookup x = some c → X.s_0.heap.objs.size ≤ c
  hd : X.calm = true → X.A.handled = none
  frames : X.A.frames = some X.stack
  stk : X.stack = X.outer ∨ (X.stack = X.env :: X.outer ∧ X.env.frame = some X.env.locals)
  exf : ∀ b ∈ X.ex, b ≠ X.env.locals ∧ ∀ x c, X.env.cells.lookup x = some c → c ≠ b
  bs : ∀ b o, X.base.get? b = some o → X.s_0.heap.get? b = some o ∧ X.H_0 b = none
  bsz : X.base.objs.size ≤ X.s_0.heap.objs.size
  noex : ∀ b o, X.base.get? b = some o → b ∉ X.ex
  exfs : ∀ b ∈ X.ex, b ∉ X.fs
  funs : X.s_0.heap.FunFrames X.base X.outer
  frf : ∀ b ∈ X.fs, X.H_0 b = none

structure Inv (X : Cx) (pins : List (Addr × Obj)) (σ : List (Option V)) (H : Hp) (s : Shared) : Prop where
  ok : X.Ok
  os : s.os = X.s_0.os
  bare : AllBare s.gens
  base : Un X.fs X.ex X.H_0 H X.s_0.heap s.heap
  loc : ∃ m, s.heap.Ns X.env.locals m ∧ ∀ (i : Nat) (x : Str) (v : V), X.N[i]? = some x → σ[i]? = some (some v) → Vis X.env.scope x → ∃ u, RelV v u ∧ Look X.env s.heap m x u
  cell : ∀ x c, X.env.cells.lookup x = some c → ∃ v, s.heap.IsCell c v
  free : H X.env.locals = none
  freeC : ∀ x c, X.env.cells.lookup x = some c → H c = none
  pin : ∀ p ∈ X.pn ++ pins, s.heap.get? p.1 = some p.2 ∧ H p.1 = none ∧ p.1 ≠ X.env.locals ∧ p.1 ∉ X.fs ∧ ∀ v, p.2.data ≠ .cell v
  hok : HOk X.prog X.w H s.heap
  len : σ.length = X.N.length

section
variable {X : Cx} {pins : List (Addr × Obj)} {σ : List (Option V)} {H H' : Hp} {s : Shared} {h' : Heap}

theorem Cx.Ok.nofr (ok : X.Ok) {b : Addr} {o : Obj} (e : X.base.get? b = some o) : b ∉ X.fs := fun hb => by
  have := (ok.funs.mem hb).1
  rw [e] at this; cases this
theorem Inv.bs (I : Inv X pins σ H s) : ∀ b o, X.base.get? b = some o → s.heap.get? b = some o ∧ H b = none := fun b o e =>
  ⟨I.base.keep b o (I.ok.bs b o e).1 (I.ok.bs b o e).2 (I.ok.nofr e) (I.ok.noex b o e), I.base.free b o (I.ok.bs b o e).1 (I.ok.bs b o e).2 (I.ok.noex b o e)⟩
theorem Inv.bk (I : Inv X pins σ H s) : ∀ b o, X.base.get? b = some o → s.heap.get? b = some o := fun b o e => (I.bs b o e).1
theorem Inv.mod (I : Inv X pins σ H s) : Mod X.K X.mg X.base := I.ok.mod
theorem Inv.kIn (I : Inv X pins σ H s) : X.K.In s.heap := I.ok.mod.kin.keeps I.bk
theorem Inv.nolimit (I : Inv X pins σ H s) : s.heap.NoLimit := I.ok.mod.nolimit.keeps I.bk
/-- the frame over the base: for OpenK's rules (K.In X.base is I.mod.kin) -/
theorem Inv.fr (I : Inv X pins σ H s) : ∃ m, Fr X.base X.env.locals s.heap m :=
  let ⟨m, hn, _⟩ := I.loc
  ⟨m, hn, I.bk, Nat.le_trans I.ok.bsz I.ok.above⟩
theorem Inv.lt (I : Inv X pins σ H s) : X.env.locals < s.heap.objs.size := let ⟨_, hn, _⟩ := I.loc; hn.lt
theorem Inv.sz (I : Inv X pins σ H s) : X.s_0.heap.objs.size ≤ s.heap.objs.size := Nat.le_trans I.ok.above (Nat.le_of_lt I.lt)
theorem Inv.nofs (I : Inv X pins σ H s) {a : Addr} (h : s.heap.objs.size ≤ a) : a ∉ X.fs := fun hb => by
  obtain ⟨_, o, ho, _⟩ := I.ok.funs.mem hb
  exact absurd (Nat.lt_of_lt_of_le (Heap.lt_size ho) (Nat.le_trans I.sz h)) (Nat.lt_irrefl _)
theorem Inv.cne (I : Inv X pins σ H s) : ∀ x c, X.env.cells.lookup x = some c → c ≠ X.env.locals := fun x c e z => by
  obtain ⟨v, o, ho, hd⟩ := I.cell x c e
  obtain ⟨m, ⟨o', es, ep, ho', hd', _⟩, _⟩ := I.loc
  rw [z, ho'] at ho; cases ho; rw [hd'] at hd; cases hd
theorem Inv.funs (I : Inv X pins σ H s) : s.heap.FunFrames X.base X.outer := by
  have all : ∀ (l : List Env), (∀ b ∈ frs l, b ∈ X.fs) → X.s_0.heap.FunFrames X.base l → s.heap.FunFrames X.base l := by
    intro l
    induction l with
    | nil => intro _ _; trivial
    | cons env r ih =>
      intro hs hl
      obtain ⟨hk, ⟨L, o, hf, hn, ho, hd⟩, hr⟩ := hl
      have hL : L ∈ X.fs := hs L (by unfold frs; rw [List.filterMap_cons, hf]; exact List.mem_cons_self)
      obtain ⟨sl, e⟩ := I.base.slot L o ho (I.ok.frf L hL) hL fun z => I.ok.exfs L z hL
      exact ⟨hk, ⟨L, _, hf, hn, e, hd⟩, ih (fun b hb => hs b (by unfold frs; rw [List.filterMap_cons, hf]; exact List.mem_cons_of_mem _ hb)) hr⟩
  exact all X.outer (fun _ hb => hb) I.ok.funs

/-- the frames that run, for a call -/
theorem Inv.stack (I : Inv X pins σ H s) : s.heap.FunFrames X.base X.stack := by
  rcases I.ok.stk with e | ⟨e, hf⟩
  · rw [e]; exact I.funs
  · rw [e]
    obtain ⟨m, hn, _⟩ := I.loc
    refine .cons (by rw [I.ok.kind]; decide) hf hn ?_ I.funs
    exact Heap.get?_none_of_le (Nat.le_trans I.ok.bsz I.ok.above)
theorem Inv.stkSub (I : Inv X pins σ H s) : ∀ b ∈ frs X.stack, b ∈ X.env.locals :: X.fs := fun b hb => by
  rcases I.ok.stk with e | ⟨e, hf⟩
  · rw [e] at hb; exact List.mem_cons_of_mem _ hb
  · rw [e] at hb
    unfold frs at hb
    rw [List.filterMap_cons, hf] at hb
    exact hb
theorem Inv.stkFree (I : Inv X pins σ H s) : ∀ b ∈ frs X.stack, H b = none := fun b hb => by
  rcases List.mem_cons.mp (I.stkSub b hb) with e | hb
  · rw [e]; exact I.free
  · obtain ⟨_, o, ho, _⟩ := I.ok.funs.mem hb
    exact I.base.free b o ho (I.ok.frf b hb) fun z => I.ok.exfs b z hb

/-- THE STEP: the untracked objects but the frame and the records at ch are kept (the callers' frames up to slots), the frame's map is kept, the new abstract heap is held -/
theorem Inv.step {g' : Array GenState} {t' : Nat} {d' : Drawn} {ch : List Addr} (I : Inv X pins σ H s)
    (hch : ∀ b ∈ ch, (b ∈ X.ex ∨ X.s_0.heap.objs.size ≤ b) ∧ b ≠ X.env.locals ∧ (∀ x c, X.env.cells.lookup x = some c → c ≠ b) ∧ ∀ p ∈ X.pn ++ pins, p.1 ≠ b)
    (keep : ∀ b o, b ≠ X.env.locals → b ∉ X.fs → b ∉ ch → s.heap.get? b = some o → H b = none → h'.get? b = some o)
    (slot : ∀ b o, b ≠ X.env.locals → b ∈ X.fs → b ∉ ch → s.heap.get? b = some o → H b = none → ∃ sl, h'.get? b = some { o with slots := sl }) (free : ∀ b o, b ∉ ch → s.heap.get? b = some o → H b = none → H' b = none)
    (there : ∀ b o, b ∉ ch → s.heap.get? b = some o → ∃ o', h'.get? b = some o')
    (tups : ∀ b xs, H b = some (.tup xs) → H' b = some (.tup xs)) (frzs : ∀ b o u, H b = some (.frz o u) → H' b = some (.frz o u)) (tbls : ∀ b ps, H b = some (.tbl ps) → ∃ more, H' b = some (.tbl (ps ++ more)))
    (ns : ∀ m, s.heap.Ns X.env.locals m → h'.Ns X.env.locals m) (hok : HOk X.prog X.w H' h') (hg : AllBare g') :
    Inv X pins σ H' { s with heap := h', gens := g', drawn := d', toks := t' } := by
  have neL : ∀ b o, X.s_0.heap.get? b = some o → b ≠ X.env.locals := fun b o e => Nat.ne_of_lt (Nat.lt_of_lt_of_le (Heap.lt_size e) I.ok.above)
  have neC : ∀ b o, X.s_0.heap.get? b = some o → b ∉ X.ex → b ∉ ch := fun b o e hx hb => by
    rcases (hch b hb).1 with z | z
    · exact hx z
    · exact absurd (Nat.lt_of_lt_of_le (Heap.lt_size e) z) (Nat.lt_irrefl _)
  have cellK : ∀ x c, X.env.cells.lookup x = some c → ∀ v, s.heap.IsCell c v → h'.IsCell c v := fun x c e v ⟨o, ho, hd⟩ => by
    have nch : c ∉ ch := fun z => (hch c z).2.2.1 x c e rfl
    by_cases hc : c ∈ X.fs
    · obtain ⟨sl, q⟩ := slot c o (I.cne x c e) hc nch ho (I.freeC x c e)
      exact ⟨_, q, hd⟩
    · exact ⟨o, keep c o (I.cne x c e) hc nch ho (I.freeC x c e), hd⟩
  refine ⟨I.ok, I.os, hg, ⟨fun b o e n hb hx => ?_, fun b o e n hb hx => ?_, fun b o e n hx => ?_, fun b o e hx => ?_, fun b xs e => tups b xs (I.base.tups b xs e), fun b o xs e => frzs b o xs (I.base.frzs b o xs e), fun b ps e => ?_⟩, ?_, fun x c e => ?_, ?_, fun x c e => ?_, fun p hp => ?_, hok, I.len⟩
  · exact keep b o (neL b o e) hb (neC b o e hx) (I.base.keep b o e n hb hx) (I.base.free b o e n hx)
  · obtain ⟨sl, e1⟩ := I.base.slot b o e n hb hx
    obtain ⟨sl', e2⟩ := slot b _ (neL b o e) hb (neC b o e hx) e1 (I.base.free b o e n hx)
    exact ⟨sl', e2⟩
  · obtain ⟨o', e1⟩ := I.base.there b o e hx
    exact free b o' (neC b o e hx) e1 (I.base.free b o e n hx)
  · obtain ⟨o', e1⟩ := I.base.there b o e hx
    exact there b o' (neC b o e hx) e1
  · obtain ⟨m1, e1⟩ := I.base.tbls b ps e
    obtain ⟨m2, e2⟩ := tbls b _ e1
    exact ⟨m1 ++ m2, by rw [e2, Array.append_assoc]⟩
  · obtain ⟨m, hn, hl⟩ := I.loc
    refine ⟨m, ns m hn, fun i x v e1 e2 e3 => ?_⟩
    obtain ⟨u, r, l⟩ := hl i x v e1 e2 e3
    refine ⟨u, r, ?_⟩
    rcases l with l | ⟨k, c, e, z⟩
    · exact .inl l
    · exact .inr ⟨k, c, e, cellK x c e _ z⟩
  · obtain ⟨v, z⟩ := I.cell x c e
    exact ⟨v, cellK x c e v z⟩
  · obtain ⟨m, ⟨o, _, _, ho, _⟩, _⟩ := I.loc
    exact free _ o (fun z => (hch _ z).2.1 rfl) ho I.free
  · obtain ⟨v, o, ho, hd⟩ := I.cell x c e
    exact free c o (fun z => (hch c z).2.2.1 x c e rfl) ho (I.freeC x c e)
  · obtain ⟨e, n, ne, nf, d⟩ := I.pin p hp
    have nch : p.1 ∉ ch := fun z => (hch p.1 z).2.2.2 p hp rfl
    exact ⟨keep p.1 p.2 ne nf nch e n, free p.1 p.2 nch e n, ne, nf, d⟩
/-- .. where the frame's own object is kept too -/
theorem Inv.un {t' : Nat} (I : Inv X pins σ H s) (u : Un X.fs [] H H' s.heap h') (hok : HOk X.prog X.w H' h') : Inv X pins σ H' { s with heap := h', toks := t' } := by
  obtain ⟨m, ⟨o, es, ep, ho, r⟩, _⟩ := id I.loc
  obtain ⟨sl, hL⟩ := u.any ho I.free (by simp)
  exact I.step (g' := s.gens) (d' := s.drawn) (ch := []) (fun _ z => nomatch z) (fun b o _ hb _ e n => u.keep b o e n hb (by simp)) (fun b o _ hb _ e n => u.slot b o e n hb (by simp)) (fun b o _ e n => u.free b o e n (by simp)) (fun b o _ e => u.there b o e (by simp)) u.tups u.frzs u.tbls (fun m' hm => by
    obtain ⟨o', es', ep', ho', r'⟩ := hm
    rw [ho] at ho'; cases ho'
    exact ⟨_, es', ep', hL, r'⟩) hok I.bare
/-- behind a call (or a comprehension's block): the slots of this frame may have changed too, the records at ch may have turned -/
theorem Inv.call {g' : Array GenState} {t' : Nat} {d' : Drawn} {ch : List Addr} (I : Inv X pins σ H s) (u : Un (frs X.stack) ch H H' s.heap h') (hok : HOk X.prog X.w H' h') (hg : AllBare g')
    (hch : ∀ b ∈ ch, (b ∈ X.ex ∨ X.s_0.heap.objs.size ≤ b) ∧ b ≠ X.env.locals ∧ (∀ x c, X.env.cells.lookup x = some c → c ≠ b) ∧ ∀ p ∈ X.pn ++ pins, p.1 ≠ b) :
    Inv X pins σ H' { s with heap := h', gens := g', drawn := d', toks := t' } := by
  obtain ⟨m, ⟨o, es, ep, ho, r⟩, _⟩ := id I.loc
  obtain ⟨sl, hL⟩ := u.any ho I.free fun z => (hch _ z).2.1 rfl
  exact I.step (ch := ch) hch (fun b o hL hb hc e n => u.keep b o e n (fun z => (List.mem_cons.mp (I.stkSub b z)).elim hL hb) hc) (fun b o _ _ hc e n => u.any e n hc) (fun b o hc e n => u.free b o e n hc) (fun b o hc e => u.there b o e hc) u.tups u.frzs u.tbls (fun m' hm => by
    obtain ⟨o', es', ep', ho', r'⟩ := hm
    rw [ho] at ho'; cases ho'
    exact ⟨_, es', ep', hL, r'⟩) hok hg
/-- an untracked record of ours (an iterator) has turned -/
theorem Inv.turned {t' : Nat} {it : Addr} (I : Inv X pins σ H s) (k : ∀ b o, b ≠ it → s.heap.get? b = some o → h'.get? b = some o) (hn : H it = none) (hL : it ≠ X.env.locals)
    (h1 : it ∈ X.ex ∨ X.s_0.heap.objs.size ≤ it) (h2 : ∀ x c, X.env.cells.lookup x = some c → c ≠ it) (h3 : ∀ p ∈ X.pn ++ pins, p.1 ≠ it) : Inv X pins σ H { s with heap := h', toks := t' } := by
  have nit : ∀ b u, H b = some u → b ≠ it := fun b u e z => by rw [z, hn] at e; cases e
  refine I.step (g' := s.gens) (d' := s.drawn) (ch := [it]) (fun b hb => ?_) (fun b o _ _ hc e _ => k b o (fun z => hc (by simp [z])) e) (fun b o _ _ hc e _ => ⟨o.slots, k b o (fun z => hc (by simp [z])) e⟩) (fun _ _ _ _ n => n)
    (fun b o hc e => ⟨o, k b o (fun z => hc (by simp [z])) e⟩) (fun _ _ e => e) (fun _ _ _ e => e) (fun b ps e => ⟨#[], by rw [e]; simp⟩) (fun m hm => ?_) (fun b u e => ?_) I.bare
  · have e : b = it := by simpa using hb
    subst e
    exact ⟨h1, hL, h2, h3⟩
  · obtain ⟨o, es, ep, ho, r⟩ := hm
    exact ⟨o, es, ep, k _ o (Ne.symm hL) ho, r⟩
  · refine (I.hok b u e).stay (fun c v hc q => k c v ?_ q) (fun _ q => q) fun _ _ q => q
    rcases hc with z | z
    · rw [z]; exact nit b u e
    · exact nit c _ z
theorem Inv.tok (I : Inv X pins σ H s) (t : Nat) : Inv X pins σ H { s with toks := t } := I.un (h' := s.heap) (t' := t) Un.refl I.hok
/-- all objects kept -/
theorem Inv.kept {t' : Nat} (I : Inv X pins σ H s) (k : ∀ b u, s.heap.get? b = some u → h'.get? b = some u) : Inv X pins σ H { s with heap := h', toks := t' } := I.un (Un.kept k) (I.hok.kept k)
/-- a new object laid and tracked -/
theorem Inv.laid {a : Addr} {o : HO} {t' : Nat} (I : Inv X pins σ H s) (k : ∀ b u, s.heap.get? b = some u → h'.get? b = some u) (hp : s.heap.objs.size ≤ a) (new : ObjOk X.prog X.w (upd H a o) h' a o) :
    Inv X pins σ (upd H a o) { s with heap := h', toks := t' } := I.un (Un.laid k hp (I.hok.fresh hp)) (I.hok.laid k hp new)
/-- an object written -/
theorem Inv.write {x e : Addr} {o : HO} {t' : Nat} (I : Inv X pins σ H s) (mu : Mut (H x)) (he : e = x ∨ H e = some (.own x)) (k : ∀ b u, b ≠ e → s.heap.get? b = some u → h'.get? b = some u) (heo : ∃ u, h'.get? e = some u)
    (new : ObjOk X.prog X.w (upd H x o) h' x o) : Inv X pins σ (upd H x o) { s with heap := h', toks := t' } := I.un (Un.write mu he k heo) (I.hok.write mu he k heo new)
/-- forgetting slots, pins -/
theorem Inv.weak {σ' : List (Option V)} (I : Inv X pins σ H s) (hl : σ'.length = σ.length) (w : ∀ (i : Nat) v, σ'[i]? = some (some v) → σ[i]? = some (some v)) : Inv X pins σ' H s :=
  ⟨I.ok, I.os, I.bare, I.base, let ⟨m, hn, hl'⟩ := I.loc; ⟨m, hn, fun i x v e1 e2 e3 => hl' i x v e1 (w i v e2) e3⟩, I.cell, I.free, I.freeC, I.pin, I.hok, hl.trans I.len⟩
theorem Inv.pins_of {pins' : List (Addr × Obj)} (I : Inv X pins σ H s) (h : ∀ p ∈ pins', s.heap.get? p.1 = some p.2 ∧ H p.1 = none ∧ p.1 ≠ X.env.locals ∧ p.1 ∉ X.fs ∧ ∀ v, p.2.data ≠ .cell v) : Inv X pins' σ H s :=
  ⟨I.ok, I.os, I.bare, I.base, I.loc, I.cell, I.free, I.freeC, fun p hp => (List.mem_append.mp hp).elim (fun z => I.pin p (List.mem_append_left _ z)) (h p), I.hok, I.len⟩

theorem nodup_ix {N : List Str} (hN : N.Nodup) {i j : Nat} {x : Str} (a : N[i]? = some x) (b : N[j]? = some x) : i = j := by
  obtain ⟨h1, e1⟩ := List.getElem?_eq_some_iff.mp a
  obtain ⟨h2, e2⟩ := List.getElem?_eq_some_iff.mp b
  exact (List.getElem_inj hN).mp (e1.trans e2.symm)

/-- a name is stored; what changed -/
theorem store_ok2 {M : Model} {A : Around} {E : Value → Shared → Prop} {i : Nat} {x : Str} {v : V} {u : Value} {Q : Unit → Shared → Prop} (I : Inv X pins σ H s) (hN : X.N.Nodup) (hi : X.N[i]? = some x) (hx : Loc X.env.scope x) (r : RelV v u)
    (h : ∀ s', Inv X pins (σ.set i (some v)) H s' → (∃ a, Heap.SameBut a s.heap s'.heap ∧ (a = X.env.locals ∨ X.env.cells.lookup x = some a)) → Q () s') (hf : X.fn x = true ∨ X.env.scope.names.lookup x = some .local := by first | exact .inl rfl | exact .inr rfl | assumption) : wpAny M A (storeName X.env x u) Q E s := by
  obtain ⟨m, hn, hl⟩ := id I.loc
  have hcls : (X.env.scope.kind == .class || (X.env.scope.kind == .module && X.env.locals != X.env.globals)) = false := by rw [I.ok.kind]; rfl
  have hiσ : i < σ.length := by rw [I.len]; exact (List.getElem?_eq_some_iff.mp hi).1
  have cne := I.cne
  have tracked : ∀ {a : Addr} {h' : Heap}, (∃ o, s.heap.get? a = some o ∧ H a = none) → Heap.SameBut a s.heap h' → HOk X.prog X.w H h' := fun {a h'} ha hs b ob e => by
    obtain ⟨_, _, hfree⟩ := ha
    refine (I.hok b ob e).stay (fun c w' hc q => (hs.2 c ?_).trans q) (fun _ q => q) fun _ _ q => q
    rintro rfl
    rcases hc with rfl | hc
    · rw [hfree] at e; cases e
    · rw [hfree] at hc; cases hc
  rcases hx with hk | hk
  · refine wpAny_storeName_local hk hn (fun h' hn' hs => ?_) hcls
    obtain ⟨oL, _, _, hoL, _⟩ := id hn
    refine h _ ⟨I.ok, I.os, I.bare, ⟨fun b o e n hb hx => ?_, fun b o e n hb hx => ?_, I.base.free, fun b o e hx => ?_, I.base.tups, I.base.frzs, I.base.tbls⟩, ⟨_, hn', fun j y v' e1 e2 e3 => ?_⟩, fun y c e => ?_, I.free, I.freeC, fun p hp => ?_, tracked ⟨oL, hoL, I.free⟩ hs, by simpa using I.len⟩ ⟨_, hs, .inl rfl⟩
    · exact (hs.2 b (Nat.ne_of_lt (Nat.lt_of_lt_of_le (Heap.lt_size e) I.ok.above))).trans (I.base.keep b o e n hb hx)
    · obtain ⟨sl, e1⟩ := I.base.slot b o e n hb hx
      exact ⟨sl, (hs.2 b (Nat.ne_of_lt (Nat.lt_of_lt_of_le (Heap.lt_size e) I.ok.above))).trans e1⟩
    · obtain ⟨o', e1⟩ := I.base.there b o e hx
      exact ⟨o', (hs.2 b (Nat.ne_of_lt (Nat.lt_of_lt_of_le (Heap.lt_size e) I.ok.above))).trans e1⟩
    · by_cases hj : j = i
      · subst hj
        rw [hi] at e1; cases e1
        rw [List.getElem?_set_self hiσ] at e2
        cases e2
        exact ⟨u, r, .inl ⟨hk, by simp⟩⟩
      · rw [List.getElem?_set_ne (Ne.symm hj)] at e2
        obtain ⟨u', r', q⟩ := hl j y v' e1 e2 e3
        refine ⟨u', r', ?_⟩
        rcases q with ⟨k, e⟩ | ⟨k, c, e, z⟩
        · refine .inl ⟨k, ?_⟩
          have : y ≠ x := fun e => hj (nodup_ix hN e1 (e ▸ hi))
          simp [this, e]
        · exact .inr ⟨k, c, e, z.sameBut hs (cne y c e)⟩
    · obtain ⟨w', z⟩ := I.cell y c e
      exact ⟨w', z.sameBut hs (cne y c e)⟩
    · obtain ⟨e, n, ne, nf, d⟩ := I.pin p hp
      exact ⟨(hs.2 p.1 ne).trans e, n, ne, nf, d⟩
  · have hfn : X.fn x = true := by
      rcases hf with z | z
      · exact z
      · rw [z] at hk; cases hk
    obtain ⟨c, hc⟩ := I.ok.has x (.inl hk)
    obtain ⟨w', z⟩ := I.cell x c hc
    refine wpAny_storeName_cell I.ok.kind hk hc z (fun h' hc' hs => ?_)
    obtain ⟨oc, hoc, hocd⟩ := id z
    refine h { s with heap := h' } ⟨I.ok, I.os, I.bare, ⟨fun b o e n hb hx => ?_, fun b o e n hb hx => ?_, I.base.free, fun b o e hx => ?_, I.base.tups, I.base.frzs, I.base.tbls⟩, ⟨m, hn.sameBut hs (Ne.symm (cne x c hc)), fun j y v' e1 e2 e3 => ?_⟩, fun y c' e => ?_, I.free, I.freeC, fun p hp => ?_, tracked ⟨oc, hoc, I.freeC x c hc⟩ hs, by simpa using I.len⟩ ⟨c, hs, .inr hc⟩
    · exact (hs.2 b (Nat.ne_of_lt (Nat.lt_of_lt_of_le (Heap.lt_size e) (I.ok.cab x c hfn hc)))).trans (I.base.keep b o e n hb hx)
    · obtain ⟨sl, e1⟩ := I.base.slot b o e n hb hx
      exact ⟨sl, (hs.2 b (Nat.ne_of_lt (Nat.lt_of_lt_of_le (Heap.lt_size e) (I.ok.cab x c hfn hc)))).trans e1⟩
    · obtain ⟨o', e1⟩ := I.base.there b o e hx
      exact ⟨o', (hs.2 b (Nat.ne_of_lt (Nat.lt_of_lt_of_le (Heap.lt_size e) (I.ok.cab x c hfn hc)))).trans e1⟩
    · by_cases hj : j = i
      · subst hj
        rw [hi] at e1; cases e1
        rw [List.getElem?_set_self hiσ] at e2
        cases e2
        exact ⟨u, r, .inr ⟨.inl hk, c, hc, hc'⟩⟩
      · rw [List.getElem?_set_ne (Ne.symm hj)] at e2
        obtain ⟨u', r', q⟩ := hl j y v' e1 e2 e3
        refine ⟨u', r', ?_⟩
        rcases q with q | ⟨k, c', e, z'⟩
        · exact .inl q
        · refine .inr ⟨k, c', e, z'.sameBut hs ?_⟩
          rintro rfl
          exact hj (nodup_ix hN e1 (I.ok.inj _ _ _ e hc ▸ hi))
    · by_cases hcc : c' = c
      · subst hcc; exact ⟨_, hc'⟩
      · obtain ⟨w2, z2⟩ := I.cell y c' e
        exact ⟨w2, z2.sameBut hs hcc⟩
    · obtain ⟨e, n, ne, nf, d⟩ := I.pin p hp
      refine ⟨(hs.2 p.1 ?_).trans e, n, ne, nf, d⟩
      intro q
      rw [q, hoc] at e
      have q' : oc = p.2 := Option.some.inj e
      exact d w' (by rw [← q']; exact hocd)
theorem store_ok {M : Model} {A : Around} {E : Value → Shared → Prop} {i : Nat} {x : Str} {v : V} {u : Value} {Q : Unit → Shared → Prop} (I : Inv X pins σ H s) (hN : X.N.Nodup) (hi : X.N[i]? = some x) (hx : Loc X.env.scope x) (r : RelV v u)
    (h : ∀ s', Inv X pins (σ.set i (some v)) H s' → Q () s') (hf : X.fn x = true ∨ X.env.scope.names.lookup x = some .local := by first | exact .inl rfl | exact .inr rfl | assumption) : wpAny M A (storeName X.env x u) Q E s :=
  store_ok2 I hN hi hx r (fun s' I' _ => h s' I') hf
/-- behind a call or a block, the state as it is -/
theorem Inv.call' {s' : Shared} {ch : List Addr} (I : Inv X pins σ H s) (ho : s'.os = s.os) (u : Un (frs X.stack) ch H H' s.heap s'.heap) (hok : HOk X.prog X.w H' s'.heap) (hg : AllBare s'.gens)
    (hch : ∀ b ∈ ch, (b ∈ X.ex ∨ X.s_0.heap.objs.size ≤ b) ∧ b ≠ X.env.locals ∧ (∀ x c, X.env.cells.lookup x = some c → c ≠ b) ∧ ∀ p ∈ X.pn ++ pins, p.1 ≠ b) : Inv X pins σ H' s' := by
  obtain ⟨h', g', d', t', o'⟩ := s'
  have e : o' = s.os := ho
  subst e
  exact I.call (g' := g') (t' := t') (d' := d') u hok hg hch
end

/-! ### the judgements -/
/-- an exception: its class, its own dict's address (where it has one), the abstract heap behind it -/
abbrev XK := Value → Option Addr → Hp → Prop
abbrev St := List (Option V)
abbrev VK := V → Hp → Prop
/-- an expression's reading; a test's; an argument list's -/
abbrev TE := St → Hp → VK → Prop
abbrev TT := St → Hp → (Bool → Hp → Prop) → Prop
abbrev TA := St → Hp → (List V → Hp → Prop) → Prop
/-- what is wanted behind a statement -/
structure Ends where
  nx : St → Hp → Prop
  rt : VK
  bk : St → Hp → Prop := fun _ _ => False
  ct : St → Hp → Prop := fun _ _ => False
abbrev TS := Ends → St → Hp → Prop

def EP (X : Cx) (pins : List (Addr × Obj)) (σ : St) (Q : VK) (u : Value) (s' : Shared) : Prop := ∃ v H', Inv X pins σ H' s' ∧ RelV v u ∧ Q v H'
def TP (X : Cx) (pins : List (Addr × Obj)) (σ : St) (Q : Bool → Hp → Prop) (b : Bool) (s' : Shared) : Prop := ∃ H', Inv X pins σ H' s' ∧ Q b H'
def AP (X : Cx) (pins : List (Addr × Obj)) (σ : St) (Q : List V → Hp → Prop) (us : List Value) (s' : Shared) : Prop := ∃ vs H', Inv X pins σ H' s' ∧ Vals vs us ∧ Q vs H'
def SP (X : Cx) (pins : List (Addr × Obj)) (D : Ends) (f : Flow) (s' : Shared) : Prop :=
  match f with
  | .next => ∃ σ' H', Inv X pins σ' H' s' ∧ D.nx σ' H'
  | .brk => ∃ σ' H', Inv X pins σ' H' s' ∧ D.bk σ' H'
  | .cont => ∃ σ' H', Inv X pins σ' H' s' ∧ D.ct σ' H'
  | .ret u => ∃ v σ' H', Inv X pins σ' H' s' ∧ RelV v u ∧ D.rt v H'

def PE (X : Cx) (e : Expr) (t : TE) : Prop :=
  ∀ (pins : List (Addr × Obj)) (s : Shared) (σ : St) (H : Hp) (Q : VK), Inv X pins σ H s → t σ H Q → wpAny (model X.prog X.w) X.A (eval e X.env) (EP X pins σ Q) X.xe s
def PT (X : Cx) (e : Expr) (t : TT) : Prop :=
  ∀ (pins : List (Addr × Obj)) (s : Shared) (σ : St) (H : Hp) (Q : Bool → Hp → Prop), Inv X pins σ H s → t σ H Q → wpAny (model X.prog X.w) X.A (isTrue e X.env (eval e X.env)) (TP X pins σ Q) X.xe s
/-- a test whatever its 'whole' is (and, or) -/
def PW (X : Cx) (e : Expr) (t : TT) : Prop :=
  ∀ (whole : Sem Value) (pins : List (Addr × Obj)) (s : Shared) (σ : St) (H : Hp) (Q : Bool → Hp → Prop), Inv X pins σ H s → t σ H Q → wpAny (model X.prog X.w) X.A (isTrue e X.env whole) (TP X pins σ Q) X.xe s
theorem PW.pt {X : Cx} {e : Expr} {t : TT} (h : PW X e t) : PT X e t := h _
/-- an argument list (no star), from the left -/
def PA (X : Cx) (es : List Expr) (t : TA) : Prop :=
  ∀ (pos : Pos) (pins : List (Addr × Obj)) (s : Shared) (σ : St) (H : Hp) (Q : List V → Hp → Prop), Inv X pins σ H s → t σ H Q → wpAny (model X.prog X.w) X.A (spliced (backTo pos (starEach es X.env))) (AP X pins σ Q) X.xe s
def PS (X : Cx) (st : Stmt) (t : TS) : Prop :=
  ∀ (pins : List (Addr × Obj)) (s : Shared) (σ : St) (H : Hp) (D : Ends), Inv X pins σ H s → t D σ H → wpAny (model X.prog X.w) X.A (exec st X.env) (SP X pins D) X.xe s
def PSs (X : Cx) (st : List Stmt) (t : TS) : Prop :=
  ∀ (pins : List (Addr × Obj)) (s : Shared) (σ : St) (H : Hp) (D : Ends), Inv X pins σ H s → t D σ H → wpAny (model X.prog X.w) X.A (execs st X.env) (SP X pins D) X.xe s
/-- weaken the end -/
theorem thn {α : Type} {t : Sem α} {Q Q' : α → Shared → Prop} {M : Model} {A : Around} {E : Value → Shared → Prop} {s : Shared} (h : wpAny M A t Q E s) (hQ : ∀ a s, Q a s → Q' a s) : wpAny M A t Q' E s := wpAny_mono h hQ fun _ _ x => x
end L2

namespace L2
open PySem PySem.Spec PyProof.Rows
section
variable {X : Cx}

/-! ### names and constants -/
def tVar (i : Nat) : TE := fun σ H Q => ∃ v, σ[i]? = some (some v) ∧ Q v H
def tC (v : V) : TE := fun _ H Q => Q v H
theorem pe_var {i : Nat} {x : Str} {pos : Pos} (hN : X.N[i]? = some x) (hv : Vis X.env.scope x) (hd : (x == ("__debug__" : Str)) = false := by decide) (hcd : (x == ("__classdict__" : Str)) = false := by decide) : PE X (.Name x pos) (tVar i) := by
  intro pins s σ H Q I h
  obtain ⟨v, e, h⟩ := h
  obtain ⟨m, hn, hl⟩ := I.loc
  obtain ⟨u, r, l⟩ := hl i x v hN e hv
  have fin : EP X pins σ Q u s := ⟨v, H, I, r, h⟩
  rcases l with ⟨hk, hm⟩ | ⟨hk, c, hc, hcell⟩
  · exact wpAny_Name (wpAny_loadName_local I.ok.kind hk hn hm fin) hd
  · rcases hk with hk | hk
    · exact wpAny_Name (wpAny_loadName_cell I.ok.kind hk hc hcell fin) hd
    · exact wpAny_Name (wpAny_loadName_free I.ok.kind hk hc hcell fin hcd) hd
theorem pe_int {i j pos} : PE X (.Constant (.int i) j pos) (tC (.int i)) := fun _ _ _ H _ I h => wpAny_Constant_int ⟨.int i, H, I.tok _, ⟨_, rfl⟩, h⟩
theorem pe_bl {b j pos} : PE X (.Constant (.bool b) j pos) (tC (.bl b)) := fun _ _ _ H _ I h => Constant_bool ⟨.bl b, H, I, rfl, h⟩
theorem pe_non {j pos} : PE X (.Constant .none j pos) (tC .non) := fun _ _ _ H _ I h => Constant_none ⟨.non, H, I, rfl, h⟩
theorem pe_str {x j pos} : PE X (.Constant (.str x) j pos) (tC (.str x)) := fun _ _ _ H _ I h => Calls.Constant_str ⟨.str x, H, I.tok _, ⟨_, rfl⟩, h⟩

/-- a global name of the def -/
def Gl (X : Cx) (x : Str) : Prop := X.env.kindOf x = some .globalImplicit
theorem ld_glob {E : Value → Shared → Prop} {pins : List (Addr × Obj)} {s : Shared} {σ : St} {H : Hp} {x : Str} {u : Value} {pos : Pos} {Q : Value → Shared → Prop} (I : Inv X pins σ H s) (hg : Gl X x) (hm : X.mg x = some u) (h : Q u s)
    (hd : (x == ("__debug__" : Str)) = false := by decide) : wpAny (model X.prog X.w) X.A (eval (.Name x pos) X.env) Q E s :=
  Calls.Name_function_global I.ok.kind hg (Calls.loadGlobal_global (by rw [I.ok.glob]; exact I.mod.glob.keeps I.bk) hm h) hd
theorem ld_blt {E : Value → Shared → Prop} {pins : List (Addr × Obj)} {s : Shared} {σ : St} {H : Hp} {x : Str} {u : Value} {pos : Pos} {Q : Value → Shared → Prop} (I : Inv X pins σ H s) (hg : Gl X x) (hm : X.mg x = none) (hv : bootBuiltins x = some u) (h : Q u s)
    (hn : x ≠ "__name__" := by decide) (hd : (x == ("__debug__" : Str)) = false := by decide) : wpAny (model X.prog X.w) X.A (eval (.Name x pos) X.env) Q E s := by
  obtain ⟨mb, h1, h2⟩ := I.mod.blt
  exact Calls.Name_function_global I.ok.kind hg (Calls.loadGlobal_builtin (by rw [I.ok.glob]; exact I.mod.glob.keeps I.bk) hm (by rw [I.ok.blt]; exact h1.keeps I.bk) ((h2 x hn).trans hv) h) hd
/-- a module's constant, a class, a function, as a value -/
theorem pe_glob {x : Str} {v : V} {u : Value} {pos : Pos} (hg : Gl X x) (hm : X.mg x = some u) (r : RelV v u) (hd : (x == ("__debug__" : Str)) = false := by decide) : PE X (.Name x pos) (tC v) :=
  fun _ _ _ H _ I h => ld_glob I hg hm ⟨v, H, I, r, h⟩ hd
theorem pe_bltn {x : Str} {v : V} {u : Value} {pos : Pos} (hg : Gl X x) (hm : X.mg x = none) (hv : bootBuiltins x = some u) (r : RelV v u) (hn : x ≠ "__name__" := by decide) (hd : (x == ("__debug__" : Str)) = false := by decide) : PE X (.Name x pos) (tC v) :=
  fun _ _ _ H _ I h => ld_blt I hg hm hv ⟨v, H, I, r, h⟩ hn hd

/-! ### arithmetic -/
variable {a b : Expr} {ta tb : TE} {pos : Pos}
/-! ### comparisons -/
/-- a comparison as a value, as a test -/
def tB (t : TE) : TT := fun σ H Q => t σ H fun x H1 => ∃ c, x = .bl c ∧ Q c H1
/-- an expression whose value is a bool, as a test -/
theorem pt_val {e : Expr} {t : TE} (h : PE X e t) (he : ∀ whole, isTrue e X.env whole = (do let v ← whole; standAt e.pos; holding [v] (truthy v)) := by intro _; rfl) : PT X e (tB t) := by
  intro pins s σ H Q I hw
  refine isTrue_plain (thn (h pins s σ H _ I hw) fun v s1 ⟨x, H1, I1, r1, q1⟩ => ?_) (he _)
  obtain ⟨d, rfl, q⟩ := q1
  cases r1
  exact wpAny_truthy_bool ⟨H1, I1, q⟩

/-! ### and, or, not -/
variable {tA tB' : TT} {rest : List Expr}
def tAnd (t u : TT) : TT := fun σ H Q => t σ H fun c H1 => if c = true then u σ H1 Q else Q false H1
def tOr (t u : TT) : TT := fun σ H Q => t σ H fun c H1 => if c = true then Q true H1 else u σ H1 Q
def tNot (t : TT) : TT := fun σ H Q => t σ H fun c H1 => Q (!c) H1
theorem pw_and1 (ha : PT X a tA) : PW X (.BoolOp .And [a] pos) tA := by
  intro wh pins s σ H Q I h
  refine isTrue_and (thn (ha pins s σ H Q I h) fun c s1 e => ?_)
  cases c with
  | true => exact isTrue_and_nil e
  | false => exact e
theorem pw_or1 (ha : PT X a tA) : PW X (.BoolOp .Or [a] pos) tA := by
  intro wh pins s σ H Q I h
  refine isTrue_or (thn (ha pins s σ H Q I h) fun c s1 e => ?_)
  cases c with
  | false => exact isTrue_or_nil e
  | true => exact e
theorem pw_and (ha : PT X a tA) (hb : PW X (.BoolOp .And (b :: rest) pos) tB') : PW X (.BoolOp .And (a :: b :: rest) pos) (tAnd tA tB') := by
  intro wh pins s σ H Q I h
  refine isTrue_and (thn (ha pins s σ H _ I h) fun c s1 ⟨H1, I1, q1⟩ => ?_)
  cases c with
  | true => exact hb wh pins s1 σ H1 Q I1 q1
  | false => exact ⟨H1, I1, q1⟩
theorem pw_or (ha : PT X a tA) (hb : PW X (.BoolOp .Or (b :: rest) pos) tB') : PW X (.BoolOp .Or (a :: b :: rest) pos) (tOr tA tB') := by
  intro wh pins s σ H Q I h
  refine isTrue_or (thn (ha pins s σ H _ I h) fun c s1 ⟨H1, I1, q1⟩ => ?_)
  cases c with
  | true => exact ⟨H1, I1, q1⟩
  | false => exact hb wh pins s1 σ H1 Q I1 q1
theorem pt_not (ha : PT X a tA) : PT X (.UnaryOp .Not a pos) (tNot tA) := by
  intro pins s σ H Q I h
  exact isTrue_not (ha pins s σ H (fun c H1 => Q (!c) H1) I h)
/-- .. as values (bools) -/
def tAndV (ta tb : TE) : TE := fun σ H Q => ta σ H fun x H1 => ∃ c, x = .bl c ∧ if c = true then tb σ H1 Q else Q (.bl false) H1
def tOrV (ta tb : TE) : TE := fun σ H Q => ta σ H fun x H1 => ∃ c, x = .bl c ∧ if c = true then Q (.bl true) H1 else tb σ H1 Q
def tNotV (ta : TE) : TE := fun σ H Q => ta σ H fun x H1 => ∃ c, x = .bl c ∧ Q (.bl (!c)) H1
theorem pe_one {op} {t : TE} (h : PE X a t) : PE X (.BoolOp op [a] pos) t := fun pins s σ H Q I hw => BoolOp_one (h pins s σ H Q I hw)
theorem pe_and (ha : PE X a ta) (hb : PE X (.BoolOp .And (b :: rest) pos) tb) : PE X (.BoolOp .And (a :: b :: rest) pos) (tAndV ta tb) := by
  intro pins s σ H Q I h
  refine BoolOp_and (thn (ha pins s σ H _ I h) fun v s1 ⟨x, H1, I1, r1, q1⟩ => ?_)
  obtain ⟨c, rfl, q1⟩ := q1
  cases r1
  refine wpAny_truthy_bool ?_
  cases c with
  | true => exact hb pins s1 σ H1 Q I1 q1
  | false => exact ⟨.bl false, H1, I1, rfl, q1⟩
theorem pe_not (ha : PE X a ta) : PE X (.UnaryOp .Not a pos) (tNotV ta) := by
  intro pins s σ H Q I h
  refine UnaryOp_ (thn (ha pins s σ H _ I h) fun v s1 ⟨x, H1, I1, r1, q1⟩ => ?_)
  obtain ⟨c, rfl, q1⟩ := q1
  cases r1
  exact not_of (wpAny_truthy_bool ⟨.bl (!c), H1, I1, rfl, q1⟩)
end
end L2

namespace L2
open PySem PySem.Spec PyProof.Rows

/-! ### a list, a tuple that is read: tracked, frozen, or an object of the module -/
def SqL (K : PySem.W.Frag) (H : Hp) (a : Addr) (xs : List V) : Prop :=
  Rd H a (.lst xs) ∨
    ∃ (o : Obj) (its : Array Value) (n : Nat), K.lookup a = some o ∧ o.cls = .type "list" ∧ o.dict = none ∧ o.data = .seq its n ∧ its.size ≤ sizeLine ∧ Vals xs its.toList
def SqT (K : PySem.W.Frag) (H : Hp) (a : Addr) (xs : List V) : Prop :=
  Rd H a (.tup xs) ∨
    ∃ (o : Obj) (its : Array Value) (n : Nat), K.lookup a = some o ∧ o.cls = .type "tuple" ∧ o.data = .seq its n ∧ its.size ≤ sizeLine ∧ Vals xs its.toList
def absV : Value → Option V
  | .none => some .non
  | .bool b => some (.bl b)
  | .int i _ => some (.int i)
  | .str x _ => some (.str x)
  | .bytes b _ => some (.byt b)
  | .float b _ => some (.flt b)
  | .ref a => some (.ref a)
  | .type n => some (.ty n)
  | _ => none
theorem RelV.abs {x : V} {u : Value} (r : RelV x u) : absV u = some x := by
  cases x with
  | non => cases r; rfl
  | bl _ => cases r; rfl
  | int _ => obtain ⟨t, rfl⟩ := r; rfl
  | str _ => obtain ⟨t, rfl⟩ := r; rfl
  | byt _ => obtain ⟨t, rfl⟩ := r; rfl
  | flt _ => obtain ⟨t, rfl⟩ := r; rfl
  | ref _ => cases r; rfl
  | ty _ => cases r; rfl
theorem RelV.inj {x y : V} {u : Value} (r : RelV x u) (q : RelV y u) : x = y := Option.some.inj (r.abs.symm.trans q.abs)
theorem Vals.inj : ∀ {xs ys : List V} {us : List Value}, Vals xs us → Vals ys us → xs = ys
  | _, _, _, .nil, .nil => rfl
  | _, _, _, .cons r t, .cons r' t' => by rw [r.inj r', Vals.inj t t']
section
variable {X : Cx} {pins : List (Addr × Obj)} {σ : St} {H : Hp} {s : Shared} {a : Addr} {xs ys : List V}
theorem SqL.of {K : PySem.W.Frag} (h : H a = some (.lst xs)) : SqL K H a xs := .inl (.inl h)
theorem SqT.of {K : PySem.W.Frag} (h : H a = some (.tup xs)) : SqT K H a xs := .inl (.inl h)
theorem Inv.list (I : Inv X pins σ H s) (h : SqL X.K H a xs) : ∃ its : List Value, Vals xs its ∧ PlainL s.heap a its.toArray ∧ xs.length ≤ sizeLine := by
  rcases h with h | ⟨o, its, n, hk, hc, hd, hs, hz, r⟩
  · obtain ⟨z, its, n, r, e⟩ := h.ok I.hok
    exact ⟨its, r, ⟨_, n, e, rfl, rfl, rfl⟩, z⟩
  · refine ⟨its.toList, r, ⟨o, n, I.kIn a o hk, hc, hd, by simpa using hs⟩, ?_⟩
    have e := r.length
    simp only [Array.length_toList] at e
    omega
theorem Inv.tuple (I : Inv X pins σ H s) (h : SqT X.K H a xs) : ∃ its : List Value, Vals xs its ∧ IsTup s.heap a its.toArray ∧ xs.length ≤ sizeLine := by
  rcases h with h | ⟨o, its, n, hk, hc, hs, hz, r⟩
  · obtain ⟨z, its, r, p⟩ := h.ok I.hok
    exact ⟨its, r, p, z⟩
  · refine ⟨its.toList, r, ⟨o, I.kIn a o hk, hc, n, by simpa using hs⟩, ?_⟩
    have e := r.length
    simp only [Array.length_toList] at e
    omega
theorem Inv.list_inj (I : Inv X pins σ H s) (h : SqL X.K H a xs) (h' : SqL X.K H a ys) : xs = ys := by
  obtain ⟨its, r, ⟨o, n, e, _, _, d⟩, _⟩ := I.list h
  obtain ⟨its', r', ⟨o', n', e', _, _, d'⟩, _⟩ := I.list h'
  rw [e] at e'; cases e'
  rw [d] at d'
  injection d' with d1 _
  have : its = its' := by simpa using congrArg Array.toList d1
  subst this
  exact r.inj r'
theorem Inv.tuple_inj (I : Inv X pins σ H s) (h : SqT X.K H a xs) (h' : SqT X.K H a ys) : xs = ys := by
  obtain ⟨its, r, ⟨o, e, _, n, d⟩, _⟩ := I.tuple h
  obtain ⟨its', r', ⟨o', e', _, n', d'⟩, _⟩ := I.tuple h'
  rw [e] at e'; cases e'
  rw [d] at d'
  injection d' with d1 _
  have : its = its' := by simpa using congrArg Array.toList d1
  subst this
  exact r.inj r'
end

/-! ### another wish about exceptions -/
abbrev Cx.wish (X : Cx) (E : Value → Shared → Prop) : Cx := { X with xe := E }
/-- no exception leaves -/
abbrev Cx.nox (X : Cx) : Cx := X.wish fun _ _ => False
theorem Cx.Ok.wish {X : Cx} (ok : X.Ok) (E : Value → Shared → Prop) : (X.wish E).Ok :=
  ⟨ok.mod, ok.kind, ok.glob, ok.blt, ok.above, ok.inj, ok.has, ok.cab, ok.hd, ok.frames, ok.stk, ok.exf, ok.bs, ok.bsz, ok.noex, ok.exfs, ok.funs, ok.frf⟩
theorem Cx.Ok.unwish {X : Cx} {E : Value → Shared → Prop} (ok : (X.wish E).Ok) : X.Ok :=
  ⟨ok.mod, ok.kind, ok.glob, ok.blt, ok.above, ok.inj, ok.has, ok.cab, ok.hd, ok.frames, ok.stk, ok.exf, ok.bs, ok.bsz, ok.noex, ok.exfs, ok.funs, ok.frf⟩
section
variable {X : Cx} {pins : List (Addr × Obj)} {σ : St} {H : Hp} {s : Shared} {E : Value → Shared → Prop}
theorem Inv.wish (I : Inv X pins σ H s) (E : Value → Shared → Prop) : Inv (X.wish E) pins σ H s := ⟨I.ok.wish E, I.os, I.bare, I.base, I.loc, I.cell, I.free, I.freeC, I.pin, I.hok, I.len⟩
theorem Inv.unwish (I : Inv (X.wish E) pins σ H s) : Inv X pins σ H s := ⟨I.ok.unwish, I.os, I.bare, I.base, I.loc, I.cell, I.free, I.freeC, I.pin, I.hok, I.len⟩
theorem SP.unwish {D : Ends} {f : Flow} {s' : Shared} (h : SP (X.wish E) pins D f s') : SP X pins D f s' := by
  cases f with
  | next => obtain ⟨σ', H', I, q⟩ := h; exact ⟨σ', H', I.unwish, q⟩
  | brk => obtain ⟨σ', H', I, q⟩ := h; exact ⟨σ', H', I.unwish, q⟩
  | cont => obtain ⟨σ', H', I, q⟩ := h; exact ⟨σ', H', I.unwish, q⟩
  | ret u => obtain ⟨v, σ', H', I, r, q⟩ := h; exact ⟨v, σ', H', I.unwish, r, q⟩
theorem PE.nox {e : Expr} {t : TE} (h : PE X.nox e t) : PE X e t := fun pins s σ H Q I hw =>
  wpAny_mono (h pins s σ H Q (I.wish _) hw) (fun _ _ ⟨v, H', I', r, q⟩ => ⟨v, H', I'.unwish, r, q⟩) fun _ _ z => False.elim z
theorem PT.nox {e : Expr} {t : TT} (h : PT X.nox e t) : PT X e t := fun pins s σ H Q I hw =>
  wpAny_mono (h pins s σ H Q (I.wish _) hw) (fun _ _ ⟨H', I', q⟩ => ⟨H', I'.unwish, q⟩) fun _ _ z => False.elim z
theorem PSs.nox {st : List Stmt} {t : TS} (h : PSs X.nox st t) : PSs X st t := fun pins s σ H D I hw =>
  wpAny_mono (h pins s σ H D (I.wish _) hw) (fun _ _ q => q.unwish) fun _ _ z => False.elim z
end

/-! ### blocks and small statements -/
section
variable {X : Cx} {st : Stmt} {rest : List Stmt} {t u : TS} {e : Expr} {te : TE} {pos : Pos}
def tNext : TS := fun D σ H => D.nx σ H
def tSeq (t u : TS) : TS := fun D σ H => t { D with nx := u D } σ H
theorem pss_nil : PSs X [] tNext := fun _ _ σ H _ I h => wpAny_execs_nil ⟨σ, H, I, h⟩
theorem pss_cons (h1 : PS X st t) (h2 : PSs X rest u) : PSs X (st :: rest) (tSeq t u) := by
  intro pins s σ H D I h
  refine wpAny_execs_cons (thn (h1 pins s σ H { D with nx := u D } I h) fun f s1 q => ?_)
  cases f with
  | next =>
    obtain ⟨σ', H', I', q⟩ := q
    exact h2 pins s1 σ' H' D I' q
  | ret v => exact q
  | brk => exact q
  | cont => exact q
theorem pss_one (h1 : PS X st t) : PSs X [st] t := by
  intro pins s σ H D I h
  refine wpAny_execs_cons (thn (h1 pins s σ H D I h) fun f s1 q => ?_)
  cases f with
  | next => exact wpAny_execs_nil q
  | ret v => exact q
  | brk => exact q
  | cont => exact q
def tCont : TS := fun D σ H => D.ct σ H
/-- in a def's body nothing is shown -/
theorem Inv.quiet {pins : List (Addr × Obj)} {σ : St} {H : Hp} {s : Shared} (I : Inv X pins σ H s) : interactive X.env = false := by simp [interactive, I.ok.kind]
/-- an expression whose value is dropped -/
def tDrop (te : TE) : TS := fun D σ H => te σ H fun _ H1 => D.nx σ H1
theorem ps_expr (he : PE X e te) (hs : swapsWith e none pos.line X.env = pure false := by rfl) : PS X (.Expr e pos) (tDrop te) := by
  intro pins s σ H D I h
  exact wpAny_Expr_any (thn (he pins s σ H _ I h) fun v s1 ⟨x, H1, I1, r1, q1⟩ => ⟨σ, H1, I1, q1⟩) I.quiet hs
def tRet (te : TE) : TS := fun D σ H => te σ H D.rt
theorem ps_ret (he : PE X e te) : PS X (.Return (some e) pos) (tRet te) := by
  intro pins s σ H D I h
  exact wpAny_Return_some (thn (he pins s σ H _ I h) fun v s1 ⟨x, H1, I1, r1, q1⟩ => ⟨x, σ, H1, I1, r1, q1⟩)
def tRetN : TS := fun D _ H => D.rt .non H
def tIfS (c : TT) (t u : TS) : TS := fun D σ H => c σ H fun b H1 => if b = true then t D σ H1 else u D σ H1
theorem ps_if {c : Expr} {a b : List Stmt} {tc : TT} (hc : PT X c tc) (ha : PSs X a t) (hb : PSs X b u) : PS X (.If c a b pos) (tIfS tc t u) := by
  intro pins s σ H D I h
  refine wpAny_If (thn (hc pins s σ H _ I h) fun d s1 ⟨H1, I1, q1⟩ => ?_)
  cases d with
  | true => exact ha pins s1 σ H1 D I1 q1
  | false => exact hb pins s1 σ H1 D I1 q1
/-- code that the proof never comes to -/
def tNever : TS := fun _ _ _ => False
theorem ps_never : PS X st tNever := fun _ _ _ _ _ _ h => h.elim
end

/-! ### targets -/
abbrev TG := V → St → Hp → (St → Hp → Prop) → Prop
abbrev TGs := List V → St → Hp → (St → Hp → Prop) → Prop
def PG (X : Cx) (target : Expr) (t : TG) : Prop :=
  ∀ (pins : List (Addr × Obj)) (s : Shared) (σ : St) (H : Hp) (v : V) (u : Value) (Q : St → Hp → Prop), Inv X pins σ H s → RelV v u → t v σ H Q →
    wpAny (model X.prog X.w) X.A (assign target X.env u) (fun _ s' => ∃ σ' H', Inv X pins σ' H' s' ∧ Q σ' H') X.xe s
/-- several targets, one after another -/
def PGs (X : Cx) (ts : List Expr) (t : TGs) : Prop :=
  ∀ (pins : List (Addr × Obj)) (s : Shared) (σ : St) (H : Hp) (vs : List V) (us : List Value) (Q : St → Hp → Prop), Inv X pins σ H s → Vals vs us → t vs σ H Q →
    wpAny (model X.prog X.w) X.A (assignInOrder ((assignEach ts X.env).map (·.2)) us) (fun _ s' => ∃ σ' H', Inv X pins σ' H' s' ∧ Q σ' H') X.xe s
/-- o[i] = v, by values -/
abbrev TSet := V → V → V → Hp → (Hp → Prop) → Prop
def PSet (X : Cx) (t : TSet) : Prop :=
  ∀ (pins : List (Addr × Obj)) (s : Shared) (σ : St) (H : Hp) (o i v : V) (ov iv u : Value) (Q : Hp → Prop), Inv X pins σ H s → RelV o ov → RelV i iv → RelV v u → t o i v H Q →
    wpAny (model X.prog X.w) X.A (setItem ov iv u) (fun _ s' => ∃ H', Inv X pins σ H' s' ∧ Q H') X.xe s
/-- a op= b, by values -/
abbrev TIp := V → V → Hp → VK → Prop
section
variable {X : Cx} {pos : Pos}
def gName (i : Nat) : TG := fun v σ H Q => Q (σ.set i (some v)) H
theorem pg_name {i : Nat} {x : Str} (hN : X.N.Nodup) (hi : X.N[i]? = some x) (hx : Loc X.env.scope x) (hf : X.fn x = true ∨ X.env.scope.names.lookup x = some .local := by first | exact .inl rfl | exact .inr rfl | assumption) : PG X (.Name x pos) (gName i) := by
  intro pins s σ H v u Q I r h
  exact wpAny_assign_Name (store_ok I hN hi hx r (fun s' I' => ⟨_, H, I', h⟩) hf)
def gNil : TGs := fun vs σ H Q => vs = [] ∧ Q σ H
def gCons (t : TG) (u : TGs) : TGs := fun vs σ H Q => ∃ v r, vs = v :: r ∧ t v σ H fun σ' H' => u r σ' H' Q
theorem pgs_nil : PGs X [] gNil := by
  intro pins s σ H vs us Q I r h
  obtain ⟨e, h⟩ := h
  subst e
  cases r
  exact assignInOrder_nil ⟨σ, H, I, h⟩
theorem pgs_cons {e : Expr} {es : List Expr} {t : TG} {u : TGs} (h1 : PG X e t) (h2 : PGs X es u)
    (hs : (assignEach (e :: es) X.env).map (·.2) = assign e X.env :: (assignEach es X.env).map (·.2) := by rfl) : PGs X (e :: es) (gCons t u) := by
  intro pins s σ H vs us Q I r h
  obtain ⟨v, vr, e1, h⟩ := h
  subst e1
  cases r with
  | cons r rr =>
    rw [hs]
    refine assignInOrder_cons (thn (h1 pins s σ H _ _ _ I r h) fun _ s1 ⟨σ1, H1, I1, q1⟩ => ?_)
    exact h2 pins s1 σ1 H1 _ _ Q I1 rr q1
/-- (a, b, ..) = a tuple of that length -/
def gTup (K : PySem.W.Frag) (n : Nat) (t : TGs) : TG := fun v σ H Q => ∃ a xs, v = .ref a ∧ SqT K H a xs ∧ xs.length = n ∧ t xs σ H Q
theorem pg_tup {es : List Expr} {k : Nat} {t : TGs} {n : Nat} (hc : X.calm = true) (h : PGs X es t)
    (hn : (assignEach es X.env).length = n := by rfl) (hst : (assignEach es X.env).findIdx? (·.1) = none := by rfl) : PG X (.Tuple es k pos) (gTup X.K n t) := by
  intro pins s σ H v u Q I r hw
  obtain ⟨a, xs, e1, hq, hl, hw⟩ := hw
  subst e1
  cases r
  obtain ⟨its, rv, ht, hz⟩ := I.tuple hq
  refine assign_Tuple_tuple (I.ok.hd hc) ht (by simp [hn, ← hl, rv.length]) hst fun h' hx => ?_
  have I1 : Inv X pins σ H { s with heap := h' } := I.kept (t' := s.toks) fun b o e => hx b o (Nat.ne_of_lt (Heap.lt_size e)) e
  exact h pins _ σ H xs _ Q I1 (by simpa using rv) hw
/-- o[i] = .. -/
def gSub (to ti : TE) (t : TSet) : TG := fun v σ H Q => to σ H fun o H1 => ti σ H1 fun i H2 => t o i v H2 fun H3 => Q σ H3
theorem pg_sub {o i : Expr} {to ti : TE} {t : TSet} (ho : PE X o to) (hi : PE X i ti) (hs : PSet X t)
    (ha : ∀ v, assign (.Subscript o i pos) X.env v = (do
      let ov ← holding [v] (eval o X.env)
      let iv ← holding [v, ov] (eval i X.env)
      standAt pos
      holding [v, ov, iv] (setItem ov iv v)
      release [v, ov, iv] []) := by intro _; rfl) : PG X (.Subscript o i pos) (gSub to ti t) := by
  intro pins s σ H v u Q I r h
  rw [ha]
  refine wpAny_bind (wpAny_holding (thn (ho pins s σ H _ I h) fun ov s1 ⟨x, H1, I1, r1, q1⟩ => ?_))
  refine wpAny_bind (wpAny_holding (thn (hi pins s1 σ H1 _ I1 q1) fun iv s2 ⟨y, H2, I2, r2, q2⟩ => ?_))
  refine wpAny_bind (wpAny_standAt (wpAny_bind (wpAny_holding (thn (hs pins s2 σ H2 x y v ov iv u _ I2 r1 r2 r q2) fun _ s3 ⟨H3, I3, q3⟩ => ?_))))
  exact wpAny_release ⟨σ, H3, I3, q3⟩
/-- target = value -/
def tAsg (te : TE) (g : TG) : TS := fun D σ H => te σ H fun x H1 => g x σ H1 D.nx
theorem ps_asg {tg e : Expr} {te : TE} {g : TG} (he : PE X e te) (hg : PG X tg g) (hs : swapsWithSole [tg] e pos.line X.env = pure false := by rfl) (hw : swappedStores [tg] e X.env = pure none := by rfl)
    (h1 : (assignEach [tg] X.env).map (·.2) = [assign tg X.env] := by rfl) : PS X (.Assign [tg] e pos) (tAsg te g) := by
  intro pins s σ H D I h
  refine wpAny_Assign_stores (thn (he pins s σ H _ I h) fun v s1 ⟨x, H1, I1, r1, q1⟩ => ?_) hs hw
  rw [h1]
  exact thn (hg pins s1 σ H1 x v _ I1 r1 q1) fun _ s2 q => q
/-- name = value -/
theorem ps_set {i : Nat} {x : Str} {e : Expr} {te : TE} {pos' : Pos} (hN : X.N.Nodup) (hi : X.N[i]? = some x) (hx : Loc X.env.scope x) (he : PE X e te) (hs : swapsWith e (some (.Name x pos')) pos.line X.env = pure false := by rfl) (hf : X.fn x = true ∨ X.env.scope.names.lookup x = some .local := by first | exact .inl rfl | exact .inr rfl | assumption) :
    PS X (.Assign [.Name x pos'] e pos) (tAsg te (gName i)) := by
  intro pins s σ H D I h
  refine wpAny_Assign_Name (thn (he pins s σ H _ I h) fun v s1 ⟨y, H1, I1, r1, q1⟩ => ?_) hs
  exact store_ok I1 hN hi hx r1 (fun s2 I2 => ⟨_, H1, I2, q1⟩) hf
/-- a, b = x, y with plain local names: stored from the right; the pair itself is not tracked (the opening rows as in PyProof/Rows/TupAssign.lean:23) -/
def tPar (i j : Nat) (ta : TA) : TS := fun D σ H => ta σ H fun vs H1 => ∃ v w, vs = [v, w] ∧ D.nx ((σ.set i (some v)).set j (some w)) H1
theorem ps_par {i j : Nat} {x y : Str} {a b : Expr} {ta : TA} {px py pt : Pos} {kt k2 pt2} (hc : X.calm = true) (hN : X.N.Nodup) (hi : X.N[i]? = some x) (hj : X.N[j]? = some y) (hij : i ≠ j)
    (hx : X.env.scope.names.lookup x = some .local) (hy : X.env.scope.names.lookup y = some .local) (ha : PA X [a, b] ta)
    (hw : swappedStores [.Tuple [.Name x px, .Name y py] kt pt] (.Tuple [a, b] k2 pt2) X.env = pure (some [x, y]))
    (hs : swapsWithSole [.Tuple [.Name x px, .Name y py] kt pt] (.Tuple [a, b] k2 pt2) pos.line X.env = pure false := by rfl) :
    PS X (.Assign [.Tuple [.Name x px, .Name y py] kt pt] (.Tuple [a, b] k2 pt2) pos) (tPar i j ta) := by
  intro pins s σ H D I h
  rw [exec_Assign_arm]
  refine wpAny_bind (wpAny_standAt ?_)
  rw [hs]
  refine wpAny_bind (wpAny_pure ?_)
  rw [if_neg (by decide)]
  refine wpAny_bind (Tuple_ (thn (ha _ pins s σ H _ I h) fun us s1 ⟨vs, H1, I1, r1, q1⟩ => ?_))
  obtain ⟨v, w, e1, q1⟩ := q1
  subst e1
  obtain ⟨u1, u2, rfl, rv, rw'⟩ : ∃ u1 u2, us = [u1, u2] ∧ RelV v u1 ∧ RelV w u2 := by
    cases r1 with
    | cons p q =>
      cases q with
      | cons p' q' =>
        cases q'
        exact ⟨_, _, rfl, p, p'⟩
  refine wpAny_newObj_type ?_ (by show 2 ≤ sizeLine; decide)
  have I2 : Inv X pins σ H1 { s1 with heap := s1.heap.push { cls := .type "tuple", data := .seq [u1, u2].toArray } } := I1.kept (t' := s1.toks) fun b o e => Heap.get?_push_of_some _ e
  rw [hw]
  refine wpAny_bind (wpAny_pure ?_)
  show wpAny (model X.prog X.w) X.A (do rule "assign.swapped-stores"; let items ← unpackItems (.ref s1.heap.objs.size) 2 none; assignInOrder [fun v => bindName X.env y v, fun v => bindName X.env x v] items.reverse; pure Flow.next) _ _ _
  refine wpAny_bind (wpAny_rule (wpAny_bind (unpackItems_tuple (items := #[u1, u2]) (I.ok.hd hc) (IsTup.new s1.heap _) fun h' hx' => ?_)))
  have I3 := I2.kept (h' := h') (t' := s1.toks) fun b o e => hx' b o (Nat.ne_of_lt (Heap.lt_size e)) e
  show wpAny _ _ (assignInOrder [fun v => bindName X.env y v, fun v => bindName X.env x v] [u2, u1] >>= fun _ => pure Flow.next) _ _ _
  refine wpAny_bind (assignInOrder_cons (wpAny_bindName (store_ok I3 hN hj (.inl hy) rw' (fun s2 I4 => ?_) (.inr hy))))
  refine assignInOrder_cons (wpAny_bindName (store_ok I4 hN hi (.inl hx) rv (fun s3 I5 => assignInOrder_nil (wpAny_pure ?_)) (.inr hx)))
  rw [List.set_comm _ _ (Ne.symm hij)] at I5
  exact ⟨_, H1, I5, q1⟩
/-- name op= e -/
def tAug (i : Nat) (te : TE) (ti : TIp) : TS := fun D σ H => ∃ x, σ[i]? = some (some x) ∧ te σ H fun y H1 => ti x y H1 fun z H2 => D.nx (σ.set i (some z)) H2
end

/-! ### while -/
section
variable {X : Cx} {pos : Pos}
/-- the invariant W with its measure -/
def tWhile (c : TT) (tb : TS) : TS := fun D σ H => ∃ W : Nat → St → Hp → Prop, (∃ m, W m σ H) ∧ ∀ m σ H, W m σ H →
  c σ H fun b H1 => if b = true then ∃ N : St → Hp → Prop, (∀ σ' H', N σ' H' → ∃ m', m' < m ∧ W m' σ' H') ∧ tb { D with nx := N, ct := N, bk := D.nx } σ H1 else D.nx σ H1
theorem ps_while {c : Expr} {body : List Stmt} {tc : TT} {tb : TS} (hp : PassesOwn (model X.prog X.w) X.A X.env X.xe) (hc : PT X c tc) (hb : PSs X body tb) : PS X (.While c body [] pos) (tWhile tc tb) := by
  intro pins s σ H D I h
  obtain ⟨W, ⟨m0, w0⟩, turn⟩ := h
  refine wpAny_While (codeAny_whileLoop (fun n s' => ∃ σ' H', Inv X pins σ' H' s' ∧ W n σ' H') ?_ m0 ⟨σ, H, I, w0⟩)
  rintro n s1 ⟨σ1, H1, I1, w1⟩
  refine wpAny_passesOwn hp (thn (hc pins s1 σ1 H1 _ I1 (turn n σ1 H1 w1)) fun b s2 ⟨H2, I2, q2⟩ => ?_)
  cases b with
  | true =>
    obtain ⟨N, hN, q2⟩ := q2
    rw [if_pos rfl]
    refine wpAny_passesOwn hp (thn (hb pins s2 σ1 H2 _ I2 q2) fun f s3 q3 => ?_)
    cases f with
    | next =>
      obtain ⟨σ3, H3, I3, n3⟩ := q3
      obtain ⟨m', hm, w3⟩ := hN σ3 H3 n3
      exact ⟨m', hm, σ3, H3, I3, w3⟩
    | cont =>
      obtain ⟨σ3, H3, I3, n3⟩ := q3
      obtain ⟨m', hm, w3⟩ := hN σ3 H3 n3
      exact ⟨m', hm, σ3, H3, I3, w3⟩
    | brk => exact q3
    | ret v => exact q3
  | false =>
    rw [if_neg Bool.false_ne_true]
    exact wpAny_execs_nil ⟨σ1, H2, I2, q2⟩
end

/-! ### what a loop or a comprehension walks -/
/-- at turn i: it yields x (the heap may grow), or it stops -/
structure It where
  go : Nat → Hp → Prop
  yld : Nat → Hp → V → Hp → Prop
  stop : Nat → Hp → Prop
/-- the iterator's own objects may turn: they are not the frame's, not pinned, younger than the entry (or a comprehension's own) -/
def FpOk (X : Cx) (pins : List (Addr × Obj)) (H : Hp) (b : Addr) : Prop :=
  H b = none ∧ b ≠ X.env.locals ∧ b ∉ X.fs ∧ (b ∈ X.ex ∨ X.s_0.heap.objs.size ≤ b) ∧ (∀ x c, X.env.cells.lookup x = some c → c ≠ b) ∧ ∀ p ∈ X.pn ++ pins, p.1 ≠ b
theorem Inv.fpOk {X : Cx} {pins : List (Addr × Obj)} {σ : St} {H H' : Hp} {s : Shared} {b : Addr} (I : Inv X pins σ H s) (hb : s.heap.objs.size ≤ b) (hn : H' b = none) : FpOk X pins H' b := by
  refine ⟨hn, Nat.ne_of_gt (Nat.lt_of_lt_of_le I.lt hb), I.nofs hb, .inr (Nat.le_trans I.sz hb), fun x c e z => ?_, fun p hp z => ?_⟩
  · obtain ⟨v, q⟩ := I.cell x c e
    exact absurd (Nat.lt_of_lt_of_le q.lt (by rw [z]; exact hb)) (Nat.lt_irrefl _)
  · exact absurd (Nat.lt_of_lt_of_le (Heap.lt_size (I.pin p hp).1) (by rw [z]; exact hb)) (Nat.lt_irrefl _)
structure Turn (P : Program) (w : World) (K : PySem.W.Frag) (tg : Expr) (J : It) (fp : List Addr) (it : Addr) (tn : Nat → Heap → Prop) : Prop where
  mem : it ∈ fp
  obj : ∀ i h, tn i h → ∀ b ∈ fp, ∃ o, h.get? b = some o ∧ ∀ v, o.data ≠ .cell v
  keep : ∀ i h h', tn i h → (∀ b ∈ fp, ∀ o, h.get? b = some o → h'.get? b = some o) → tn i h'
  item : ∀ (X : Cx), X.prog = P → X.w = w → X.K = K → X.calm = true → ∀ (i : Nat) (pins : List (Addr × Obj)) (s : Shared) (σ : St) (H : Hp) (E : Value → Shared → Prop), Inv X pins σ H s → (∀ b ∈ fp, FpOk X pins H b) → tn i s.heap → J.go i H →
    wpAny (model P w) X.A (pyNext (.ref it)) (fun r s1 => ∃ u, r = some u ∧
      wpAny (model P w) X.A (letOwnedTupleGo tg (.ref it) u) (fun _ s2 => ∃ x H', Inv X pins σ H' s2 ∧ RelV x u ∧ J.yld i H x H' ∧ tn (i + 1) s2.heap ∧ ∀ b ∈ fp, H' b = none) E s1) E s
  done : ∀ (X : Cx), X.prog = P → X.w = w → X.K = K → X.calm = true → ∀ (i : Nat) (pins : List (Addr × Obj)) (s : Shared) (σ : St) (H : Hp) (E : Value → Shared → Prop), Inv X pins σ H s → (∀ b ∈ fp, FpOk X pins H b) → tn i s.heap → J.stop i H →
    wpAny (model P w) X.A (pyNext (.ref it)) (fun r s1 => r = none ∧ Inv X pins σ H s1) E s
  self : ∀ (A : Around) (i : Nat) (s : Shared) (Q : Value → Shared → Prop) (E : Value → Shared → Prop), tn i s.heap → Q (.ref it) s → wpAny (model P w) A (pyIter (.ref it)) Q E s
abbrev TI := St → Hp → (It → Hp → Prop) → Prop
/-- an iterator has come -/
def PIE (X : Cx) (pins : List (Addr × Obj)) (σ : St) (tg : Expr) (R : It → Hp → Prop) (itv : Value) (s2 : Shared) : Prop :=
  ∃ (it : Addr) (fp : List Addr) (tn : Nat → Heap → Prop) (J : It) (H' : Hp), itv = .ref it ∧ Inv X pins σ H' s2 ∧ Turn X.prog X.w X.K tg J fp it tn ∧ tn 0 s2.heap ∧ (∀ b ∈ fp, FpOk X pins H' b) ∧ R J H'
def PI (X : Cx) (tg iter : Expr) (wi : TI) : Prop :=
  ∀ (pins : List (Addr × Obj)) (s : Shared) (σ : St) (H : Hp) (R : It → Hp → Prop), Inv X pins σ H s → wi σ H R →
    wpAny (model X.prog X.w) X.A (eval iter X.env) (fun v s1 => wpAny (model X.prog X.w) X.A (pyIter v) (PIE X pins σ tg R) X.xe s1) X.xe s

/-- the step ahead of the store is nothing for an iterator that keeps no tuple -/
theorem go_of {M : Model} {A : Around} {E : Value → Shared → Prop} {s : Shared} {tg : Expr} {it : Addr} {u : Value} {o : Obj} {n : String} {vs : Array Value} {Q : Unit → Shared → Prop} (ho : s.heap.get? it = some o) (hc : o.cls = .type n) (hd : o.data = .fields vs)
    (hn : ["enumerate", "zip", "dict_itemiterator", "dict_reverseitemiterator", "odict_iterator", "itertools.zip_longest", "itertools.pairwise"].contains n = false) (hQ : Q () s) : wpAny M A (letOwnedTupleGo tg (.ref it) u) Q E s := by
  unfold letOwnedTupleGo
  cases tg <;> first
    | exact wpAny_pure hQ
    | (cases u <;> first
        | exact wpAny_pure hQ
        | (refine wpAny_bind (wpAny_load ho ?_)
           rw [hc, hd]
           show wpAny M A (if (["enumerate", "zip", "dict_itemiterator", "dict_reverseitemiterator", "odict_iterator", "itertools.zip_longest", "itertools.pairwise"].contains n && vs[0]? == some (rawInt _)) = true then _ else _) Q E s
           rw [if_neg (by intro h; rw [hn, Bool.false_and] at h; cases h)]
           exact wpAny_pure hQ))

/-- the list at a, as it stands at each turn (a loop may append to it) -/
def Itl (K : PySem.W.Frag) (a : Addr) : It :=
  ⟨fun i H => ∃ xs x, SqL K H a xs ∧ xs[i]? = some x, fun i H x H' => H' = H ∧ ∀ xs, SqL K H a xs → xs[i]? = some x, fun i H => ∃ xs, SqL K H a xs ∧ xs.length ≤ i⟩
def Itt (K : PySem.W.Frag) (a : Addr) : It :=
  ⟨fun i H => ∃ xs x, SqT K H a xs ∧ xs[i]? = some x, fun i H x H' => H' = H ∧ ∀ xs, SqT K H a xs → xs[i]? = some x, fun i H => ∃ xs, SqT K H a xs ∧ xs.length ≤ i⟩
/-- lo, lo + 1, .. (n of them) -/
def Itr (lo : Int) (n : Nat) : It := ⟨fun i _ => i < n, fun i H x H' => H' = H ∧ x = .int (lo + i), fun i _ => n ≤ i⟩
theorem turn_list {P : Program} {w : World} {K : PySem.W.Frag} {tg : Expr} (a it : Addr) : Turn P w K tg (Itl K a) [it] it (fun i h => h.IsListIter it a i) where
  mem := by simp
  obj := fun i h st b hb => by
    have e : b = it := by simpa using hb
    subst e
    obtain ⟨o, e, c, d⟩ := st
    exact ⟨o, e, fun v z => by rw [d] at z; cases z⟩
  keep := fun i h h' st k => st.at fun o e => k it (by simp) o e
  item := by
    intro X hP hw hK hc i pins s σ H E I hf st hg
    subst hP hw hK
    obtain ⟨xs, x, hq, hx⟩ := hg
    obtain ⟨its, rv, p, hz⟩ := I.list hq
    obtain ⟨u, hu, ru⟩ := rv.get hx
    obtain ⟨f0, f1, f2, f3, f4, f5⟩ := hf it (by simp)
    refine wpAny_pyNext_list_item st p.isList (x := u) (by simpa using hu) fun h' st' sb => ?_
    have I1 : Inv X pins σ H { s with heap := h' } := I.turned (t' := s.toks) (fun b o hb e => (sb.2 b hb).trans e) f0 f1 f3 f4 f5
    obtain ⟨o, e, c, d⟩ := id st'
    exact ⟨u, rfl, go_of (s := { s with heap := h' }) e c d (by decide) ⟨x, H, I1, ru, ⟨rfl, fun ys hy => by rw [I.list_inj hy hq]; exact hx⟩, st', fun b hb => (hf b hb).1⟩⟩
  done := by
    intro X hP hw hK hc i pins s σ H E I hf st hg
    subst hP hw hK
    obtain ⟨xs, hq, hx⟩ := hg
    obtain ⟨its, rv, p, hz⟩ := I.list hq
    obtain ⟨f0, f1, f2, f3, f4, f5⟩ := hf it (by simp)
    have hl := rv.length
    exact wpAny_pyNext_list_end (I.ok.hd hc) st p.isList (by simp; omega) fun h' eb => ⟨rfl, I.turned (t' := s.toks) (fun b o hb e => eb b o hb e) f0 f1 f3 f4 f5⟩
  self := fun _ _ _ _ _ st h => wpAny_pyIter_listiter st h
theorem turn_tuple {P : Program} {w : World} {K : PySem.W.Frag} {tg : Expr} (a it : Addr) : Turn P w K tg (Itt K a) [it] it (fun i h => h.IsTupleIter it a i) where
  mem := by simp
  obj := fun i h st b hb => by
    have e : b = it := by simpa using hb
    subst e
    obtain ⟨o, e, c, d⟩ := st
    exact ⟨o, e, fun v z => by rw [d] at z; cases z⟩
  keep := fun i h h' st k => st.at fun o e => k it (by simp) o e
  item := by
    intro X hP hw hK hc i pins s σ H E I hf st hg
    subst hP hw hK
    obtain ⟨xs, x, hq, hx⟩ := hg
    obtain ⟨its, rv, p, hz⟩ := I.tuple hq
    obtain ⟨u, hu, ru⟩ := rv.get hx
    obtain ⟨f0, f1, f2, f3, f4, f5⟩ := hf it (by simp)
    refine wpAny_pyNext_tuple_item st (show s.heap.IsTuple a its.toArray from p) (x := u) (by simpa using hu) fun h' st' sb => ?_
    have I1 : Inv X pins σ H { s with heap := h' } := I.turned (t' := s.toks) (fun b o hb e => (sb.2 b hb).trans e) f0 f1 f3 f4 f5
    obtain ⟨o, e, c, d⟩ := id st'
    exact ⟨u, rfl, go_of (s := { s with heap := h' }) e c d (by decide) ⟨x, H, I1, ru, ⟨rfl, fun ys hy => by rw [I.tuple_inj hy hq]; exact hx⟩, st', fun b hb => (hf b hb).1⟩⟩
  done := by
    intro X hP hw hK hc i pins s σ H E I hf st hg
    subst hP hw hK
    obtain ⟨xs, hq, hx⟩ := hg
    obtain ⟨its, rv, p, hz⟩ := I.tuple hq
    obtain ⟨f0, f1, f2, f3, f4, f5⟩ := hf it (by simp)
    have hl := rv.length
    exact wpAny_pyNext_tuple_end (I.ok.hd hc) st (show s.heap.IsTuple a its.toArray from p) (by simp; omega) fun h' eb => ⟨rfl, I.turned (t' := s.toks) (fun b o hb e => eb b o hb e) f0 f1 f3 f4 f5⟩
  self := fun _ _ _ _ _ st h => wpAny_pyIter_tupleiter st h
theorem turn_range {P : Program} {w : World} {K : PySem.W.Frag} {tg : Expr} (it : Addr) (lo : Int) (n : Nat) : Turn P w K tg (Itr lo n) [it] it (fun i h => IsRangeIter h it (lo + (i : Nat) * 1) ((n : Int) - (i : Nat)) 1) where
  mem := by simp
  obj := fun i h st b hb => by
    have e : b = it := by simpa using hb
    subst e
    exact ⟨_, st, fun v z => by
      have z' : Data.fields _ = Data.cell v := z
      cases z'⟩
  keep := fun i h h' st k => k it (by simp) _ st
  item := by
    intro X hP hw hK hc i pins s σ H E I hf st hg
    subst hP hw hK
    obtain ⟨f0, f1, f2, f3, f4, f5⟩ := hf it (by simp)
    have W := Walks.range (prog := X.prog) (w := X.w) (I.ok.hd hc) it lo 1 n
    refine W.item i s _ _ hg st fun v h' tk hv st' kk => ?_
    obtain ⟨t, rfl⟩ := hv
    have I1 : Inv X pins σ H { s with heap := h', toks := tk } := I.turned (fun b o hb e => kk b o (by simpa using hb) e) f0 f1 f3 f4 f5
    refine ⟨_, rfl, go_of (s := { s with heap := h', toks := tk }) (n := "range_iterator") st' rfl rfl (by decide) ⟨.int (lo + i), H, I1, ⟨t, ?_⟩, ⟨rfl, rfl⟩, st', fun b hb => (hf b hb).1⟩⟩
    rw [Int.mul_one]
  done := by
    intro X hP hw hK hc i pins s σ H E I hf st hg
    subst hP hw hK
    obtain ⟨f0, f1, f2, f3, f4, f5⟩ := hf it (by simp)
    exact wpAny_pyNext_range_end (I.ok.hd hc) st (by have : n ≤ i := hg; omega) fun h' eb => ⟨rfl, I.turned (t' := s.toks) (fun b o hb e => eb b o hb e) f0 f1 f3 f4 f5⟩
  self := fun _ _ _ _ _ st h => wpAny_pyIter_rangeiter st h
end L2

namespace L2
open PySem PySem.Spec PyProof.Rows
section
variable {X : Cx} {tg : Expr}
def iList (K : PySem.W.Frag) (tl : TE) : TI := fun σ H R => tl σ H fun x H1 => ∃ a, x = .ref a ∧ (∃ xs, SqL K H1 a xs) ∧ R (Itl K a) H1
def iTup (K : PySem.W.Frag) (tl : TE) : TI := fun σ H R => tl σ H fun x H1 => ∃ a, x = .ref a ∧ (∃ xs, SqT K H1 a xs) ∧ R (Itt K a) H1
theorem pi_list {l : Expr} {tl : TE} (hl : PE X l tl) : PI X tg l (iList X.K tl) := by
  intro pins s σ H R I h
  refine thn (hl pins s σ H _ I h) fun v s1 ⟨x, H1, I1, r1, q1⟩ => ?_
  obtain ⟨a, e, ⟨xs, hq⟩, q⟩ := q1
  subst e
  cases r1
  obtain ⟨its, rv, p, hz⟩ := I1.list hq
  refine wpAny_pyIter_list p.isList ?_
  refine ⟨s1.heap.objs.size, [s1.heap.objs.size], _, _, H1, rfl, I1.kept (t' := s1.toks) fun b o e => Heap.get?_push_of_some _ e, turn_list a _, ⟨_, Heap.get?_push_size _ rfl, rfl, rfl⟩, fun b hb => ?_, q⟩
  have e : b = s1.heap.objs.size := by simpa using hb
  subst e
  exact I1.fpOk (Nat.le_refl _) (I1.hok.fresh (Nat.le_refl _))
theorem pi_tup {l : Expr} {tl : TE} (hl : PE X l tl) : PI X tg l (iTup X.K tl) := by
  intro pins s σ H R I h
  refine thn (hl pins s σ H _ I h) fun v s1 ⟨x, H1, I1, r1, q1⟩ => ?_
  obtain ⟨a, e, ⟨xs, hq⟩, q⟩ := q1
  subst e
  cases r1
  obtain ⟨its, rv, p, hz⟩ := I1.tuple hq
  refine wpAny_pyIter_tuple (show s1.heap.IsTuple a its.toArray from p) ?_
  refine ⟨s1.heap.objs.size, [s1.heap.objs.size], _, _, H1, rfl, I1.kept (t' := s1.toks) fun b o e => Heap.get?_push_of_some _ e, turn_tuple a _, ⟨_, Heap.get?_push_size _ rfl, rfl, rfl⟩, fun b hb => ?_, q⟩
  have e : b = s1.heap.objs.size := by simpa using hb
  subst e
  exact I1.fpOk (Nat.le_refl _) (I1.hok.fresh (Nat.le_refl _))
/-- a range object just made, walked -/
theorem range_it {pins : List (Addr × Obj)} {σ : St} {H : Hp} {s : Shared} {R : It → Hp → Prop} {E : Value → Shared → Prop} {lo hi : Int} {t u v : Tok} {tk : Nat} (I : Inv X pins σ H s) (h1 : -(2 ^ 62) ≤ lo) (h2 : lo < 2 ^ 62) (h3 : -(2 ^ 62) ≤ hi) (h4 : hi < 2 ^ 62)
    (q : R (Itr lo (hi - lo).toNat) H) : wpAny (model X.prog X.w) X.A (pyIter (.ref s.heap.objs.size)) (PIE X pins σ tg R) E { s with heap := s.heap.push { cls := .type "range", data := .fields #[.int lo t, .int hi u, .int 1 v] }, toks := tk } := by
  refine wpAny_pyIter_range (IsRange.new ..) (small_one h1 h2 h3 h4) ?_
  have I1 : Inv X pins σ H { s with heap := s.heap.push { cls := .type "range", data := .fields #[.int lo t, .int hi u, .int 1 v] }, toks := tk } := I.kept fun b o e => Heap.get?_push_of_some _ e
  refine ⟨(s.heap.push { cls := .type "range", data := .fields #[.int lo t, .int hi u, .int 1 v] }).objs.size, [(s.heap.push { cls := .type "range", data := .fields #[.int lo t, .int hi u, .int 1 v] }).objs.size], _, _, H, rfl,
    I1.kept (t' := tk) fun b o e => Heap.get?_push_of_some _ e, turn_range _ lo (hi - lo).toNat, ?_, fun b hb => ?_, q⟩
  · have e1 : lo + ((0 : Nat) : Int) * 1 = lo := by simp
    have e2 : (((hi - lo).toNat : Nat) : Int) - ((0 : Nat) : Int) = Builtin.Range.rangeSize lo hi 1 := by rw [rangeSize_one]; split <;> omega
    show IsRangeIter _ _ (lo + ((0 : Nat) : Int) * 1) ((((hi - lo).toNat : Nat) : Int) - ((0 : Nat) : Int)) 1
    rw [e1, e2]
    exact Heap.get?_push_size _ rfl
  · have e : b = (s.heap.push { cls := .type "range", data := .fields #[.int lo t, .int hi u, .int 1 v] }).objs.size := by simpa using hb
    subst e
    exact I1.fpOk (Nat.le_refl _) (I1.hok.fresh (Nat.le_refl _))
def iRng1 (ta : TA) : TI := fun σ H R => ta σ H fun vs H1 => ∃ j : Int, vs = [.int j] ∧ -(2 ^ 62) ≤ j ∧ j < 2 ^ 62 ∧ R (Itr 0 j.toNat) H1
def iRng2 (ta : TA) : TI := fun σ H R => ta σ H fun vs H1 => ∃ i j : Int, vs = [.int i, .int j] ∧ (-(2 ^ 62) ≤ i ∧ i < 2 ^ 62 ∧ -(2 ^ 62) ≤ j ∧ j < 2 ^ 62) ∧ R (Itr i (j - i).toNat) H1
theorem pi_range1 {a : Expr} {ta : TA} {p pos : Pos} (hg : Gl X "range") (hm : X.mg "range" = none) (ha : PA X [a] ta) (hs : starEach [a] X.env = [(false, eval a X.env)] := by rfl) : PI X tg (.Call (.Name "range" p) [a] [] pos) (iRng1 ta) := by
  intro pins s σ H R I h
  refine Call_ (ld_blt I hg hm boot_range (PyProof.Rows.callWith_type1 (thn (ha pos pins s σ H _ I h) fun us s1 ⟨vs, H1, I1, r1, q1⟩ => ?_) hs rfl))
  obtain ⟨j, e, q1, q2, q⟩ := q1
  subst e
  cases r1 with
  | cons r rr =>
    cases rr
    obtain ⟨t, rfl⟩ := r
    exact call_range_1 (range_it I1 (by omega) (by omega) q1 q2 (by simpa using q))
theorem pi_range2 {a b : Expr} {ta : TA} {p pos : Pos} (hg : Gl X "range") (hm : X.mg "range" = none) (ha : PA X [a, b] ta) (hs : starEach [a, b] X.env = [(false, eval a X.env), (false, eval b X.env)] := by rfl) (hs2 : starEach [b] X.env = [(false, eval b X.env)] := by rfl) :
    PI X tg (.Call (.Name "range" p) [a, b] [] pos) (iRng2 ta) := by
  intro pins s σ H R I h
  refine Call_ (ld_blt I hg hm boot_range (PyProof.Rows.callWith_type1 (thn (ha pos pins s σ H _ I h) fun us s1 ⟨vs, H1, I1, r1, q1⟩ => ?_) (by rw [hs, hs2]) (by rw [hs2]; rfl)))
  obtain ⟨i, j, e, ⟨q1, q2, q3, q4⟩, q⟩ := q1
  subst e
  cases r1 with
  | cons r rr =>
    cases rr with
    | cons r' rr =>
      cases rr
      obtain ⟨t, rfl⟩ := r
      obtain ⟨t', rfl⟩ := r'
      exact call_range_2 (range_it I1 q1 q2 q3 q4 q)

/-! ### for -/
/-- W: the invariant by the turn and a measure; N: what the body is to reach -/
def tFor (wi : TI) (g : TG) (tb : TS) : TS := fun D σ H => wi σ H fun J H1 => ∃ W : Nat → Nat → St → Hp → Prop, (∃ m, W 0 m σ H1) ∧ ∀ i m σ H, W i m σ H →
  (J.stop i H ∧ D.nx σ H) ∨ (J.go i H ∧ ∃ N : St → Hp → Prop, (∀ σ' H', N σ' H' → ∃ m', m' < m ∧ W (i + 1) m' σ' H') ∧ ∀ x H', J.yld i H x H' → g x σ H' fun σ2 H2 => tb { D with nx := N, ct := N, bk := D.nx } σ2 H2)
/-- the records at fp as they stand -/
def pinsAt (fp : List Addr) (h : Heap) : List (Addr × Obj) := fp.filterMap fun b => (h.get? b).map fun o => (b, o)
theorem mem_pinsAt {fp : List Addr} {h : Heap} {b : Addr} {o : Obj} (hb : b ∈ fp) (e : h.get? b = some o) : (b, o) ∈ pinsAt fp h := List.mem_filterMap.mpr ⟨b, hb, by rw [e]; rfl⟩
theorem of_pinsAt {fp : List Addr} {h : Heap} {p : Addr × Obj} (hp : p ∈ pinsAt fp h) : p.1 ∈ fp ∧ h.get? p.1 = some p.2 := by
  obtain ⟨b, hb, e⟩ := List.mem_filterMap.mp hp
  cases q : h.get? b with
  | none => rw [q] at e; cases e
  | some o =>
    rw [q] at e
    have e' : (b, o) = p := Option.some.inj e
    subst e'
    exact ⟨hb, q⟩
theorem Inv.pinned {pins : List (Addr × Obj)} {σ : St} {H : Hp} {s : Shared} {fp : List Addr} (I : Inv X pins σ H s) (hf : ∀ b ∈ fp, FpOk X pins H b) (ho : ∀ b ∈ fp, ∃ o, s.heap.get? b = some o ∧ ∀ v, o.data ≠ .cell v) : Inv X (pins ++ pinsAt fp s.heap) σ H s :=
  I.pins_of fun p hp => (List.mem_append.mp hp).elim (fun z => I.pin p (List.mem_append_right _ z)) fun z => by
    obtain ⟨hb, e⟩ := of_pinsAt z
    obtain ⟨f0, f1, f2, _⟩ := hf p.1 hb
    obtain ⟨o, e', d⟩ := ho p.1 hb
    rw [e] at e'; cases e'
    exact ⟨e, f0, f1, f2, d⟩
theorem Inv.unpinned {pins pl : List (Addr × Obj)} {σ : St} {H : Hp} {s : Shared} (I : Inv X (pins ++ pl) σ H s) : Inv X pins σ H s := I.pins_of fun p hp => I.pin p (List.mem_append_right _ (List.mem_append_left _ hp))
theorem ps_for {iter : Expr} {body : List Stmt} {wi : TI} {g : TG} {tb : TS} {pos : Pos} (hp : PassesOwn (model X.prog X.w) X.A X.env X.xe) (hc : X.calm = true) (hi : PI X tg iter wi) (hg : PG X tg g) (hb : PSs X body tb)
    (hs : ∀ x, foldedSetIterable iter X.env x = pure x := by intro _; rfl) : PS X (.For tg iter body [] pos) (tFor wi g tb) := by
  intro pins s σ H D I h
  refine wpAny_For (thn (hi pins s σ H _ I h) fun v s1 h1 => thn h1 fun itv s2 h2 => ?_) hs
  obtain ⟨it, fp, tn, J, H2, e, I2, T, st2, f2, W, ⟨m0, w0⟩, turn⟩ := h2
  subst e
  -- what stays true of the iterator's objects through the loop
  have stat : ∀ {H' : Hp}, (∀ b ∈ fp, H' b = none) → ∀ b ∈ fp, FpOk X pins H' b := fun hn b hb => ⟨hn b hb, (f2 b hb).2⟩
  refine codeAny_forLoop_any (fun n s' => ∃ i σ' H', Inv X pins σ' H' s' ∧ tn i s'.heap ∧ (∀ b ∈ fp, H' b = none) ∧ W i n σ' H') ?_ m0 ⟨0, σ, H2, I2, st2, fun b hb => (f2 b hb).1, w0⟩
  rintro n s3 ⟨i, σ3, H3, I3, st3, fr3, w3⟩
  rcases turn i n σ3 H3 w3 with ⟨stop, qn⟩ | ⟨go, N, hN, step⟩
  · refine wpAny_passesOwn hp (thn (T.done X rfl rfl rfl hc i pins s3 σ3 H3 X.xe I3 (stat fr3) st3 stop) fun r s4 ⟨hr, I4⟩ => ?_)
    subst hr
    exact wpAny_execs_nil ⟨σ3, H3, I4, qn⟩
  · refine wpAny_passesOwn hp (thn (T.item X rfl rfl rfl hc i pins s3 σ3 H3 X.xe I3 (stat fr3) st3 go) fun r s4 ⟨u, hr, h4⟩ => ?_)
    subst hr
    refine wpAny_passesOwn hp (thn h4 fun _ s5 ⟨x, H5, I5, r5, y5, st5, fr5⟩ => ?_)
    have I5' := I5.pinned (stat fr5) (T.obj _ _ st5)
    refine wpAny_passesOwn hp (thn (hg _ s5 σ3 H5 x u _ I5' r5 (step x H5 y5)) fun _ s6 ⟨σ6, H6, I6, q6⟩ => ?_)
    refine wpAny_passesOwn hp (thn (hb _ s6 σ6 H6 _ I6 q6) fun f s7 q7 => ?_)
    have again : ∀ {σ7 : St} {H7 : Hp}, Inv X (pins ++ pinsAt fp s5.heap) σ7 H7 s7 → N σ7 H7 → ∃ m, m < n ∧ ∃ i σ' H', Inv X pins σ' H' s7 ∧ tn i s7.heap ∧ (∀ b ∈ fp, H' b = none) ∧ W i m σ' H' := fun {σ7 H7} I7 n7 => by
      obtain ⟨m', hm, w7⟩ := hN σ7 H7 n7
      refine ⟨m', hm, i + 1, σ7, H7, I7.unpinned, T.keep _ _ _ st5 fun b hb o e => (I7.pin (b, o) (List.mem_append_right _ (List.mem_append_right _ (mem_pinsAt hb e)))).1, fun b hb => ?_, w7⟩
      obtain ⟨o, e, d⟩ := T.obj _ _ st5 b hb
      exact (I7.pin (b, o) (List.mem_append_right _ (List.mem_append_right _ (mem_pinsAt hb e)))).2.1
    cases f with
    | next => obtain ⟨σ7, H7, I7, n7⟩ := q7; exact again I7 n7
    | cont => obtain ⟨σ7, H7, I7, n7⟩ := q7; exact again I7 n7
    | brk => obtain ⟨σ7, H7, I7, q7⟩ := q7; exact ⟨σ7, H7, I7.unpinned, q7⟩
    | ret v => obtain ⟨x7, σ7, H7, I7, r7, q7⟩ := q7; exact ⟨x7, σ7, H7, I7.unpinned, r7, q7⟩
end

/-! ### the forms one uses -/
/-- over a list that the body leaves as it is -/
theorem for_list {K : PySem.W.Frag} {a : Addr} {xs : List V} {g : TG} {tb : TS} {D : Ends} {σ : St} {H : Hp} (Pv : Nat → St → Hp → Prop) (h0 : Pv 0 σ H) (hl : ∀ i σ H, i ≤ xs.length → Pv i σ H → SqL K H a xs)
    (hs : ∀ i x σ H, xs[i]? = some x → Pv i σ H → g x σ H fun σ2 H2 => tb { D with nx := Pv (i + 1), ct := Pv (i + 1), bk := D.nx } σ2 H2) (hd : ∀ σ H, Pv xs.length σ H → D.nx σ H) :
    ∃ W : Nat → Nat → St → Hp → Prop, (∃ m, W 0 m σ H) ∧ ∀ i m σ H, W i m σ H →
      ((Itl K a).stop i H ∧ D.nx σ H) ∨ ((Itl K a).go i H ∧ ∃ N : St → Hp → Prop, (∀ σ' H', N σ' H' → ∃ m', m' < m ∧ W (i + 1) m' σ' H') ∧ ∀ x H', (Itl K a).yld i H x H' → g x σ H' fun σ2 H2 => tb { D with nx := N, ct := N, bk := D.nx } σ2 H2) := by
  refine ⟨fun i m σ H => m = xs.length - i ∧ i ≤ xs.length ∧ Pv i σ H, ⟨xs.length, by simp, Nat.zero_le _, h0⟩, ?_⟩
  rintro i m σ H ⟨rfl, hi, p⟩
  have q := hl i σ H hi p
  by_cases hlt : i < xs.length
  · refine .inr ⟨⟨xs, xs[i], q, by simp [hlt]⟩, Pv (i + 1), fun σ' H' p' => ⟨xs.length - (i + 1), by omega, rfl, hlt, p'⟩, fun x H' y => ?_⟩
    obtain ⟨e, y⟩ := y
    subst e
    exact hs i x σ _ (y xs q) p
  · have e : i = xs.length := by omega
    subst e
    exact .inl ⟨⟨xs, q, Nat.le_refl _⟩, hd σ H p⟩
theorem for_range {lo : Int} {n : Nat} {g : TG} {tb : TS} {D : Ends} {σ : St} {H : Hp} (Pv : Nat → St → Hp → Prop) (h0 : Pv 0 σ H)
    (hs : ∀ i σ H, i < n → Pv i σ H → g (.int (lo + i)) σ H fun σ2 H2 => tb { D with nx := Pv (i + 1), ct := Pv (i + 1), bk := D.nx } σ2 H2) (hd : ∀ σ H, Pv n σ H → D.nx σ H) :
    ∃ W : Nat → Nat → St → Hp → Prop, (∃ m, W 0 m σ H) ∧ ∀ i m σ H, W i m σ H →
      ((Itr lo n).stop i H ∧ D.nx σ H) ∨ ((Itr lo n).go i H ∧ ∃ N : St → Hp → Prop, (∀ σ' H', N σ' H' → ∃ m', m' < m ∧ W (i + 1) m' σ' H') ∧ ∀ x H', (Itr lo n).yld i H x H' → g x σ H' fun σ2 H2 => tb { D with nx := N, ct := N, bk := D.nx } σ2 H2) := by
  refine ⟨fun i m σ H => m = n - i ∧ i ≤ n ∧ Pv i σ H, ⟨n, by simp, Nat.zero_le _, h0⟩, ?_⟩
  rintro i m σ H ⟨rfl, hi, p⟩
  by_cases hlt : i < n
  · refine .inr ⟨hlt, Pv (i + 1), fun σ' H' p' => ⟨n - (i + 1), by omega, rfl, hlt, p'⟩, fun x H' y => ?_⟩
    obtain ⟨e, y⟩ := y
    subst e y
    exact hs i σ _ hlt p
  · have e : i = n := by omega
    subst e
    exact .inl ⟨Nat.le_refl _, hd σ H p⟩
/-- while, by a word and a measure of the state -/
theorem while_by {c : TT} {tb : TS} {D : Ends} {σ : St} {H : Hp} (Pv : St → Hp → Prop) (μ : St → Hp → Nat) (h0 : Pv σ H)
    (hs : ∀ σ H, Pv σ H → c σ H fun b H1 => if b = true then tb { D with nx := fun σ' H' => Pv σ' H' ∧ μ σ' H' < μ σ H, ct := fun σ' H' => Pv σ' H' ∧ μ σ' H' < μ σ H, bk := D.nx } σ H1 else D.nx σ H1)
    (mono : ∀ σ H Q Q', (∀ b H1, Q b H1 → Q' b H1) → c σ H Q → c σ H Q') : tWhile c tb D σ H := by
  refine ⟨fun m σ H => m = μ σ H ∧ Pv σ H, ⟨_, rfl, h0⟩, ?_⟩
  rintro m σ H ⟨rfl, p⟩
  refine mono σ H _ _ (fun b H1 q => ?_) (hs σ H p)
  cases b with
  | true => exact ⟨_, fun σ' H' ⟨p', l⟩ => ⟨_, l, rfl, p'⟩, q⟩
  | false => exact q
end L2

namespace L2
open PySem PySem.Spec PyProof.Rows

abbrev R2 := V → V → Hp → VK → Prop
/-- a two-place operation on values: f is binaryOp op, inplaceOp op or compareOp op -/
def OpR (X : Cx) (f : Value → Value → Sem Value) (r : R2) : Prop :=
  ∀ (pins : List (Addr × Obj)) (s : Shared) (σ : St) (H : Hp) (x y : V) (v u : Value) (Q : VK), Inv X pins σ H s → RelV x v → RelV y u → r x y H Q →
    wpAny (model X.prog X.w) X.A (f v u) (EP X pins σ Q) X.xe s
/-- a one-place operation -/
def UnR (X : Cx) (f : Value → Sem Value) (r : V → Hp → VK → Prop) : Prop :=
  ∀ (pins : List (Addr × Obj)) (s : Shared) (σ : St) (H : Hp) (x : V) (v : Value) (Q : VK), Inv X pins σ H s → RelV x v → r x H Q →
    wpAny (model X.prog X.w) X.A (f v) (EP X pins σ Q) X.xe s
/-- a call of a value that is known (a builtin, a type) with values -/
def CallR (X : Cx) (f : Value) (r : List V → Hp → VK → Prop) : Prop :=
  ∀ (pins : List (Addr × Obj)) (s : Shared) (σ : St) (H : Hp) (xs : List V) (us : List Value) (Q : VK), Inv X pins σ H s → Vals xs us → r xs H Q →
    wpAny (model X.prog X.w) X.A (call f us) (EP X pins σ Q) X.xe s
def tOp (r : R2) (ta tb : TE) : TE := fun σ H Q => ta σ H fun x H1 => tb σ H1 fun y H2 => r x y H2 Q
def tUn (r : V → Hp → VK → Prop) (ta : TE) : TE := fun σ H Q => ta σ H fun x H1 => r x H1 Q
/-- ints in, under C, and a value out -/
def rI (C : Int → Int → Prop) (g : Int → Int → V) : R2 := fun x y H Q => ∃ i j, x = .int i ∧ y = .int j ∧ C i j ∧ Q (g i j) H
def rI0 (g : Int → Int → V) : R2 := fun x y H Q => ∃ i j, x = .int i ∧ y = .int j ∧ Q (g i j) H
def rU (g : Int → V) : V → Hp → VK → Prop := fun x H Q => ∃ i, x = .int i ∧ Q (g i) H

section
variable {X : Cx} {a b c : Expr} {ta tb tc : TE} {pos : Pos}

theorem binT (ha : PE X a ta) (hb : PE X b tb) {pins : List (Addr × Obj)} {s : Shared} {σ : St} {H : Hp} {R : V → V → Hp → Prop} (I : Inv X pins σ H s)
    (h : ta σ H fun x H1 => tb σ H1 fun y H2 => R x y H2) {Q : Value → Shared → Prop} {f : Value → Value → Sem Value}
    (hf : ∀ v u s2 x y H2, Inv X pins σ H2 s2 → RelV x v → RelV y u → R x y H2 → wpAny (model X.prog X.w) X.A (f v u) Q X.xe s2) :
    wpAny (model X.prog X.w) X.A (eval a X.env) (fun v s₁ => wpAny (model X.prog X.w) X.A (eval b X.env) (fun u s₂ => wpAny (model X.prog X.w) X.A (f v u) Q X.xe s₂) X.xe s₁) X.xe s := by
  refine thn (ha pins s σ H _ I h) fun v s1 ⟨x, H1, I1, r1, q1⟩ => ?_
  refine thn (hb pins s1 σ H1 _ I1 q1) fun u s2 ⟨y, H2, I2, r2, q2⟩ => ?_
  exact hf v u s2 x y H2 I2 r1 r2 q2

theorem pe_op {op : Operator} {r : R2} (ho : OpR X (binaryOp op) r) (ha : PE X a ta) (hb : PE X b tb) : PE X (.BinOp a op b pos) (tOp r ta tb) := by
  intro pins s σ H Q I h
  exact wpAny_BinOp (binT ha hb I h fun v u s2 x y H2 I2 rx ry q => ho pins s2 σ H2 x y v u Q I2 rx ry q)
theorem pe_un {op : UnaryOp} {r : V → Hp → VK → Prop} (ho : UnR X (unaryOp op) r) (ha : PE X a ta) : PE X (.UnaryOp op a pos) (tUn r ta) := by
  intro pins s σ H Q I h
  exact UnaryOp_ (thn (ha pins s σ H _ I h) fun v s1 ⟨x, H1, I1, r1, q1⟩ => ho pins s1 σ H1 x v Q I1 r1 q1)
/-! ### ints -/
theorem opI {f : Value → Value → Sem Value} {C : Int → Int → Prop} {g : Int → Int → Int}
    (rule : ∀ (i j : Int) (t u : Tok) (s : Shared) (Q : Value → Shared → Prop) (E : Value → Shared → Prop), C i j → Q (.int (g i j) s.toks) { s with toks := s.toks + 1 } → wpAny (model X.prog X.w) X.A (f (.int i t) (.int j u)) Q E s) :
    OpR X f (rI C fun i j => .int (g i j)) := by
  intro pins s σ H x y v u Q I rx ry h
  obtain ⟨i, j, rfl, rfl, hc, q⟩ := h
  obtain ⟨t, rfl⟩ := rx
  obtain ⟨t', rfl⟩ := ry
  exact rule i j t t' s _ _ hc ⟨.int (g i j), H, I.tok _, ⟨_, rfl⟩, q⟩
theorem opI0 {f : Value → Value → Sem Value} {g : Int → Int → Int}
    (rule : ∀ (i j : Int) (t u : Tok) (s : Shared) (Q : Value → Shared → Prop) (E : Value → Shared → Prop), Q (.int (g i j) s.toks) { s with toks := s.toks + 1 } → wpAny (model X.prog X.w) X.A (f (.int i t) (.int j u)) Q E s) :
    OpR X f (rI0 fun i j => .int (g i j)) := by
  intro pins s σ H x y v u Q I rx ry h
  obtain ⟨i, j, rfl, rfl, q⟩ := h
  obtain ⟨t, rfl⟩ := rx
  obtain ⟨t', rfl⟩ := ry
  exact rule i j t t' s _ _ ⟨.int (g i j), H, I.tok _, ⟨_, rfl⟩, q⟩
theorem opB0 {f : Value → Value → Sem Value} {g : Int → Int → Bool}
    (rule : ∀ (i j : Int) (t u : Tok) (s : Shared) (Q : Value → Shared → Prop) (E : Value → Shared → Prop), Q (.bool (g i j)) s → wpAny (model X.prog X.w) X.A (f (.int i t) (.int j u)) Q E s) :
    OpR X f (rI0 fun i j => .bl (g i j)) := by
  intro pins s σ H x y v u Q I rx ry h
  obtain ⟨i, j, rfl, rfl, q⟩ := h
  obtain ⟨t, rfl⟩ := rx
  obtain ⟨t', rfl⟩ := ry
  exact rule i j t t' s _ _ ⟨.bl (g i j), H, I, rfl, q⟩

def CPow (i j : Int) : Prop := 0 ≤ j ∧ j ≤ 1000000 ∧ i.natAbs < 2 ^ 64
def CMul (i j : Int) : Prop := (-(2 ^ 64) < i ∧ i < 2 ^ 64) ∨ (-(2 ^ 64) < j ∧ j < 2 ^ 64)
theorem CMul.ok {i j : Int} (h : CMul i j) : IntMulOk i j := by
  rcases h with ⟨h1, h2⟩ | ⟨h1, h2⟩
  · exact .of_left (intBits_le_64 h1 h2)
  · exact .of_right (intBits_le_64 h1 h2)
theorem op_add : OpR X (binaryOp .Add) (rI0 fun i j => .int (i + j)) := opI0 fun _ _ _ _ _ _ _ q => add_int q
theorem op_sub : OpR X (binaryOp .Sub) (rI0 fun i j => .int (i - j)) := opI0 fun _ _ _ _ _ _ _ q => sub_int q
theorem op_modN : OpR X (binaryOp .Mod) (rI (fun _ j => j ≠ 0) fun i j => .int (i.fmod j)) := opI fun _ _ _ _ _ _ _ hc q => mod_int' hc q
theorem op_pow : OpR X (binaryOp .Pow) (rI CPow fun i j => .int (i ^ j.toNat)) := opI fun _ _ _ _ _ _ _ hc q => pow_int_small hc.1 hc.2.1 hc.2.2 q
theorem unI {f : Value → Sem Value} {g : Int → Int}
    (rule : ∀ (i : Int) (t : Tok) (s : Shared) (Q : Value → Shared → Prop) (E : Value → Shared → Prop), Q (.int (g i) s.toks) { s with toks := s.toks + 1 } → wpAny (model X.prog X.w) X.A (f (.int i t)) Q E s) :
    UnR X f (rU fun i => .int (g i)) := by
  intro pins s σ H x v Q I rx h
  obtain ⟨i, rfl, q⟩ := h
  obtain ⟨t, rfl⟩ := rx
  exact rule i t s _ _ ⟨.int (g i), H, I.tok _, ⟨_, rfl⟩, q⟩
theorem un_neg : UnR X (unaryOp .USub) (rU fun i => .int (-i)) := unI fun _ _ _ _ _ q => neg_int q
/-! ### bools among ints: n += (a < b) -/
end

/-! ### comparisons -/
/-- the scalars that == tells apart as data does -/
def scal : V → V → Bool
  | .non, .non => true | .non, .int _ => true | .int _, .non => true | .non, .bl _ => true | .bl _, .non => true | .non, .str _ => true | .str _, .non => true
  | .int _, .int _ => true | .bl _, .bl _ => true | .str _, .str _ => true | .byt _, .byt _ => true
  | .int _, .str _ => true | .str _, .int _ => true | .bl _, .str _ => true | .str _, .bl _ => true
  | _, _ => false
def rEq : R2 := fun x y H Q => scal x y = true ∧ Q (.bl (decide (x = y))) H
def rNe : R2 := fun x y H Q => scal x y = true ∧ Q (.bl (!decide (x = y))) H

theorem dec_int {i j : Int} : decide (V.int i = V.int j) = (i == j) := by
  rw [Bool.eq_iff_iff]
  simp
theorem dec_bl {i j : Bool} : decide (V.bl i = V.bl j) = (i == j) := by
  rw [Bool.eq_iff_iff]
  simp
theorem dec_str {i j : Str} : decide (V.str i = V.str j) = (i == j) := by
  rw [Bool.eq_iff_iff]
  simp
theorem dec_byt {i j : Array UInt8} : decide (V.byt i = V.byt j) = (i.toList == j.toList) := by
  rw [Bool.eq_iff_iff]
  cases i
  cases j
  simp

section
variable {X : Cx} {a b c : Expr} {ta tb tc : TE} {pos : Pos}
theorem fin_bl {pins : List (Addr × Obj)} {σ : St} {H : Hp} {s : Shared} {Q : VK} {k k' : Bool} (I : Inv X pins σ H s) (q : Q (.bl k) H) (e : k = k') : EP X pins σ Q (.bool k') s := by
  subst e
  exact ⟨.bl k, H, I, rfl, q⟩
theorem op_eq : OpR X (compareOp .Eq) rEq := by
  intro pins s σ H x y v u Q I rx ry h
  obtain ⟨hs, q⟩ := h
  cases x with
  | non =>
    cases rx
    cases y with
    | non => cases ry; exact PySem.EqNone.eq_none_none (fin_bl I q (by simp))
    | bl j => cases ry; exact PySem.EqNone.eq_none_bool (fin_bl I q (by simp))
    | int j => obtain ⟨t', rfl⟩ := ry; exact PySem.EqNone.eq_none_int (fin_bl I q (by simp))
    | str j => obtain ⟨t', rfl⟩ := ry; exact PySem.EqNone.eq_none_str (fin_bl I q (by simp))
    | _ => exact absurd (show false = true from hs) Bool.false_ne_true
  | bl i =>
    cases rx
    cases y with
    | non => cases ry; exact PySem.EqNone.eq_bool_none (fin_bl I q (by simp))
    | bl j => cases ry; exact eq_bool (fin_bl I q dec_bl)
    | str j => obtain ⟨t', rfl⟩ := ry; exact PySem.EqMixed.eq_bool_str (fin_bl I q (by simp))
    | _ => exact absurd (show false = true from hs) Bool.false_ne_true
  | int i =>
    obtain ⟨t, rfl⟩ := rx
    cases y with
    | non => cases ry; exact PySem.EqNone.eq_int_none (fin_bl I q (by simp))
    | int j => obtain ⟨t', rfl⟩ := ry; exact eq_int (fin_bl I q dec_int)
    | str j => obtain ⟨t', rfl⟩ := ry; exact PySem.EqMixed.eq_int_str (fin_bl I q (by simp))
    | _ => exact absurd (show false = true from hs) Bool.false_ne_true
  | str i =>
    obtain ⟨t, rfl⟩ := rx
    cases y with
    | non => cases ry; exact PySem.EqNone.eq_str_none (fin_bl I q (by simp))
    | bl j => cases ry; exact PySem.EqMixed.eq_str_bool (fin_bl I q (by simp))
    | int j => obtain ⟨t', rfl⟩ := ry; exact PySem.EqMixed.eq_str_int (fin_bl I q (by simp))
    | str j => obtain ⟨t', rfl⟩ := ry; exact eq_str (fin_bl I q dec_str)
    | _ => exact absurd (show false = true from hs) Bool.false_ne_true
  | byt i =>
    obtain ⟨t, rfl⟩ := rx
    cases y with
    | byt j => obtain ⟨t', rfl⟩ := ry; exact PySem.W.eq_bytes (fin_bl I q dec_byt)
    | _ => exact absurd (show false = true from hs) Bool.false_ne_true
  | _ => cases y <;> exact absurd (show false = true from hs) Bool.false_ne_true
theorem op_ne : OpR X (compareOp .NotEq) rNe := by
  intro pins s σ H x y v u Q I rx ry h
  obtain ⟨hs, q⟩ := h
  cases x with
  | non =>
    cases rx
    cases y with
    | non => cases ry; exact PySem.EqNone.ne_none_none (fin_bl I q (by simp))
    | bl j => cases ry; exact PySem.EqNone.ne_none_bool (fin_bl I q (by simp))
    | int j => obtain ⟨t', rfl⟩ := ry; exact PySem.EqNone.ne_none_int (fin_bl I q (by simp))
    | str j => obtain ⟨t', rfl⟩ := ry; exact PySem.EqNone.ne_none_str (fin_bl I q (by simp))
    | _ => exact absurd (show false = true from hs) Bool.false_ne_true
  | bl i =>
    cases rx
    cases y with
    | non => cases ry; exact PySem.EqNone.ne_bool_none (fin_bl I q (by simp))
    | bl j => cases ry; exact ne_bool (fin_bl I q (congrArg not dec_bl))
    | str j => obtain ⟨t', rfl⟩ := ry; exact PySem.EqMixed.ne_bool_str (fin_bl I q (by simp))
    | _ => exact absurd (show false = true from hs) Bool.false_ne_true
  | int i =>
    obtain ⟨t, rfl⟩ := rx
    cases y with
    | non => cases ry; exact PySem.EqNone.ne_int_none (fin_bl I q (by simp))
    | int j => obtain ⟨t', rfl⟩ := ry; exact ne_int (fin_bl I q (congrArg not dec_int))
    | str j => obtain ⟨t', rfl⟩ := ry; exact PySem.EqMixed.ne_int_str (fin_bl I q (by simp))
    | _ => exact absurd (show false = true from hs) Bool.false_ne_true
  | str i =>
    obtain ⟨t, rfl⟩ := rx
    cases y with
    | non => cases ry; exact PySem.EqNone.ne_str_none (fin_bl I q (by simp))
    | bl j => cases ry; exact PySem.EqMixed.ne_str_bool (fin_bl I q (by simp))
    | int j => obtain ⟨t', rfl⟩ := ry; exact PySem.EqMixed.ne_str_int (fin_bl I q (by simp))
    | str j => obtain ⟨t', rfl⟩ := ry; exact ne_str (fin_bl I q (congrArg not dec_str))
    | _ => exact absurd (show false = true from hs) Bool.false_ne_true
  | byt i =>
    obtain ⟨t, rfl⟩ := rx
    cases y with
    | byt j => obtain ⟨t', rfl⟩ := ry; exact PySem.W.ne_bytes (fin_bl I q (congrArg not dec_byt))
    | _ => exact absurd (show false = true from hs) Bool.false_ne_true
  | _ => cases y <;> exact absurd (show false = true from hs) Bool.false_ne_true

theorem op_lt : OpR X (compareOp .Lt) (rI0 fun i j => .bl (decide (i < j))) := opB0 fun _ _ _ _ _ _ _ q => lt_int q
theorem op_le : OpR X (compareOp .LtE) (rI0 fun i j => .bl (decide (i ≤ j))) := opB0 fun _ _ _ _ _ _ _ q => le_int q
theorem op_gt : OpR X (compareOp .Gt) (rI0 fun i j => .bl (decide (j < i))) := opB0 fun _ _ _ _ _ _ _ q => gt_int q
theorem op_ge : OpR X (compareOp .GtE) (rI0 fun i j => .bl (decide (j ≤ i))) := opB0 fun _ _ _ _ _ _ _ q => ge_int q
/-- is None, is not None: the right side a value none -/
theorem op_isN : OpR X (compareOp .Is) (fun x y H Q => y = .non ∧ Q (.bl (decide (x = .non))) H) := by
  intro pins s σ H x y v u Q I rx ry h
  obtain ⟨rfl, q⟩ := h
  cases ry
  refine is_none_gen (fin_bl I q ?_)
  cases x <;> first
    | (cases rx; rfl)
    | (obtain ⟨t, rfl⟩ := rx; rfl)
/-- two rules for one operation: by cases -/
theorem OpR.or {f : Value → Value → Sem Value} {r r' : R2} (h : OpR X f r) (h' : OpR X f r') : OpR X f (fun x y H Q => r x y H Q ∨ r' x y H Q) := by
  intro pins s σ H x y v u Q I rx ry q
  rcases q with q | q
  · exact h pins s σ H x y v u Q I rx ry q
  · exact h' pins s σ H x y v u Q I rx ry q

theorem nomark (b : Expr) {op : CmpOp} (h : op ≠ .In := by decide) (h2 : op ≠ .NotIn := by decide) : behindInMarks op b = false := by
  have e1 : (op == CmpOp.In) = false := by cases op <;> first | rfl | exact absurd rfl h
  have e2 : (op == CmpOp.NotIn) = false := by cases op <;> first | rfl | exact absurd rfl h2
  cases b <;> simp [behindInMarks, e1, e2]
/-- a comparison as a value; hm: nomark b, or (for in, not in) by with_unfolding_all rfl -/
theorem pe_cmpR {op : CmpOp} {r : R2} (ho : OpR X (compareOp op) r) (ha : PE X a ta) (hb : PE X b tb) (hm : behindInMarks op b = false) : PE X (.Compare a [op] [b] pos) (tOp r ta tb) := by
  intro pins s σ H Q I h
  exact wpAny_Compare1 (binT ha hb I h fun v u s2 x y H2 I2 rx ry q => ho pins s2 σ H2 x y v u Q I2 rx ry q) hm
/-- a reading of a value as a test -/
def tTest (t : TE) : TT := fun σ H Q => t σ H fun x H' => ∃ k, x = .bl k ∧ Q k H'
theorem pt_cmpR {op : CmpOp} {r : R2} (ho : OpR X (compareOp op) r) (ha : PE X a ta) (hb : PE X b tb) (hm : behindInMarks op b = false) : PT X (.Compare a [op] [b] pos) (tTest (tOp r ta tb)) := by
  intro pins s σ H Q I h
  refine wpAny_isTrue_Compare1 (thn (ha pins s σ H _ I h) fun v s1 ⟨x, H1, I1, r1, q1⟩ => thn (hb pins s1 σ H1 _ I1 q1) fun u s2 ⟨y, H2, I2, r2, q2⟩ =>
    thn (ho pins s2 σ H2 x y v u _ I2 r1 r2 q2) fun c s3 ⟨z, H3, I3, r3, k, e, q3⟩ => ?_) hm
  subst e
  cases r3
  exact wpAny_truthy_bool ⟨H3, I3, q3⟩
/-- a op1 b op2 c -/
def tChain (r r' : R2) (ta tb tc : TE) : TE := fun σ H Q => ta σ H fun x H1 => tb σ H1 fun y H2 => r x y H2 fun z H3 => ∃ k, z = .bl k ∧
  (if k = true then tc σ H3 fun w' H4 => r' y w' H4 Q else Q (.bl false) H3)
theorem pe_chain {op op' : CmpOp} {r r' : R2} (ho : OpR X (compareOp op) r) (ho' : OpR X (compareOp op') r') (ha : PE X a ta) (hb : PE X b tb) (hc : PE X c tc)
    (hm : lastMarks [op, op'] [b, c] = false := by with_unfolding_all rfl) : PE X (.Compare a [op, op'] [b, c] pos) (tChain r r' ta tb tc) := by
  intro pins s σ H Q I h
  refine Compare_chain (thn (ha pins s σ H _ I h) fun v s1 ⟨x, H1, I1, r1, q1⟩ => chain_link (thn (hb pins s1 σ H1 _ I1 q1) fun u s2 ⟨y, H2, I2, r2, q2⟩ =>
    thn (ho pins s2 σ H2 x y v u _ I2 r1 r2 q2) fun d s3 ⟨z, H3, I3, r3, k, e, q3⟩ => ?_)) hm
  subst e
  cases r3
  refine wpAny_truthy_bool ?_
  cases k with
  | false => exact ite_ff ⟨.bl false, H3, I3, rfl, q3⟩
  | true => exact ite_tt (chain_last (thn (hc pins s3 σ H3 _ I3 q3) fun w' s4 ⟨z', H4, I4, r4, q4⟩ => ho' pins s4 σ H4 y z' u w' Q I4 r2 r4 q4))
theorem pt_chain {op op' : CmpOp} {r r' : R2} (ho : OpR X (compareOp op) r) (ho' : OpR X (compareOp op') r') (ha : PE X a ta) (hb : PE X b tb) (hc : PE X c tc)
    (hm : lastMarks [op, op'] [b, c] = false := by with_unfolding_all rfl) : PT X (.Compare a [op, op'] [b, c] pos) (tTest (tChain r r' ta tb tc)) := by
  intro pins s σ H Q I h
  refine isTrue_chain (thn (ha pins s σ H _ I h) fun v s1 ⟨x, H1, I1, r1, q1⟩ => test_link (thn (hb pins s1 σ H1 _ I1 q1) fun u s2 ⟨y, H2, I2, r2, q2⟩ =>
    thn (ho pins s2 σ H2 x y v u _ I2 r1 r2 q2) fun d s3 ⟨z, H3, I3, r3, k, e, q3⟩ => ?_)) hm
  subst e
  cases r3
  refine wpAny_truthy_bool ?_
  cases k with
  | false =>
    obtain ⟨k', e', q'⟩ := q3
    cases e'
    exact ite_ff ⟨H3, I3, q'⟩
  | true =>
    refine ite_tt (test_last (thn (hc pins s3 σ H3 _ I3 q3) fun w' s4 ⟨z', H4, I4, r4, q4⟩ => thn (ho' pins s4 σ H4 y z' u w' _ I4 r2 r4 q4) fun d' s5 ⟨z2, H5, I5, r5, k2, e2, q5⟩ => ?_))
    subst e2
    cases r5
    exact wpAny_truthy_bool ⟨H5, I5, q5⟩

/-! ### truth -/
theorem line63 : (sizeLine : Nat) < 2 ^ 63 := by rw [sizeLine_eq]; decide
/-! ### strs and bytes -/
/-! ### scalar builtins, by CallR -/
theorem vals1 {x : V} {us : List Value} (r : Vals [x] us) : ∃ u, us = [u] ∧ RelV x u := by
  cases r with
  | cons r1 r2 => cases r2; exact ⟨_, rfl, r1⟩
theorem vals2 {x y : V} {us : List Value} (r : Vals [x, y] us) : ∃ u w', us = [u, w'] ∧ RelV x u ∧ RelV y w' := by
  cases r with
  | cons r1 r2 =>
    cases r2 with
    | cons r3 r4 => cases r4; exact ⟨_, _, rfl, r1, r3⟩
theorem call_abs : CallR X (.builtin "abs") (fun xs H Q => ∃ i, xs = [.int i] ∧ Q (.int (if i < 0 then -i else i)) H) := by
  intro pins s σ H xs us Q I r h
  obtain ⟨i, rfl, q⟩ := h
  obtain ⟨u, rfl, t, rfl⟩ := vals1 r
  exact call_abs_int fun u tk => ⟨.int (if i < 0 then -i else i), H, I.tok _, ⟨_, rfl⟩, q⟩
theorem call_max2 (hc : X.calm = true) : CallR X (.builtin "max") (fun xs H Q => ∃ i j, xs = [.int i, .int j] ∧ Q (.int (if j > i then j else i)) H) := by
  intro pins s σ H xs us Q I r h
  obtain ⟨i, j, rfl, q⟩ := h
  obtain ⟨u, w', rfl, ⟨t, rfl⟩, ⟨t', rfl⟩⟩ := vals2 r
  refine max_two_ints (I.ok.hd hc) fun h' tk k => ⟨_, H, I.kept k, ?_, q⟩
  by_cases hj : j > i
  · rw [if_pos hj, if_pos hj]; exact ⟨_, rfl⟩
  · rw [if_neg hj, if_neg hj]; exact ⟨_, rfl⟩
theorem call_int1 : CallR X (.type "int") (fun xs H Q => (∃ i, xs = [.int i] ∧ Q (.int i) H) ∨ ∃ k, xs = [.bl k] ∧ Q (.int (if k then 1 else 0)) H) := by
  intro pins s σ H xs us Q I r h
  rcases h with ⟨i, rfl, q⟩ | ⟨k, rfl, q⟩
  · obtain ⟨u, rfl, t, rfl⟩ := vals1 r
    exact call_int_int ⟨.int i, H, I, ⟨_, rfl⟩, q⟩
  · obtain ⟨u, rfl, r1⟩ := vals1 r
    cases r1
    exact call_int_bool ⟨.int (if k then 1 else 0), H, I.tok _, ⟨_, rfl⟩, q⟩
end
end L2

namespace L2
open PySem PySem.Spec PyProof.Rows

/-! ### an instance, its attributes a map -/
structure ObjM (h : Heap) (x dx C : Addr) (mA : Str → Option Value) : Prop where
  obj : h.get? x = some (PySem.W.instObj C dx)
  ns : h.Ns1 dx mA
  ne : dx ≠ x

theorem lookIn_ns {h : Heap} {dx : Addr} {mA : Str → Option Value} (n : h.Ns1 dx mA) : ∃ od, h.get? dx = some od ∧ ∀ name, PySem.W.lookIn name od = some (mA name) := by
  obtain ⟨o, es, ep, ho, hd, hk, _, hm⟩ := n
  refine ⟨o, ho, fun name => ?_⟩
  have e := hm name
  unfold nsFind findBy at e
  rw [← Array.find?_toList] at e
  unfold PySem.W.lookIn
  rw [hd]
  dsimp only
  split
  · rename_i y q
    rw [q] at e
    exact congrArg some e
  · rename_i q
    rw [q] at e
    have a : es.toList.any (·.refKey) = false := by
      rw [List.any_eq_false]
      intro y hy
      obtain ⟨z, t, hkey⟩ := hk y (Array.mem_toList_iff.mp hy)
      simp [DictEntry.refKey, hkey]
    have a' : ¬ es.toList.any (·.refKey) = true := by rw [a]; exact Bool.false_ne_true
    rw [if_neg a']
    exact congrArg some e

theorem ObjM.look {h : Heap} {x dx C : Addr} {mA : Str → Option Value} (I : ObjM h x dx C mA) : ∃ od, PySem.W.InstAt h x (PySem.W.instObj C dx) C (some od) ∧ ∀ name, PySem.W.lookIn name od = some (mA name) :=
  let ⟨od, ho, hl⟩ := lookIn_ns I.ns
  ⟨od, ⟨I.obj, rfl, rfl, ho⟩, hl⟩

section
variable {prog : Program} {w : World} {A : Around} {E : Value → Shared → Prop} {s : Shared} {K : PySem.W.Frag} {x dx C f : Addr} {mA : Str → Option Value} {name : Str} {v : Value}

end

/-! ### the attributes as a list of pairs -/
theorem RelO.none_of {o : Option Value} (r : RelO none o) : o = none := by
  cases o with
  | none => rfl
  | some u => exact (show False from r).elim
section
variable {P : Program} {w : World} {H H' : Hp} {h h' : Heap} {a C dx : Addr} {fs fs' : List (Str × V)}
theorem ins_get (hok : HOk P w H h) (e : H a = some (.ins C dx fs)) : ∃ mA, ObjM h a dx C mA ∧ (∀ f, RelO (fs.lookup f) (mA f)) ∧ PySem.Within mA (fs.map (·.1)) ∧ fs.length ≤ 1000 ∧ H dx = some (.own a) := by
  obtain ⟨d, z, ne, ob, mA, n, r, q⟩ := (show ObjOk P w H h a (.ins C dx fs) from hok a _ e)
  exact ⟨mA, ⟨ob, n, ne⟩, r, q, z, d⟩
end

/-! ### what of the text a class must have -/
structure Cls (K : PySem.W.Frag) (C : Addr) : Prop where
  pg : PySem.W.plainGet K C Str.empty = true
  hd : PySem.W.hasDictIn K C = true
  po : PySem.W.plainOver K C = true
  sa : PySem.W.findIn K (.ref C) "__setattr__" = some (some (.builtin "object.__setattr__"))
theorem Cls.get {K : PySem.W.Frag} {C : Addr} (c : Cls K C) (f : Str) : PySem.W.plainGet K C f = true := c.pg
/-- a constant of the class -/
structure Con (K : PySem.W.Frag) (C : Addr) (f : Str) (v : V) (u : Value) : Prop where
  at_ : PySem.W.findIn K (.ref C) f = some (some u)
  rel : RelV v u
  get : PySem.W.specialIn K u "__get__" = some none
  cp : PySem.W.copiedNames.contains f = false
/-- a method: a plain def of the class or of one above it -/
structure Meth (K : PySem.W.Frag) (C : Addr) (m : Str) (f : Addr) : Prop where
  at_ : PySem.W.findIn K (.ref C) m = some (some (.ref f))
  fn : PySem.W.isFn K (.ref f) = true
  kp : PySem.W.keepIn K (.ref f) = true

section
variable {X : Cx} {pins : List (Addr × Obj)} {σ : St} {H : Hp} {s : Shared} {a C dx : Addr} {fs : List (Str × V)} {f : Str} {v : V} {A : Around} {E : Value → Shared → Prop}

end

/-! ### readings and rules -/
section
variable {X : Cx} {o e value : Expr} {f : Str} {pos pos' tpos : Pos} {ta tv : TE}
end

/-! ### isinstance -/
section
variable {X : Cx} {pins : List (Addr × Obj)} {σ : St} {H : Hp} {s : Shared} {A : Around} {E : Value → Shared → Prop} {Q : Value → Shared → Prop} {c : Value} {b : Bool}
/-- the type of a value, as the fragment's deciders take it; for an instance its class -/
inductive TyOf (K : PySem.W.Frag) (H : Hp) : V → Value → Prop where
  | non : TyOf K H .non (.type "NoneType")
  | bl (x : Bool) : TyOf K H (.bl x) (.type "bool")
  | int (i : Int) : TyOf K H (.int i) (.type "int")
  | str (x : Str) : TyOf K H (.str x) (.type "str")
  | flt (x : UInt64) : TyOf K H (.flt x) (.type "float")
  | lst {a : Addr} {xs : List V} (e : H a = some (.lst xs)) : TyOf K H (.ref a) (.type "list")
  | frz {a : Addr} {o : Obj} {xs : List V} (e : H a = some (.frz o (.lst xs))) : TyOf K H (.ref a) (.type "list")
  | tup {a : Addr} {xs : List V} (e : H a = some (.tup xs)) : TyOf K H (.ref a) (.type "tuple")
  | dK {a : Addr} {kvs : List (Key × V)} (e : H a = some (.dK kvs)) : TyOf K H (.ref a) (.type "dict")
  | dT {a : Addr} {kvs : List (List Key × V)} (e : H a = some (.dT kvs)) : TyOf K H (.ref a) (.type "dict")
  | ins {a C dx : Addr} {fs : List (Str × V)} (e : H a = some (.ins C dx fs)) (cl : Cls K C) (ha : PySem.W.findIn K (.ref C) "__class__" = some (some (.builtin "object.__class__")))
      (hn : PySem.W.specialIn K (.builtin "object.__class__") "__get__" = some (some (.builtin "getset_descriptor.__get__"))) (htk : PySem.W.takesIn K (.builtin "object.__class__") = some true)
      (hm : PySem.W.mroIn K C (.type "object") = some true) : TyOf K H (.ref a) (.ref C)
/-- isinstance(x, c) for one class c, a built-in or an own one: kitOne's answer -/
theorem isinst_ok {x : V} {u t : Value} (I : Inv X pins σ H s) (rx : RelV x u) (ty : TyOf X.K H x t) (e : PySem.W.kitOne X.K t c = some b) (h : ∀ tk, Q (.bool b) { s with toks := tk }) :
    wpAny (model X.prog X.w) A (call (.builtin "isinstance") [u, c]) Q E s := by
  cases ty with
  | non => cases (show u = Value.none from rx); exact PySem.W.kia_one PySem.W.kitx_none I.kIn True.intro e (fun z => nomatch z) h
  | bl y => cases (show u = Value.bool y from rx); exact PySem.W.kia_one PySem.W.kitx_bool I.kIn True.intro e (fun z => nomatch z) h
  | int i => obtain ⟨t, q⟩ := (show ∃ t, u = Value.int i t from rx); cases q; exact PySem.W.kia_one PySem.W.kitx_int I.kIn True.intro e (fun z => nomatch z) h
  | str y => obtain ⟨t, q⟩ := (show ∃ t, u = Value.str y t from rx); cases q; exact PySem.W.kia_one PySem.W.kitx_str I.kIn True.intro e (fun z => nomatch z) h
  | flt y => obtain ⟨t, q⟩ := (show ∃ t, u = Value.float y t from rx); cases q; exact PySem.W.kia_one PySem.W.kitx_float I.kIn True.intro e (fun z => nomatch z) h
  | @lst a xs ea =>
    cases (show u = Value.ref a from rx)
    obtain ⟨_, _, n, _, h1⟩ := (show ObjOk X.prog X.w H s.heap a (.lst xs) from I.hok a _ ea)
    exact PySem.W.kia_one PySem.W.kitx_list I.kIn ⟨_, h1, rfl⟩ e (fun z => nomatch z) h
  | @frz a ob xs ea =>
    cases (show u = Value.ref a from rx)
    obtain ⟨_, _, _, n, _, h1⟩ := (show ObjOk X.prog X.w H s.heap a (.frz ob (.lst xs)) from I.hok a _ ea)
    exact PySem.W.kia_one PySem.W.kitx_list I.kIn ⟨_, h1, rfl⟩ e (fun z => nomatch z) h
  | @tup a xs ea =>
    cases (show u = Value.ref a from rx)
    obtain ⟨_, _, _, p⟩ := (show ObjOk X.prog X.w H s.heap a (.tup xs) from I.hok a _ ea)
    obtain ⟨o, h1, h2, _⟩ := p
    exact PySem.W.kia_one PySem.W.kitx_tuple I.kIn ⟨o, h1, h2⟩ e (fun z => nomatch z) h
  | @dK a kvs ea =>
    cases (show u = Value.ref a from rx)
    obtain ⟨_, _, vs, _, p⟩ := (show ObjOk X.prog X.w H s.heap a (.dK kvs) from I.hok a _ ea)
    obtain ⟨o, es, ep, h1, h2, _⟩ := p
    exact PySem.W.kia_one PySem.W.kitx_dict I.kIn ⟨o, h1, h2.1⟩ e (fun z => nomatch z) h
  | @dT a kvs ea =>
    cases (show u = Value.ref a from rx)
    obtain ⟨_, _, xs, _, o, es, ep, h1, h2, _⟩ := (show ObjOk X.prog X.w H s.heap a (.dT kvs) from I.hok a _ ea)
    exact PySem.W.kia_one PySem.W.kitx_dict I.kIn ⟨o, h1, h2.1⟩ e (fun z => nomatch z) h
  | @ins a C dx fs ea cl ha hn htk hm =>
    cases (show u = Value.ref a from rx)
    obtain ⟨mA, O, _⟩ := ins_get I.hok ea
    obtain ⟨od, J, _⟩ := O.look
    exact PySem.W.kia_one (PySem.W.kitx_own (cl.get _) cl.hd ha hn htk hm) I.kIn J e (fun z => nomatch z) h
end
end L2

namespace L2
open PySem PySem.Spec PyProof.Rows

/-! ### room -/
structure Room (k : Nat) (A : Around) : Prop where
  hd : A.handled = none
  dp : A.depth + 3 * k + 5 < recursionLimit
  un : A.units + 16 * k + 200 < cLine
theorem Room.mono {j k : Nat} {A : Around} (r : Room k A) (h : j ≤ k) : Room j A := ⟨r.hd, by have := r.dp; omega, by have := r.un; omega⟩
theorem Room.deeper {k : Nat} {A : Around} (r : Room (k + 1) A) (env : Env) : Room k (A.deeper env) :=
  ⟨r.hd, by have := r.dp; show A.depth + 1 + 3 * k + 5 < _; omega, by have := r.un; show A.units + 3 + 16 * k + 200 < _; omega⟩
theorem Room.in1 {k : Nat} {A : Around} (r : Room (k + 1) A) : Room k A.in1 :=
  ⟨r.hd, by have := r.dp; show A.depth + 3 * k + 5 < _; omega, by have := r.un; show A.units + 1 + 16 * k + 200 < _; omega⟩
theorem Room.depth {k : Nat} {A : Around} (r : Room k A) : A.depth < recursionLimit := by have := r.dp; omega
theorem Room.units {k : Nat} {A : Around} (r : Room k A) : A.units + 64 < cLine := by have := r.un; omega
/-! ### argument lists and displays -/
def tNil : TA := fun _ H Q => Q [] H
def tCons (ta : TE) (tr : TA) : TA := fun σ H Q => ta σ H fun x H1 => tr σ H1 fun xs H2 => Q (x :: xs) H2
section
variable {X : Cx} {e : Expr} {es : List Expr} {te : TE} {t : TA} {pos : Pos}
theorem pa_nil : PA X [] tNil := fun _ _ _ _ H Q I h => Calls.spliced_nil ⟨[], H, I, .nil, h⟩
theorem pa_cons (ha : PE X e te) (hr : PA X es t) (hs : starEach (e :: es) X.env = (false, eval e X.env) :: starEach es X.env := by rfl) : PA X (e :: es) (tCons te t) := by
  intro pos pins s σ H Q I h
  rw [hs]
  show wpAny _ _ (spliced ((false, eval e X.env) :: backTo pos (starEach es X.env))) _ _ s
  refine Calls.spliced_cons (thn (ha pins s σ H _ I h) fun u s1 ⟨x, H1, I1, r1, q1⟩ => ?_)
  exact thn (hr pos pins s1 σ H1 _ I1 q1) fun us s2 ⟨xs, H2, I2, r2, q2⟩ => ⟨x :: xs, H2, I2, .cons r1 r2, q2⟩

/-- a tuple, a list of written items -/
def tTup (t : TA) : TE := fun σ H Q => t σ H fun xs H1 => xs.length ≤ sizeLine ∧ ∀ p, H1 p = none → Q (.ref p) (upd H1 p (.tup xs))
def tLst (t : TA) : TE := fun σ H Q => t σ H fun xs H1 => xs.length ≤ sizeLine ∧ ∀ p, H1 p = none → Q (.ref p) (upd H1 p (.lst xs))
theorem pe_tup {x1} (h : PA X es t) : PE X (.Tuple es x1 pos) (tTup t) := by
  intro pins s σ H Q I hq
  refine wpAny_Tuple_spliced (thn (h pos pins s σ H _ I hq) fun us s1 ⟨xs, H1, I1, r, z, q⟩ => ⟨by rw [← r.length]; exact z, ?_⟩)
  have hf : H1 s1.heap.objs.size = none := I1.hok.fresh (Nat.le_refl _)
  refine ⟨.ref s1.heap.objs.size, upd H1 s1.heap.objs.size (.tup xs), I1.laid (t' := s1.toks) (fun b u e => Heap.get?_push_of_some _ e) (Nat.le_refl _) ?_, rfl, q _ hf⟩
  exact ⟨z, us, r, ⟨_, Heap.get?_push_size _ rfl, rfl, _, rfl⟩⟩
theorem pe_lst (h : PA X es t) : PE X (.List es pos) (tLst t) := by
  intro pins s σ H Q I hq
  refine wpAny_List_spliced (thn (h pos pins s σ H _ I hq) fun us s1 ⟨xs, H1, I1, r, z, q⟩ => ⟨by rw [← r.length]; exact z, ?_⟩)
  have hf : H1 s1.heap.objs.size = none := I1.hok.fresh (Nat.le_refl _)
  refine ⟨.ref s1.heap.objs.size, upd H1 s1.heap.objs.size (.lst xs), I1.laid (t' := s1.toks) (fun b u e => Heap.get?_push_of_some _ e) (Nat.le_refl _) ?_, rfl, q _ hf⟩
  exact ⟨z, us, 0, r, Heap.get?_push_size _ rfl⟩
end

/-! ### what a def promises -/
/-- a def's promise: the bound arguments in the parameters' order, the heap, the wanted end, the wanted exception -/
abbrev Sp := List V → Hp → VK → XK → Prop
/-- how an exception lies behind a call (file 08 gives it): the callers' frames, abstract heap and state ahead of the call, the wish, the exception, the state -/
abbrev CXT := List Env → Hp → Shared → XK → Value → Shared → Prop

/-- the state at a call -/
structure Env0 (P : Program) (w : World) (K : PySem.W.Frag) (mg : Str → Option Value) (base : Heap) (A : Around) (outer : List Env) (s : Shared) (H : Hp) : Prop where
  frames : A.frames = some outer
  mod : Mod K mg base
  bs : ∀ b o, base.get? b = some o → s.heap.get? b = some o ∧ H b = none
  bsz : base.objs.size ≤ s.heap.objs.size
  funs : s.heap.FunFrames base outer
  frf : ∀ b ∈ frs outer, H b = none
  hok : HOk P w H s.heap
  bare : AllBare s.gens
/-- a call's end -/
def CE (outer : List Env) (P : Program) (w : World) (H : Hp) (s : Shared) (Q : VK) (u : Value) (s' : Shared) : Prop :=
  ∃ v H', s'.os = s.os ∧ AllBare s'.gens ∧ Un (frs outer) [] H H' s.heap s'.heap ∧ HOk P w H' s'.heap ∧ RelV v u ∧ Q v H'
def CR (CX : CXT) (outer : List Env) (P : Program) (w : World) (H : Hp) (s : Shared) (Q : VK) (E : XK) (r : Result) (s' : Shared) : Prop :=
  match r with
  | .ok (.ret u) => CE outer P w H s Q u s'
  | .ok _ => False
  | .error e => CX outer H s E e s'
structure FnOk (P : Program) (w : World) (K : PySem.W.Frag) (mg : Str → Option Value) (base : Heap) (CX : CXT) (k : Nat) (f : Addr) (fd : FuncData) (ps : List Str) (sp : Sp) : Prop where
  len : ∀ vs H Q E, sp vs H Q E → vs.length = ps.length
  run : ∀ (A : Around) (outer : List Env) (s : Shared) (H : Hp) (args : Args) (us : List Value) (vs : List V) (Q : VK) (E : XK), Room k A → Env0 P w K mg base A outer s H → BindsTo s fd args (ps.zip us) → Vals vs us → sp vs H Q E →
    codeAny (model P w) A (.call (.ref f) args) (CR CX outer P w H s Q E) s
theorem FnOk.mono {P : Program} {w : World} {K : PySem.W.Frag} {mg : Str → Option Value} {base : Heap} {CX : CXT} {j k : Nat} {f : Addr} {fd : FuncData} {ps : List Str} {sp : Sp} (F : FnOk P w K mg base CX j f fd ps sp) (h : j ≤ k) :
    FnOk P w K mg base CX k f fd ps sp := ⟨F.len, fun A outer s H args us vs Q E hr => F.run A outer s H args us vs Q E (hr.mono h)⟩
theorem Env0.in1 {P : Program} {w : World} {K : PySem.W.Frag} {mg : Str → Option Value} {base : Heap} {A : Around} {outer : List Env} {s : Shared} {H : Hp} (e : Env0 P w K mg base A outer s H) :
    Env0 P w K mg base A.in1 outer s H := ⟨e.frames, e.mod, e.bs, e.bsz, e.funs, e.frf, e.hok, e.bare⟩

section
variable {X : Cx} {pins : List (Addr × Obj)} {σ : St} {H : Hp} {s s' : Shared}
/-- from a body: what a callee wants -/
theorem Inv.env0 (I : Inv X pins σ H s) : Env0 X.prog X.w X.K X.mg X.base X.A X.stack s H :=
  ⟨I.ok.frames, I.ok.mod, I.bs, Nat.le_trans I.ok.bsz I.sz, I.stack, I.stkFree, I.hok, I.bare⟩
/-- behind a call -/
theorem Inv.after {Q : VK} {u : Value} (I : Inv X pins σ H s) (h : CE X.stack X.prog X.w H s Q u s') : EP X pins σ Q u s' := by
  obtain ⟨v, H', os, bare, un, hok, r, q⟩ := h
  obtain ⟨hh, g, d, t, os'⟩ := s'
  obtain rfl : os' = s.os := os
  exact ⟨v, H', I.call (h' := hh) (g' := g) (d' := d) (t' := t) (ch := []) un hok bare (fun b z => absurd z (by simp)), r, q⟩
end

/-! ### calls -/
/-- f(..): the written arguments, then the defaults dvs; E: what is wanted of an exception -/
def tCall (sp : Sp) (dvs : List V) (E : XK) (t : TA) : TE := fun σ H Q => t σ H fun vs H1 => sp (vs ++ dvs) H1 Q E
/-- how the parameters are bound: us the positional arguments, kw the keywords' values by name, ds the defaults that fill up -/
def Binds (K : PySem.W.Frag) (fd : FuncData) (ps : List Str) (ds : List Value) : Prop :=
  ∀ (s : Shared) (us : List Value), K.In s.heap → (us ++ ds).length = ps.length → BindsTo s fd ⟨us, []⟩ (ps.zip (us ++ ds))
/-- every parameter is given -/
theorem Binds.all {K : PySem.W.Frag} {fd : FuncData} {ps : List Str} (h : ∀ us : List Value, us.length = ps.length → bindArgs fd ⟨us, []⟩ = pure (ps.zip us)) : Binds K fd ps [] := fun s us _ hl => by
  rw [List.append_nil] at hl ⊢
  exact .of_eq (h us hl)

/-- an exception of a callee reaches what this body wants of exceptions -/
def Passes (CX : CXT) (X : Cx) (E : XK) : Prop := ∀ (pins : List (Addr × Obj)) (σ : St) (H : Hp) (s : Shared) (e : Value) (s' : Shared), Inv X pins σ H s → CX X.stack H s E e s' → X.xe e s'

section
variable {X : Cx} {CX : CXT} {k : Nat} {f C : Addr} {fd : FuncData} {ps : List Str} {sp : Sp} {dvs : List V} {ds : List Value} {E : XK} {x m : Str} {p pos apos : Pos} {e o : Expr} {es : List Expr} {ta : TE} {t : TA}

/-- the callee runs -/
theorem run_fn {pins : List (Addr × Obj)} {σ : St} {H : Hp} {s : Shared} {Q : VK} {us : List Value} {vs : List V} (F : FnOk X.prog X.w X.K X.mg X.base CX k f fd ps sp) (hr : Room k X.A) (hb : Binds X.K fd ps ds) (hd : Vals dvs ds) (hx : Passes CX X E)
    (I : Inv X pins σ H s) (r : Vals vs us) (h : sp (vs ++ dvs) H Q E) : wpAny (model X.prog X.w) X.A (call (.ref f) us) (EP X pins σ Q) X.xe s := by
  have r2 : Vals (vs ++ dvs) (us ++ ds) := r.append hd
  have hl : (us ++ ds).length = ps.length := by rw [← r2.length]; exact F.len _ _ _ _ h
  refine wpAny_call (codeAny_mono (F.run X.A X.stack s H ⟨us, []⟩ (us ++ ds) (vs ++ dvs) Q E hr I.env0 (hb s us I.kIn hl) r2 h) fun r s' hq => ?_)
  cases r with
  | error e => exact hx pins σ H s e s' I hq
  | ok fl =>
    cases fl with
    | ret u => exact I.after hq
    | next => exact False.elim hq
    | brk => exact False.elim hq
    | cont => exact False.elim hq

theorem pe_call (F : FnOk X.prog X.w X.K X.mg X.base CX k f fd ps sp) (hr : Room k X.A) (hg : Gl X x) (hm : X.mg x = some (.ref f)) (hk : PySem.W.keepIn X.K (.ref f) = true) (hb : Binds X.K fd ps ds) (hd : Vals dvs ds) (hx : Passes CX X E)
    (ha : PA X (e :: es) t) (hdb : (x == ("__debug__" : Str)) = false := by decide) (he : starEach (e :: es) X.env = (false, eval e X.env) :: starEach es X.env := by rfl) (hpl : (backTo pos (starEach es X.env)).any (·.1) = false := by rfl) :
    PE X (.Call (.Name x p) (e :: es) [] pos) (tCall sp dvs E t) := by
  intro pins s σ H Q I h
  refine wpAny_Call_Name_kw (ld_glob I hg hm ?_ hdb)
  refine PySem.W.callWith_K (h₀ := X.base) I.ok.mod.kin hk (thn (ha pos pins s σ H _ I h) fun us s1 ⟨vs, H1, I1, r, q⟩ => ⟨I1.kIn, ?_⟩) he hpl
  exact run_fn F hr hb hd hx I1 r q
/-- what a class must have to be made -/
structure Mk (K : PySem.W.Frag) (C f : Addr) : Prop where
  makes : PySem.W.makesIn K C = true
  init : PySem.W.findIn K (.ref C) "__init__" = some (some (.ref f))
  fn : PySem.W.isFn K (.ref f) = true
  kp : PySem.W.keepIn K (.ref C) = true

end

/-! ### keywords -/
section
variable {X : Cx} {CX : CXT} {k : Nat} {f C : Addr} {fd : FuncData} {ps ks : List Str} {sp : Sp} {E : XK} {x m : Str} {p pos apos kpos : Pos} {e o : Expr} {es : List Expr} {kws : List Keyword} {te ta : TE} {t tk : TA} {nm : Option Str}
/-- how a call with keywords binds: g puts the positional values us and the keywords' values ws (names ks) in the parameters' order, defaults among them -/
structure KBinds (K : PySem.W.Frag) (fd : FuncData) (ps ks : List Str) (g : List Value → List Value → List Value) (gV : List V → List V → List V) : Prop where
  to : ∀ (s : Shared) (us ws : List Value), K.In s.heap → (g us ws).length = ps.length → BindsTo s fd ⟨us, ks.zip ws⟩ (ps.zip (g us ws))
  rel : ∀ {vs : List V} {us : List Value} {zs : List V} {ws : List Value}, Vals vs us → Vals zs ws → Vals (gV vs zs) (g us ws)
variable {g : List Value → List Value → List Value} {gV : List V → List V → List V}
end

/-! ### a def's body keeps its promise -/
/-- names: the parameters first -/
structure FnScope (N P : List Str) (sc : Scope) : Prop where
  kind : sc.kind = .function
  co : sc.isCoroutine = false
  gen : sc.isGenerator = false
  nd : N.Nodup
  pre : N.take P.length = P
  par : ∀ x ∈ P, sc.names.lookup x = some .local ∨ sc.names.lookup x = some .cell
  nofree : ∀ y ∈ sc.names, y.2 ≠ .free

theorem bindL_out {kindOf : Str → Option NameKind} {x : Str} : ∀ {binds : List (Str × Value)} {m : Str → Option Value}, (∀ v, (x, v) ∉ binds) → bindL kindOf binds m x = m x
  | [], _, _ => rfl
  | (n, v) :: r, m, h => by
    unfold bindL
    rw [bindL_out fun w hw => h w (List.mem_cons_of_mem _ hw)]
    split
    · have : x ≠ n := by rintro rfl; exact h v List.mem_cons_self
      simp [this]
    · rfl
theorem bindC_out {kindOf : Str → Option NameKind} {x : Str} : ∀ {binds : List (Str × Value)} {m : Str → Option Value}, (∀ v, (x, v) ∉ binds) → bindC kindOf binds m x = m x
  | [], _, _ => rfl
  | (n, v) :: r, m, h => by
    unfold bindC
    rw [bindC_out fun w hw => h w (List.mem_cons_of_mem _ hw)]
    split
    · rfl
    · have : x ≠ n := by rintro rfl; exact h v List.mem_cons_self
      simp [this]
theorem bindL_get {kindOf : Str → Option NameKind} {x : Str} {v : Value} : ∀ {P : List Str} {vs : List Value} {i : Nat} {m : Str → Option Value}, P.Nodup → P[i]? = some x → vs[i]? = some v → kindOf x = some .local →
    bindL kindOf (P.zip vs) m x = some v
  | [], _, _, _, _, h, _, _ => by simp at h
  | _ :: _, [], _, _, _, _, h, _ => by simp at h
  | p :: P, w :: vs, 0, m, nd, h1, h2, hk => by
    simp at h1 h2; subst h1; subst h2
    show bindL kindOf ((p, w) :: P.zip vs) m p = _
    unfold bindL
    rw [bindL_out fun v hv => (List.nodup_cons.mp nd).1 (List.of_mem_zip hv).1, if_pos hk]
    simp
  | p :: P, w :: vs, i + 1, m, nd, h1, h2, hk => by
    show bindL kindOf ((p, w) :: P.zip vs) m x = _
    unfold bindL
    exact bindL_get (i := i) (List.nodup_cons.mp nd).2 (by simpa using h1) (by simpa using h2) hk
theorem bindC_get {kindOf : Str → Option NameKind} {x : Str} {v : Value} : ∀ {P : List Str} {vs : List Value} {i : Nat} {m : Str → Option Value}, P.Nodup → P[i]? = some x → vs[i]? = some v → kindOf x ≠ some .local →
    bindC kindOf (P.zip vs) m x = some v
  | [], _, _, _, _, h, _, _ => by simp at h
  | _ :: _, [], _, _, _, _, h, _ => by simp at h
  | p :: P, w :: vs, 0, m, nd, h1, h2, hk => by
    simp at h1 h2; subst h1; subst h2
    show bindC kindOf ((p, w) :: P.zip vs) m p = _
    unfold bindC
    rw [bindC_out fun v hv => (List.nodup_cons.mp nd).1 (List.of_mem_zip hv).1, if_neg hk]
    simp
  | p :: P, w :: vs, i + 1, m, nd, h1, h2, hk => by
    show bindC kindOf ((p, w) :: P.zip vs) m x = _
    unfold bindC
    exact bindC_get (i := i) (List.nodup_cons.mp nd).2 (by simpa using h1) (by simpa using h2) hk

/-- the names' values at the entry -/
def start (N : List Str) (vs : List V) : St := vs.map some ++ List.replicate (N.length - vs.length) none

/-- the context of a def's body, at its entry; an exception leaves the frame, then lies as CX says -/
def cxOf (CX : CXT) (P : Program) (w : World) (K : PySem.W.Frag) (mg : Str → Option Value) (base : Heap) (N : List Str) (qual : Str) (scope : Scope) (f : Addr) (cd : Value) (A : Around) (outer : List Env) (s : Shared) (H : Hp) (E : XK) : Cx where
  prog := P
  w := w
  K := K
  mg := mg
  base := base
  A := A.deeper (envOfC qual scope s.heap.objs.size f cd)
  N := N
  s_0 := s
  H_0 := H
  env := envOfC qual scope s.heap.objs.size f cd
  outer := outer
  stack := envOfC qual scope s.heap.objs.size f cd :: outer
  ex := []
  calm := true
  fn := fun _ => true
  pn := []
  xe := fun e s' => wpAny (model P w) (A.deeper (envOfC qual scope s.heap.objs.size f cd)) (leaving (envOfC qual scope s.heap.objs.size f cd) e) (fun _ s'' => CX outer H s E e s'') (fun e' s'' => CX outer H s E e' s'') s'

theorem cell_has {sc : Scope} {n : Nat} {x : Str} (h : sc.names.lookup x = some .cell) : ∃ c, (cellsFrom n sc.names []).lookup x = some c := by
  have q := PySem.W.cellsFrom_some sc.names n [] (.inl h)
  exact Option.isSome_iff_exists.mp q

theorem inv_start {CX : CXT} {P : Program} {w : World} {K : PySem.W.Frag} {mg : Str → Option Value} {base : Heap} {N ps : List Str} {qual : Str} {scope : Scope} {f : Addr} {cd : Value} {A : Around} {outer : List Env} {s s1 : Shared} {H : Hp} {E : XK} {us : List Value} {vs : List V}
    (S : FnScope N ps scope) (hd : A.handled = none) (e0 : Env0 P w K mg base A outer s H) (hl : vs.length = ps.length) (r : Vals vs us)
    (x : InCallC s s.heap.objs.size (bindL (envOfC qual scope s.heap.objs.size f cd).kindOf (ps.zip us) fun _ => none) (cellsFrom (s.heap.objs.size + 1) scope.names []) (bindC (envOfC qual scope s.heap.objs.size f cd).kindOf (ps.zip us) fun _ => none) s1) :
    Inv (cxOf CX P w K mg base N qual scope f cd A outer s H E) [] (start N vs) H s1 := by
  have hpl : ps.length ≤ N.length := by have := congrArg List.length S.pre; rw [List.length_take] at this; omega
  obtain ⟨h1, tk, rfl, hk⟩ := x.done
  have noA : ∀ b : Addr, b ∉ (cxOf CX P w K mg base N qual scope f cd A outer s H E).ex := fun b z => absurd (show b ∈ ([] : List Addr) from z) (by simp)
  refine ⟨⟨e0.mod, S.kind, rfl, rfl, Nat.le_refl _, fun y z c h1 h2 => ?_, fun y hy => ?_, fun y c _ h => ?_, fun _ => hd, Around.frames_deeper e0.frames, .inr ⟨rfl, rfl⟩, fun b z => absurd z (noA b), e0.bs, e0.bsz, fun b _ _ => noA b, fun b z => absurd z (noA b), e0.funs, e0.frf⟩,
    rfl, e0.bare, Un.kept hk, ⟨_, x.toInCall.ns, fun i y v h1 h2 h3 => ?_⟩, fun y c h => ⟨_, x.cell y c h⟩, e0.hok.fresh (Nat.le_refl _), fun y c h => ?_, fun p hp => absurd (show p ∈ ([] : List (Addr × Obj)) from hp) (by simp), e0.hok.kept hk, ?_⟩
  · exact name_of_addr x.apart (PySem.mem_of_lookup h1) (PySem.mem_of_lookup h2)
  · have hy : scope.names.lookup y = some .cell ∨ scope.names.lookup y = some .free := hy
    rcases hy with hy | hy
    · exact cell_has hy
    · exact absurd rfl (S.nofree _ (PySem.mem_of_lookup hy))
  · exact Nat.le_of_lt (x.above y c (PySem.mem_of_lookup h))
  · have hi : i < vs.length := by
      unfold start at h2
      by_cases hi : i < vs.length
      · exact hi
      · rw [List.getElem?_append_right (by simpa using hi)] at h2
        rw [List.getElem?_replicate] at h2
        split at h2 <;> cases h2
    have ha : vs[i]? = some v := by
      unfold start at h2
      rw [List.getElem?_append_left (by simpa using hi), List.getElem?_map] at h2
      cases e : vs[i]? with
      | none => rw [e] at h2; cases h2
      | some a => rw [e] at h2; cases h2; rfl
    obtain ⟨u, hu, rv⟩ := r.get ha
    have hp : ps[i]? = some y := by
      rw [← S.pre, List.getElem?_take_of_lt (by omega)]; exact h1
    have ndP : ps.Nodup := by rw [← S.pre]; exact S.nd.sublist (List.take_sublist _ _)
    refine ⟨u, rv, ?_⟩
    rcases S.par y (List.mem_of_getElem? hp) with k | k
    · exact .inl ⟨k, bindL_get ndP hp hu k⟩
    · obtain ⟨c, e⟩ := cell_has (n := s.heap.objs.size + 1) k
      refine .inr ⟨.inl k, c, e, ?_⟩
      have q := x.cell y c e
      rw [bindC_get ndP hp hu (by show scope.names.lookup y ≠ _; rw [k]; decide)] at q
      exact q
  · exact e0.hok.fresh (Nat.le_of_lt (x.above y c (PySem.mem_of_lookup h)))
  · unfold start
    show _ = N.length
    rw [List.length_append, List.length_map, List.length_replicate]
    omega

/-- THE RULE: a def (or a method) of the text, by its body. The body's reading t is chosen for each entry; it is run at the parameters' values -/
theorem fn_of {CX : CXT} {P : Program} {w : World} {K : PySem.W.Frag} {mg : Str → Option Value} {base : Heap} {k : Nat} {f : Addr} {name qual : Str} {params : Arguments} {body : List Stmt} {scope : Scope} {dV kV doc pm cdv ct oc : Value} {an od : Option Addr}
    {osl : Array (Option Value)} {N ps : List Str} {sp : Sp} (lk : K.lookup f = some ⟨oc, od, .func (PySem.W.fnOf name qual params body scope dV kV doc pm an cdv ct), osl⟩) (hcd : PySem.W.codeIn K cdv qual = true) (S : FnScope N ps scope)
    (len : ∀ vs H Q E, sp vs H Q E → vs.length = ps.length)
    (hbody : ∀ (A : Around) (outer : List Env) (s : Shared) (H : Hp) (vs : List V) (Q : VK) (E : XK), Room k (A.deeper (envOfC qual scope s.heap.objs.size f cdv)) → sp vs H Q E →
      ∃ t, PSs (cxOf CX P w K mg base N qual scope f cdv A outer s H E) body t ∧ t { nx := fun _ H' => Q .non H', rt := Q } (start N vs) H) :
    FnOk P w K mg base CX (k + 1) f (PySem.W.fnOf name qual params body scope dV kV doc pm an cdv ct) ps sp := by
  refine ⟨len, fun A outer s H args us vs Q E hr e0 hb r hsp => ?_⟩
  have hl := len _ _ _ _ hsp
  have KX : K.In s.heap := e0.mod.kin.keeps fun b o e => (e0.bs b o e).1
  have lim : s.heap.NoLimit := e0.mod.nolimit.keeps fun b o e => (e0.bs b o e).1
  have hkind : ∀ y ∈ ps.zip us, scope.names.lookup y.1 = some .local ∨ (scope.names.lookup y.1 = some .cell ∧ ((cellsFrom (s.heap.objs.size + 1) scope.names []).lookup y.1).isSome = true) := fun ⟨n, v⟩ hy => by
    rcases S.par n (List.of_mem_zip hy).1 with q | q
    · exact .inl q
    · exact .inr ⟨q, PySem.W.cellsFrom_some _ _ _ (.inl q)⟩
  refine codeAny_call_function hr.depth (KX _ _ lk) rfl S.co S.gen rfl (PySem.W.codeRec_of KX hcd) (hb _ _ _ _ ?_)
  refine wpAny_newFunctionEnv_cells S.kind hkind fun env he s1 x => ?_
  subst he
  refine ⟨lim.keeps x.toInCall.keep, codeAny_func ?_⟩
  obtain ⟨t, ht, hq⟩ := hbody A outer s H vs Q E (hr.deeper _) hsp
  have I : Inv (cxOf CX P w K mg base N qual scope f cdv A outer s H E) [] (start N vs) H s1 := inv_start S hr.hd e0 hl r x
  refine wpAny_mono (ht [] s1 (start N vs) H _ I hq) (fun fl s' hs => ?_) fun e s' hs => hs
  have fin : ∀ {σ' : St} {H' : Hp} {v : V} {u : Value}, Inv (cxOf CX P w K mg base N qual scope f cdv A outer s H E) [] σ' H' s' → RelV v u → Q v H' → CE outer P w H s Q u s' :=
    fun {σ' H' v u} J rv q => ⟨v, H', J.os, J.bare, J.base, J.hok, rv, q⟩
  cases fl with
  | ret u =>
    obtain ⟨v, σ', H', J, rv, q⟩ := hs
    exact fin J rv q
  | next =>
    obtain ⟨σ', H', J, q⟩ := hs
    exact fin (v := V.non) (u := Value.none) J rfl q
  | brk =>
    obtain ⟨_, _, _, q⟩ := hs
    exact False.elim q
  | cont =>
    obtain ⟨_, _, _, q⟩ := hs
    exact False.elim q
end L2

namespace L2
open PySem PySem.Spec PyProof.Rows
section
variable {X : Cx} {x : Str} {p pos : Pos} {e : Expr} {es : List Expr} {t : TA} {id T : String} {r : List V → Hp → VK → Prop}

def tCB (r : List V → Hp → VK → Prop) (t : TA) : TE := fun σ H Q => t σ H fun vs H1 => r vs H1 Q
/-- f(e, ..), f a built-in function -/
theorem pe_callB (hc : CallR X (.builtin id) r) (hg : Gl X x) (hm : X.mg x = none) (hv : bootBuiltins x = some (.builtin id)) (ha : PA X (e :: es) t) (hn : x ≠ "__name__" := by decide) (hdb : (x == ("__debug__" : Str)) = false := by decide)
    (he : starEach (e :: es) X.env = (false, eval e X.env) :: starEach es X.env := by rfl) (hpl : (backTo pos (starEach es X.env)).any (·.1) = false := by rfl) : PE X (.Call (.Name x p) (e :: es) [] pos) (tCB r t) := by
  intro pins s σ H Q I h
  refine wpAny_Call_Name_kw (ld_blt I hg hm hv ?_ hn hdb)
  exact PyProof.Rows.callWith_builtin1 (thn (ha pos pins s σ H _ I h) fun us s1 ⟨vs, H1, I1, r1, q1⟩ => hc pins s1 σ H1 vs us Q I1 r1 q1) he hpl
/-- T(e, ..), T a built-in type -/
theorem pe_callTy (hc : CallR X (.type T) r) (hg : Gl X x) (hm : X.mg x = none) (hv : bootBuiltins x = some (.type T)) (ha : PA X (e :: es) t) (hn : x ≠ "__name__" := by decide) (hdb : (x == ("__debug__" : Str)) = false := by decide)
    (he : starEach (e :: es) X.env = (false, eval e X.env) :: starEach es X.env := by rfl) (hpl : (backTo pos (starEach es X.env)).any (·.1) = false := by rfl) : PE X (.Call (.Name x p) (e :: es) [] pos) (tCB r t) := by
  intro pins s σ H Q I h
  refine wpAny_Call_Name_kw (ld_blt I hg hm hv ?_ hn hdb)
  exact PyProof.Rows.callWith_type1 (thn (ha pos pins s σ H _ I h) fun us s1 ⟨vs, H1, I1, r1, q1⟩ => hc pins s1 σ H1 vs us Q I1 r1 q1) he hpl
end
end L2

namespace HT
open PySem PyProof.Rows

section
open PySem.SeqAt
open PySem.AutoSeq1 (wpAny_loadPart')
open PySem.MeetsSeq PySem.MeetsSeq2 PySem.MeetsSeq3

end

section
variable {prog : Program} {w : World} {A : Around} {E : Value → Shared → Prop} {s : Shared}

/-- t + u, t not empty -/
theorem cat_tup {t b : Addr} {vs ws : List Value} {Q : Value → Shared → Prop} (ht : IsTup s.heap t vs.toArray) (hb : IsTup s.heap b ws.toArray) (hv : vs ≠ [])
    (h1 : ws = [] → Q (.ref t) s) (h2 : ws ≠ [] → Q (.ref s.heap.objs.size) { s with heap := s.heap.push { cls := .type "tuple", data := .seq (vs ++ ws).toArray } })
    (hsz : vs.length + ws.length ≤ sizeLine) : wpAny (model prog w) A (binaryOp .Add (.ref t) (.ref b)) Q E s := by
  obtain ⟨⟨cls, dd, data, sl⟩, ho, hc, n, hd⟩ := id ht
  obtain ⟨⟨cls2, dd2, data2, sl2⟩, ho2, hc2, n2, hd2⟩ := id hb
  simp only at hc hd hc2 hd2
  subst hc hd hc2 hd2
  have e : vs.toArray ++ ws.toArray = (vs ++ ws).toArray := by simp
  by_cases hw : ws = []
  · exact concat_meets ⟨_, ho, rfl⟩ ⟨_, ho2, rfl⟩ noFill_tuple_add seq_tuple_add PySem.F.slot_tuple_add PySem.F.entry_tuple_add (PySem.F.args_tuple_add_2 _ _)
      (tuple_addW1 t b vs.toArray ws.toArray n n2 dd dd2 sl sl2 (by simpa using hv) (by simp [hw])) ⟨ho, ho2, h1 hw⟩
  · refine concat_meets ⟨_, ho, rfl⟩ ⟨_, ho2, rfl⟩ noFill_tuple_add seq_tuple_add PySem.F.slot_tuple_add PySem.F.entry_tuple_add (PySem.F.args_tuple_add_2 _ _)
      (tuple_addW2 t b vs.toArray ws.toArray n n2 dd dd2 sl sl2 (by simpa using hv) (by simpa using hw) (by rw [List.size_toArray, List.size_toArray]; exact hsz)) ⟨ho, ho2, ?_⟩
    rw [e]
    exact h2 hw

/-! ### t[a:b], not the whole -/
/-- a slice's bound as a place among n (d where it is left out) -/
def sIx (n d : Nat) : Option Int → Nat
  | none => d
  | some v => if v < 0 then (v + (n : Int)).toNat else min v.toNat n
theorem sIx_le (n d : Nat) (hd : d ≤ n) (o : Option Int) : sIx n d o ≤ n := by
  cases o with
  | none => exact hd
  | some v =>
    show (if v < 0 then (v + (n : Int)).toNat else min v.toNat n) ≤ n
    by_cases hv : v < 0
    · rw [if_pos hv]; omega
    · rw [if_neg hv]; exact Nat.min_le_right _ _
theorem clip_eq (v : Int) (n d : Nat) : (if v < 0 then max (v + (n : Int)) 0 else min v (n : Int)) = ((sIx n d (some v) : Nat) : Int) := by
  show (if v < 0 then max (v + (n : Int)) 0 else min v (n : Int)) = (((if v < 0 then (v + (n : Int)).toNat else min v.toNat n) : Nat) : Int)
  by_cases hv : v < 0
  · simp only [if_pos hv]; omega
  · simp only [if_neg hv]; omega
theorem adjust_gen (lo hi : Option Int) (n : Nat) : Builtin.Slice.sliceAdjust lo hi 1 (n : Int) = (((sIx n 0 lo : Nat) : Int), ((sIx n n hi : Nat) : Int)) := by
  have h1 : ¬ ((1 : Int) < 0) := by omega
  unfold Builtin.Slice.sliceAdjust
  simp only [h1, if_false]
  refine Prod.ext ?_ ?_
  · cases lo with
    | none => rfl
    | some v => exact clip_eq v n 0
  · cases hi with
    | none => rfl
    | some v => exact clip_eq v n n
theorem places_gen (i j : Nat) : Builtin.Slice.slicePlaces (i : Int) (j : Int) 1 = j - i := by
  unfold Builtin.Slice.slicePlaces
  have h1 : (1 : Int) > 0 := by omega
  simp only [h1, if_true, Int.ediv_one]
  split <;> omega
theorem slicePart_ {v : Value} {o : Option Int} {Q : Option Int → Shared → Prop} (p : IsPart v o) (h : Q o s) : wpAny (model prog w) A (Builtin.Slice.slicePartIndex v) Q E s := by
  cases p with
  | none => exact slicePart_none h
  | int i t => exact slicePart_int h
theorem sliceApplied_gen {sl : Addr} {vl vu : Value} {lo hi : Option Int} {n : Nat} {Q : Int × Int × Nat → Shared → Prop} (hs : s.heap.IsSliceOf sl vl vu .none) (pl : IsPart vl lo) (pu : IsPart vu hi)
    (h : Q (((sIx n 0 lo : Nat) : Int), 1, sIx n n hi - sIx n 0 lo) s) : wpAny (model prog w) A (Builtin.Slice.sliceApplied (.ref sl) (pure (n : Int))) Q E s := by
  obtain ⟨os, hos, hcs, hds⟩ := id hs
  unfold Builtin.Slice.sliceApplied Builtin.Slice.sliceFields
  refine wpAny_bind (wpAny_bind (wpAny_field hos hds (x := vl) rfl (wpAny_bind (wpAny_field hos hds (x := vu) rfl (wpAny_bind (wpAny_field hos hds (x := .none) rfl (wpAny_pure ?_)))))))
  refine wpAny_bind (slicePart_none ?_)
  show wpAny _ _ (if ((1 : Int) == 0) = true then _ else _) _ _ s
  rw [if_neg (by decide)]
  refine wpAny_bind (slicePart_ pl (wpAny_bind (slicePart_ pu (wpAny_bind (wpAny_pure ?_)))))
  show wpAny _ _ (match Builtin.Slice.sliceAdjust lo hi 1 (n : Int) with | (lo, hi) => pure (lo, (1 : Int), Builtin.Slice.slicePlaces lo hi 1)) _ _ s
  rw [adjust_gen lo hi n]
  show wpAny _ _ (pure (((sIx n 0 lo : Nat) : Int), (1 : Int), Builtin.Slice.slicePlaces ((sIx n 0 lo : Nat) : Int) ((sIx n n hi : Nat) : Int) 1)) _ _ s
  rw [places_gen]
  exact wpAny_pure h
theorem pick_gen (xs : Array Value) (i k : Nat) : ((List.range k).filterMap fun (m : Nat) => xs[((i : Int) + (m : Int) * 1).toNat]?).toArray = ((xs.toList.drop i).take k).toArray := by
  have e : (fun (m : Nat) => xs[((i : Int) + (m : Int) * 1).toNat]?) = fun m => xs[i + m]? := by
    funext m
    have : ((i : Int) + (m : Int) * 1).toNat = i + m := by omega
    rw [this]
  rw [e]
  have := pick_run xs i k
  rw [List.filterMap_map] at this
  have e2 : ((fun x => xs[x]?) ∘ fun x => i + x) = fun m => xs[i + m]? := rfl
  rw [e2] at this
  rw [this]

theorem getItem_tuple_cut {t sl : Addr} {items : Array Value} {vl vu : Value} {lo hi : Option Int} {Q : Value → Shared → Prop} (ht : IsTup s.heap t items) (hs : s.heap.IsSliceOf sl vl vu .none) (pl : IsPart vl lo) (pu : IsPart vu hi)
    (hw : ¬ (sIx items.size 0 lo = 0 ∧ sIx items.size items.size hi = items.size))
    (h : Q (.ref s.heap.objs.size) { s with heap := s.heap.push { cls := .type "tuple", data := .seq ((items.toList.drop (sIx items.size 0 lo)).take (sIx items.size items.size hi - sIx items.size 0 lo)).toArray } })
    (hsz : items.size ≤ sizeLine) : wpAny (model prog w) A (getItem (.ref t) (.ref sl)) Q E s := by
  have htake : sizeOk (.seq ((items.toList.drop (sIx items.size 0 lo)).take (sIx items.size items.size hi - sIx items.size 0 lo)).toArray) := by
    show ((items.toList.drop (sIx items.size 0 lo)).take (sIx items.size items.size hi - sIx items.size 0 lo)).toArray.size ≤ sizeLine
    rw [List.size_toArray, List.length_take, List.length_drop, Array.length_toList]
    omega
  have hj : sIx items.size items.size hi ≤ items.size := sIx_le _ _ (Nat.le_refl _) hi
  obtain ⟨os, hos, hcs, hds⟩ := id hs
  have hTs : s.TypeIs (.ref sl) "slice" := ⟨os, hos, hcs⟩
  unfold getItem
  try with_reducible refine wpAny_holding ?_
  first | refine wpAny_bind (wpAny_pure ?_) | skip
  refine wpAny_bind (wpAny_sequenceKey ht.typeIs (by decide) ?_)
  refine wpAny_bind (wpAny_callSpecial?_slot (name := Str.ofString "__getitem__") ht.typeIs PyProof.Rows.slot_tuple_getitem
    (wpAny_call_entry PyProof.Rows.slot_tuple_getitem ht.typeIs entry_tuple_getitem ?_ (args_tuple_getitem _ _)))
  show wpAny _ _ (Builtin.Tuple.tupleItemsOf (.ref t) >>= _) _ _ s
  refine wpAny_bind (tupleItemsOf_ ht ?_)
  refine wpAny_bind (wpAny_typeOf hTs ?_)
  rw [if_pos (by decide)]
  refine wpAny_bind (sliceApplied_gen hs pl pu ?_)
  have hno : ¬ ((((sIx items.size 0 lo : Nat) : Int) == 0 && (1 : Int) == 1 && (sIx items.size items.size hi - sIx items.size 0 lo) == items.size) = true) := by
    intro q
    rw [Bool.and_eq_true, Bool.and_eq_true] at q
    have q1 : ((sIx items.size 0 lo : Nat) : Int) = 0 := eq_of_beq q.1.1
    have q2 : sIx items.size items.size hi - sIx items.size 0 lo = items.size := eq_of_beq q.2
    exact hw ⟨by omega, by omega⟩
  show wpAny _ _ (if (((sIx items.size 0 lo : Nat) : Int) == 0 && (1 : Int) == 1 && (sIx items.size items.size hi - sIx items.size 0 lo) == items.size) = true then _ else _) _ _ s
  rw [if_neg hno, pick_gen]
  first
    | exact wpAny_bind (m := Builtin.Tuple.tupleExact _) (wpAny_newObj_type (wpAny_pure ⟨_, rfl, wpAny_pure h⟩) htake)
    | exact wpAny_bind (m := Builtin.Tuple.tupleExact _) (wpAny_newObj_type (wpAny_bind (wpAny_pure (wpAny_pure ⟨_, rfl, wpAny_pure h⟩))) htake)
    | exact wpAny_bind (wpAny_bind (m := Builtin.Tuple.tupleExact _) (wpAny_newObj_type (wpAny_pure (wpAny_pure ⟨_, rfl, wpAny_pure h⟩)) htake))
    | exact wpAny_bind (wpAny_bind (m := Builtin.Tuple.tupleExact _) (wpAny_newObj_type (wpAny_pure ⟨_, rfl, wpAny_pure h⟩) htake))
end
end HT

namespace L2
open PySem PySem.Spec PyProof.Rows

/-! ### the parts of a slice -/
abbrev TO := St → Hp → (Option Int → Hp → Prop) → Prop
/-- a slice's part (left out, or an int) -/
def PO (X : Cx) (e : Option Expr) (t : TO) : Prop :=
  ∀ (pins : List (Addr × Obj)) (s : Shared) (σ : St) (H : Hp) (Q : Option Int → Hp → Prop), Inv X pins σ H s → t σ H Q →
    wpAny (model X.prog X.w) X.A (evalPart e X.env) (fun u s' => ∃ o H', Inv X pins σ H' s' ∧ IsPart u o ∧ Q o H') X.xe s
def tNoPart : TO := fun _ H Q => Q none H
def tPart (t : TE) : TO := fun σ H Q => t σ H fun x H1 => ∃ i, x = .int i ∧ Q (some i) H1

section
variable {X : Cx} {e : Expr} {te : TE} {lo hi : Option Expr} {tl th : TO} {pos p2 : Pos}

theorem po_none : PO X none tNoPart := by
  intro pins s σ H Q I h
  rw [evalPart_none]
  exact wpAny_pure ⟨none, H, I, .none, h⟩
theorem po_some (h : PE X e te) : PO X (some e) (tPart te) := by
  intro pins s σ H Q I hw
  rw [evalPart_some]
  refine thn (h pins s σ H _ I hw) fun u s1 ⟨x, H1, I1, r1, q1⟩ => ?_
  obtain ⟨i, rfl, q⟩ := q1
  obtain ⟨t, rfl⟩ := r1
  exact ⟨some i, H1, I1, .int i t, q⟩

/-- what a slice of a value is, by values: the slice object stands at sl -/
def SlR (X : Cx) (r : V → Option Int → Option Int → Hp → VK → Prop) : Prop :=
  ∀ (pins : List (Addr × Obj)) (s : Shared) (σ : St) (H : Hp) (x : V) (v vl vu : Value) (lo hi : Option Int) (sl : Addr) (Q : VK), Inv X pins σ H s → RelV x v → s.heap.IsSliceOf sl vl vu .none → IsPart vl lo → IsPart vu hi → r x lo hi H Q →
    ∃ T id, typeLookup (.type T) "__getitem__" = pure (some (.builtin id)) ∧ s.TypeIs v T ∧ wpAny (model X.prog X.w) X.A (getItem v (.ref sl)) (EP X pins σ Q) X.xe s
theorem SlR.or {r r' : V → Option Int → Option Int → Hp → VK → Prop} (h : SlR X r) (h' : SlR X r') : SlR X (fun x lo hi H Q => r x lo hi H Q ∨ r' x lo hi H Q) := by
  intro pins s σ H x v vl vu lo hi sl Q I rx hs pl pu q
  rcases q with q | q
  · exact h pins s σ H x v vl vu lo hi sl Q I rx hs pl pu q
  · exact h' pins s σ H x v vl vu lo hi sl Q I rx hs pl pu q
def tSl (r : V → Option Int → Option Int → Hp → VK → Prop) (te : TE) (tl th : TO) : TE := fun σ H Q => te σ H fun x H1 => tl σ H1 fun l H2 => th σ H2 fun u H3 => r x l u H3 Q
/-- a[lo:hi], any a -/
theorem pe_slice {r : V → Option Int → Option Int → Hp → VK → Prop} (hr : SlR X r) (he : PE X e te) (hl : PO X lo tl) (hu : PO X hi th) : PE X (.Subscript e (.Slice lo hi none p2) pos) (tSl r te tl th) := by
  intro pins s σ H Q I h
  refine Subscript_ (thn (he pins s σ H _ I h) fun v s1 ⟨x, H1, I1, r1, q1⟩ => ?_)
  refine wpAny_Slice (thn (hl pins s1 σ H1 _ I1 q1) fun vl s2 ⟨l, H2, I2, pl, q2⟩ => thn (hu pins s2 σ H2 _ I2 q2) fun vu s3 ⟨u, H3, I3, pu, q3⟩ => ?_)
  rw [evalPart_none]
  refine wpAny_pure ?_
  have I4 : Inv X pins σ H3 { s3 with heap := s3.heap.push { cls := .type "slice", data := .fields #[vl, vu, .none] } } := I3.kept (t' := s3.toks) fun b ob q => Heap.get?_push_of_some _ q
  obtain ⟨T, id, hT, ht, hg⟩ := hr pins { s3 with heap := s3.heap.push { cls := .type "slice", data := .fields #[vl, vu, .none] } } σ H3 x v vl vu l u s3.heap.objs.size Q I4 r1 (Heap.IsSliceOf.new ..) pl pu q3
  show wpAny (model X.prog X.w) X.A (subscriptTail e (.Slice lo hi none p2) v (.ref s3.heap.objs.size)) (EP X pins σ Q) X.xe { s3 with heap := s3.heap.push { cls := .type "slice", data := .fields #[vl, vu, .none] } }
  exact tail_any (ops := [.ref s3.heap.objs.size, v]) ht hT hg (by with_unfolding_all rfl)

/-- the items of xs[lo:hi] -/
def cutV (xs : List V) (lo hi : Option Int) : List V := (xs.drop (HT.sIx xs.length 0 lo)).take (HT.sIx xs.length xs.length hi - HT.sIx xs.length 0 lo)
theorem cutV_length (xs : List V) (lo hi : Option Int) : (cutV xs lo hi).length ≤ xs.length := by
  unfold cutV
  rw [List.length_take, List.length_drop]
  omega
/-- t[lo:hi], not the whole of it (the whole would be t itself) -/
def rSlT (K : PySem.W.Frag) : V → Option Int → Option Int → Hp → VK → Prop := fun x lo hi H Q => ∃ a xs, x = .ref a ∧ SqT K H a xs ∧
  ¬ (HT.sIx xs.length 0 lo = 0 ∧ HT.sIx xs.length xs.length hi = xs.length) ∧ ∀ p, H p = none → Q (.ref p) (upd H p (.tup (cutV xs lo hi)))
theorem sl_tup : SlR X (rSlT X.K) := by
  intro pins s σ H x v vl vu lo hi sl Q I rx hs pl pu h
  obtain ⟨a, xs, rfl, hx, hw, q⟩ := h
  cases rx
  obtain ⟨its, r, ht, hz⟩ := I.tuple hx
  have hlen : its.toArray.size = xs.length := by rw [List.size_toArray]; exact r.length.symm
  refine ⟨"tuple", _, PyProof.Rows.slot_tuple_getitem.lookup, ht.typeIs, ?_⟩
  refine HT.getItem_tuple_cut ht hs pl pu (by rw [hlen]; exact hw) ?_ (by rw [hlen]; exact hz)
  rw [hlen]
  refine ⟨.ref s.heap.objs.size, _, I.laid (t' := s.toks) (o := .tup (cutV xs lo hi)) (fun b ob q => Heap.get?_push_of_some _ q) (Nat.le_refl _) ?_, rfl, q _ (I.hok.fresh (Nat.le_refl _))⟩
  exact ⟨Nat.le_trans (cutV_length xs lo hi) hz, _, (r.drop (HT.sIx xs.length 0 lo)).take (HT.sIx xs.length xs.length hi - HT.sIx xs.length 0 lo), IsTup.new _ _⟩

/-! ### t < u, t + u -/
/-- t + u, t not empty: u empty gives t itself -/
def rCatT (K : PySem.W.Frag) : R2 := fun x y H Q => ∃ a b xs ys, x = .ref a ∧ y = .ref b ∧ SqT K H a xs ∧ SqT K H b ys ∧ xs ≠ [] ∧ xs.length + ys.length ≤ sizeLine ∧
  (ys = [] → Q (.ref a) H) ∧ (ys ≠ [] → ∀ p, H p = none → Q (.ref p) (upd H p (.tup (xs ++ ys))))
theorem Vals.nil_iff {xs : List V} {us : List Value} (r : Vals xs us) : us = [] ↔ xs = [] := by
  cases r with
  | nil => simp
  | cons _ _ => simp
theorem op_catT : OpR X (binaryOp .Add) (rCatT X.K) := by
  intro pins s σ H x y v u Q I rx ry h
  obtain ⟨a, b, xs, ys, rfl, rfl, ha, hb, hx, hz, q1, q2⟩ := h
  cases rx
  cases ry
  obtain ⟨its, r1, p1, _⟩ := I.tuple ha
  obtain ⟨its2, r2, p2, _⟩ := I.tuple hb
  refine HT.cat_tup p1 p2 (fun z => hx (r1.nil_iff.mp z)) (fun z => ⟨.ref a, H, I, rfl, q1 (r2.nil_iff.mp z)⟩) (fun z => ?_) (by rw [← r1.length, ← r2.length]; exact hz)
  refine ⟨.ref s.heap.objs.size, _, I.laid (t' := s.toks) (o := .tup (xs ++ ys)) (fun b ob q => Heap.get?_push_of_some _ q) (Nat.le_refl _) ?_, rfl, q2 (fun w => z (r2.nil_iff.mpr w)) _ (I.hok.fresh (Nat.le_refl _))⟩
  exact ⟨by rw [List.length_append]; exact hz, _, r1.append r2, IsTup.new _ _⟩
end
end L2

namespace L2
open PySem PySem.Spec PyProof.Rows

/-! ### places -/
/-- the place that an index of any sign means -/
def ixN (n : Nat) (i : Int) : Option Nat := if 0 ≤ i then (if i < n then some i.toNat else none) else if -(n : Int) ≤ i then some (i + n).toNat else none
def atI {α : Type} (xs : List α) (i : Int) : Option α := (ixN xs.length i).bind fun j => xs[j]?
theorem ixN_seq {n : Nat} {i : Int} {j : Nat} (h : ixN n i = some j) : seqIndex? i n = some j ∧ j < n ∧ -(n : Int) ≤ i ∧ i < n := by
  unfold ixN at h
  by_cases h0 : 0 ≤ i
  · rw [if_pos h0] at h
    by_cases h1 : i < n
    · rw [if_pos h1] at h
      have e : i.toNat = j := Option.some.inj h
      exact ⟨by rw [seqIndex_of h0 h1, e], by omega, by omega, h1⟩
    · rw [if_neg h1] at h; cases h
  · rw [if_neg h0] at h
    by_cases h1 : -(n : Int) ≤ i
    · rw [if_pos h1] at h
      have e : (i + n).toNat = j := Option.some.inj h
      exact ⟨by rw [seqIndex_neg (by omega) h1, e], by omega, h1, by omega⟩
    · rw [if_neg h1] at h; cases h
theorem atI_get {α : Type} {xs : List α} {i : Int} {v : α} (h : atI xs i = some v) : ∃ j, seqIndex? i xs.length = some j ∧ xs[j]? = some v ∧ j < xs.length ∧ -(xs.length : Int) ≤ i ∧ i < xs.length := by
  unfold atI at h
  cases e : ixN xs.length i with
  | none => rw [e] at h; cases h
  | some j =>
    rw [e] at h
    obtain ⟨h1, h2, h3, h4⟩ := ixN_seq e
    exact ⟨j, h1, h, h2, h3, h4⟩
theorem atI_nat {α : Type} {xs : List α} {j : Nat} {v : α} (h : xs[j]? = some v) : atI xs (j : Int) = some v := by
  have hj : j < xs.length := (List.getElem?_eq_some_iff.mp h).1
  have e : ixN xs.length (j : Int) = some j := by
    unfold ixN
    rw [if_pos (by omega), if_pos (by omega)]; simp
  unfold atI; rw [e]; exact h
/-! ### what may be subscripted -/
/-- what stands as an index of a plain subscript -/
def PlainIx (b : Expr) : Prop := ∀ o i, subscripted b false o i = operate [o, i] (getItem o i)
/-- a subscript by values -/
def IxR (X : Cx) (r : R2) : Prop :=
  ∀ (value slice : Expr) (pins : List (Addr × Obj)) (s : Shared) (σ : St) (H : Hp) (x y : V) (v u : Value) (Q : VK), Inv X pins σ H s → RelV x v → RelV y u → r x y H Q →
    subscripted slice false v u = operate [v, u] (getItem v u) → wpAny (model X.prog X.w) X.A (subscriptTail value slice v u) (EP X pins σ Q) X.xe s
/-- a call of a builtin's method by values: the receiver, the arguments -/
def MtR (X : Cx) (id : String) (r : V → List V → Hp → VK → Prop) : Prop :=
  ∀ (pins : List (Addr × Obj)) (s : Shared) (σ : St) (H : Hp) (x : V) (xs : List V) (v : Value) (us : List Value) (Q : VK), Inv X pins σ H s → RelV x v → Vals xs us → r x xs H Q →
    wpAny (model X.prog X.w) X.A (call (.builtin id) (v :: us)) (EP X pins σ Q) X.xe s
section
variable {X : Cx} {a b : Expr} {ta tb : TE} {pos : Pos}
theorem IxR.or {r r' : R2} (h : IxR X r) (h' : IxR X r') : IxR X (fun x y H Q => r x y H Q ∨ r' x y H Q) := by
  intro value slice pins s σ H x y v u Q I rx ry q hs
  rcases q with q | q
  · exact h value slice pins s σ H x y v u Q I rx ry q hs
  · exact h' value slice pins s σ H x y v u Q I rx ry q hs
theorem MtR.or {id : String} {r r' : V → List V → Hp → VK → Prop} (h : MtR X id r) (h' : MtR X id r') : MtR X id (fun x xs H Q => r x xs H Q ∨ r' x xs H Q) := by
  intro pins s σ H x xs v us Q I rx rs q
  rcases q with q | q
  · exact h pins s σ H x xs v us Q I rx rs q
  · exact h' pins s σ H x xs v us Q I rx rs q
/-- a[b] -/
theorem pe_ix {r : R2} (hr : IxR X r) (ha : PE X a ta) (hb : PE X b tb) (hs : PlainIx b) : PE X (.Subscript a b pos) (tOp r ta tb) := by
  intro pins s σ H Q I h
  exact Subscript_ (binT ha hb I h fun v u s2 x y H2 I2 rx ry q => hr a b pins s2 σ H2 x y v u Q I2 rx ry q (hs _ _))

def rIxL (K : PySem.W.Frag) : R2 := fun x y H Q => ∃ p xs i v, x = .ref p ∧ y = .int i ∧ SqL K H p xs ∧ atI xs i = some v ∧ Q v H
def rIxT (K : PySem.W.Frag) : R2 := fun x y H Q => ∃ p xs i v, x = .ref p ∧ y = .int i ∧ SqT K H p xs ∧ atI xs i = some v ∧ Q v H
def rIxS : R2 := fun x y H Q => ∃ z i c, x = .str z ∧ y = .int i ∧ z.length ≤ sizeLine ∧ atI z.cps.toList i = some c ∧ Q (.str ⟨#[c]⟩) H
theorem ix_list : IxR X (rIxL X.K) := by
  intro value slice pins s σ H x y v u Q I rx ry h hs
  obtain ⟨p, xs, i, z, rfl, rfl, hq, he, q⟩ := h
  cases rx
  obtain ⟨t, rfl⟩ := ry
  obtain ⟨its, r, pl, hz⟩ := I.list hq
  obtain ⟨j, h1, h2, h3, h4, h5⟩ := atI_get he
  obtain ⟨w, ew, rw'⟩ := r.get h2
  have hl := r.length
  have hn := line63
  have fin : EP X pins σ Q w s := ⟨z, H, I, rw', q⟩
  by_cases h0 : 0 ≤ i
  · have hj : i.toNat = j := by
      rw [seqIndex_of h0 h5] at h1
      exact Option.some.inj h1
    exact item_listR pl.isList h0 (by omega) (by rw [hj]; simpa using ew) fin hs
  · have hj : (i + (its.toArray.size : Int)).toNat = j := by
      rw [seqIndex_neg (by omega) h4] at h1
      rw [List.size_toArray, ← hl]
      exact Option.some.inj h1
    exact subscriptTail_builtinR (x := w) pl.isList.typeIs slot_list_getitem.lookup
      (wpAny_getItem_list_neg (Q := fun r s' => r = w ∧ EP X pins σ Q r s') pl.isList (by omega) (by rw [List.size_toArray] <;> omega) (by omega) (by rw [hj]; simpa using ew) ⟨rfl, fin⟩) hs
theorem ix_tup : IxR X (rIxT X.K) := by
  intro value slice pins s σ H x y v u Q I rx ry h hs
  obtain ⟨p, xs, i, z, rfl, rfl, hq, he, q⟩ := h
  cases rx
  obtain ⟨t, rfl⟩ := ry
  obtain ⟨its, r, pl, hz⟩ := I.tuple hq
  obtain ⟨j, h1, h2, h3, h4, h5⟩ := atI_get he
  obtain ⟨w, ew, rw'⟩ := r.get h2
  have hl := r.length
  have hn := line63
  have fin : EP X pins σ Q w s := ⟨z, H, I, rw', q⟩
  exact subscriptTail_builtinR (x := w) pl.typeIs slot_tuple_getitem.lookup
    (getItem_tuple (j := j) (Q := fun r s' => r = w ∧ EP X pins σ Q r s') pl (by omega) (by omega) (by rw [List.size_toArray, ← hl]; exact h1) (by simpa using ew) ⟨rfl, fin⟩) hs
theorem ix_str : IxR X rIxS := by
  intro value slice pins s σ H x y v u Q I rx ry h hs
  obtain ⟨z, i, c, rfl, rfl, hz, he, q⟩ := h
  obtain ⟨t, rfl⟩ := rx
  obtain ⟨t', rfl⟩ := ry
  obtain ⟨j, h1, h2, h3, h4, h5⟩ := atI_get he
  have hl : z.cps.toList.length = z.length := by simp [Str.length]
  rw [hl] at h1 h4 h5
  have hn := line63
  exact tail_any (typeIs_str s z t) slot_str_getitem.lookup (getItem_str (c := c) (by
    have e1 : decide (i < -(2 ^ 63 : Int)) = false := decide_eq_false (by omega)
    have e2 : decide (i ≥ 2 ^ 63) = false := decide_eq_false (by omega)
    rw [e1, e2, Bool.or_false]) (by rw [h1]; simpa using h2) ⟨.str ⟨#[c]⟩, H, I.tok _, ⟨_, rfl⟩, q⟩) hs
/-- list, tuple or str -/
def rIx (K : PySem.W.Frag) : R2 := fun x y H Q => rIxL K x y H Q ∨ rIxT K x y H Q ∨ rIxS x y H Q
theorem ix_seq : IxR X (rIx X.K) := ix_list.or (ix_tup.or ix_str)

/-! ### xs[i] = v, any sign -/
/-- the list's object behind a store -/
theorem mapSeq_set (its : List Value) (n j : Nat) (u : Value) : Obj.mapSeq (·.setIfInBounds j u) { cls := .type "list", data := .seq its.toArray n } = { cls := .type "list", data := .seq (its.set j u).toArray n } := by
  simp [Obj.mapSeq]
theorem Inv.lst {pins : List (Addr × Obj)} {σ : St} {H : Hp} {s : Shared} {p : Addr} {xs : List V} (I : Inv X pins σ H s) (h : H p = some (.lst xs)) :
    ∃ (its : List Value) (n : Nat), Vals xs its ∧ s.heap.get? p = some { cls := .type "list", data := .seq its.toArray n } ∧ xs.length ≤ sizeLine := by
  obtain ⟨z, its, n, r, e⟩ := I.hok p _ h
  exact ⟨its, n, r, e, z⟩
/-- the list at p is written by an update of its object -/
theorem Inv.lstUpd {pins : List (Addr × Obj)} {σ : St} {H : Hp} {s : Shared} {p : Addr} {xs ys : List V} {its its' : List Value} {n n' : Nat} {f : Obj → Obj} (I : Inv X pins σ H s) (h : H p = some (.lst xs))
    (ho : s.heap.get? p = some { cls := .type "list", data := .seq its.toArray n }) (hf : f { cls := .type "list", data := .seq its.toArray n } = { cls := .type "list", data := .seq its'.toArray n' }) (r : Vals ys its') (hz : ys.length ≤ sizeLine) (t : Nat) :
    Inv X pins σ (upd H p (.lst ys)) { s with heap := s.heap.update p f, toks := t } := by
  have e : (s.heap.update p f).get? p = some { cls := .type "list", data := .seq its'.toArray n' } := by
    rw [Heap.get?_update_self f ho (by rw [hf] <;> rfl), hf]
  refine I.write (x := p) (e := p) (by rw [h]; trivial) (.inl rfl) (fun b u hb q => (Heap.get?_update_other _ _ (Ne.symm hb)).trans q) ⟨_, e⟩ ?_
  exact ⟨hz, its', n', r, e⟩
def rSetL : V → V → V → Hp → (Hp → Prop) → Prop := fun o i v H Q => ∃ p xs k j, o = .ref p ∧ i = .int k ∧ H p = some (.lst xs) ∧ ixN xs.length k = some j ∧ Q (upd H p (.lst (xs.set j v)))
theorem set_list : PSet X rSetL := by
  intro pins s σ H o i v ov iv u Q I ro ri rv h
  obtain ⟨p, xs, k, j, rfl, rfl, hp, hj, q⟩ := h
  cases ro
  obtain ⟨t, rfl⟩ := ri
  obtain ⟨its, n, r, ho, hz⟩ := I.lst hp
  obtain ⟨h1, h2, h3, h4⟩ := ixN_seq hj
  have hl := r.length
  have hn := line63
  have I' : Inv X pins σ (upd H p (.lst (xs.set j v))) { s with heap := s.heap.update p (Obj.mapSeq (·.setIfInBounds j u)) } :=
    I.lstUpd hp ho (mapSeq_set its n j u) (r.set rv j) (by rw [List.length_set]; exact hz) s.toks
  by_cases h0 : 0 ≤ k
  · have hk : k.toNat = j := by
      rw [seqIndex_of h0 h4] at h1
      exact Option.some.inj h1
    exact PySem.W.ki_setAt ho h0 (by omega) (by rw [List.size_toArray, ← hl]; exact h4) (by rw [hk]; exact ⟨_, I', q⟩)
  · have hk : (k + (its.toArray.size : Int)).toNat = j := by
      rw [seqIndex_neg (by omega) h3] at h1
      rw [List.size_toArray, ← hl]
      exact Option.some.inj h1
    exact PySem.W.ki_setBack ho (by omega) (by rw [List.size_toArray, ← hl]; exact h3) (by omega) (by rw [hk]; exact ⟨_, I', q⟩)

/-! ### slices -/
theorem slice_bounds (lo hi : Option Int) (n : Nat) : (sliceBounds lo hi none n).1 = ((HT.sIx n 0 lo : Nat) : Int) ∧ (sliceBounds lo hi none n).2.1 = ((HT.sIx n n hi : Nat) : Int) ∧ (sliceBounds lo hi none n).2.2 = 1 := by
  refine ⟨?_, ?_, rfl⟩
  · cases lo with
    | none => simp [sliceBounds, HT.sIx]
    | some i =>
      simp only [sliceBounds, HT.sIx, Option.getD_none, show (1 : Int) > 0 by decide, if_true]
      by_cases h : i < 0
      · simp only [h, if_true] <;> omega
      · simp only [h, if_false] <;> omega
  · cases hi with
    | none => simp [sliceBounds, HT.sIx]
    | some i =>
      simp only [sliceBounds, HT.sIx, Option.getD_none, show (1 : Int) > 0 by decide, if_true]
      by_cases h : i < 0
      · simp only [h, if_true] <;> omega
      · simp only [h, if_false] <;> omega
theorem slicePick_cut (its : List Value) (lo hi : Option Int) : slicePick its.toArray lo hi none = ((its.drop (HT.sIx its.length 0 lo)).take (HT.sIx its.length its.length hi - HT.sIx its.length 0 lo)).toArray := by
  obtain ⟨h1, h2, h3⟩ := slice_bounds lo hi its.toArray.size
  unfold slicePick
  rw [h1, h2, h3]
  simp only [sliceRange_one, pick_run, List.size_toArray] <;> rfl
/-- xs[lo:hi] of a list: a new list -/
def rSlL (K : PySem.W.Frag) : V → Option Int → Option Int → Hp → VK → Prop := fun x lo hi H Q => ∃ a xs, x = .ref a ∧ SqL K H a xs ∧ ∀ p, H p = none → Q (.ref p) (upd H p (.lst (cutV xs lo hi)))
theorem sl_list : SlR X (rSlL X.K) := by
  intro pins s σ H x v vl vu lo hi sl Q I rx hs pl pu h
  obtain ⟨a, xs, rfl, hx, q⟩ := h
  cases rx
  obtain ⟨its, r, ht, hz⟩ := I.list hx
  have hlen := r.length
  refine ⟨"list", _, slot_list_getitem.lookup, ht.isList.typeIs, ?_⟩
  refine wpAny_getItem_list_slice ht.isList hs pl pu .none (by simp) ?_ (by rw [List.size_toArray] <;> omega)
  rw [slicePick_cut, ← hlen]
  refine ⟨.ref s.heap.objs.size, _, I.laid (t' := s.toks) (o := .lst (cutV xs lo hi)) (fun b ob q => Heap.get?_push_of_some _ q) (Nat.le_refl _) ?_, rfl, q _ (I.hok.fresh (Nat.le_refl _))⟩
  exact ⟨Nat.le_trans (cutV_length xs lo hi) hz, _, 0, (r.drop (HT.sIx xs.length 0 lo)).take (HT.sIx xs.length xs.length hi - HT.sIx xs.length 0 lo), Heap.get?_push_size _ rfl⟩

/-! ### in, not in: flat items -/
def flatV : V → Bool
  | .non => true
  | .bl _ => true
  | .int _ => true
  | .str _ => true
  | _ => false
/-- == of flat values -/
def eqV : V → V → Bool
  | .non, .non => true
  | .bl a, .bl b => a == b
  | .bl a, .int b => (if a then 1 else 0) == b
  | .int a, .bl b => a == (if b then 1 else 0)
  | .int a, .int b => a == b
  | .str a, .str b => a == b
  | _, _ => false
theorem eqAt_V {A : Around} {s : Shared} {y x : V} {u v : Value} (ry : RelV y u) (rx : RelV x v) (fy : flatV y = true) (fx : flatV x = true) : SeqAt.EqAt A s u v (eqV y x) := by
  cases y with
  | non =>
    cases ry
    cases x with
    | non => cases rx; exact SeqAt.EqAt.same _
    | bl b => cases rx; exact SeqAt.EqAt.none_bool b
    | int b => obtain ⟨t, rfl⟩ := rx; exact SeqAt.EqAt.none_int b t
    | str b => obtain ⟨t, rfl⟩ := rx; exact SeqAt.EqAt.none_str b t
    | _ => exact absurd (show false = true from fx) Bool.false_ne_true
  | bl a =>
    cases ry
    cases x with
    | non => cases rx; exact SeqAt.EqAt.bool_none a
    | bl b => cases rx; exact SeqAt.EqAt.bool_bool a b
    | int b => obtain ⟨t, rfl⟩ := rx; exact SeqAt.EqAt.bool_int a b t
    | str b => obtain ⟨t, rfl⟩ := rx; exact SeqAt.EqAt.bool_str a b t
    | _ => exact absurd (show false = true from fx) Bool.false_ne_true
  | int a =>
    obtain ⟨t', rfl⟩ := ry
    cases x with
    | non => cases rx; exact SeqAt.EqAt.int_none a t'
    | bl b => cases rx; exact SeqAt.EqAt.int_bool a t' b
    | int b => obtain ⟨t, rfl⟩ := rx; exact SeqAt.EqAt.int_int a t' b t
    | str b => obtain ⟨t, rfl⟩ := rx; exact SeqAt.EqAt.int_str a t' b t
    | _ => exact absurd (show false = true from fx) Bool.false_ne_true
  | str a =>
    obtain ⟨t', rfl⟩ := ry
    cases x with
    | non => cases rx; exact SeqAt.EqAt.str_none a t'
    | bl b => cases rx; exact SeqAt.EqAt.str_bool a t' b
    | int b => obtain ⟨t, rfl⟩ := rx; exact SeqAt.EqAt.str_int a t' b t
    | str b => obtain ⟨t, rfl⟩ := rx; exact SeqAt.EqAt.str_str a t' b t
    | _ => exact absurd (show false = true from fx) Bool.false_ne_true
  | _ => exact absurd (show false = true from fy) Bool.false_ne_true
/-- the items' answers, read off the values (a value's own answer does not lean on its token) -/
def eqU (x : V) (u : Value) : Bool := match u with
  | .none => eqV .non x
  | .bool b => eqV (.bl b) x
  | .int i _ => eqV (.int i) x
  | .str z _ => eqV (.str z) x
  | _ => false
theorem eqU_of {x y : V} {u : Value} (r : RelV y u) (f : flatV y = true) : eqU x u = eqV y x := by
  cases y with
  | non => cases r; rfl
  | bl b => cases r; rfl
  | int i => obtain ⟨t, rfl⟩ := r; rfl
  | str z => obtain ⟨t, rfl⟩ := r; rfl
  | _ => exact absurd (show false = true from f) Bool.false_ne_true
theorem mem_eqAt {A : Around} {s : Shared} {x : V} {v : Value} (rx : RelV x v) (fx : flatV x = true) : ∀ {xs : List V} {us : List Value}, Vals xs us → xs.all flatV = true → ∀ u ∈ us, SeqAt.EqAt A s u v (eqU x u)
  | _, _, .nil, _ => fun u hu => by cases hu
  | y :: xs, u :: us, .cons r t, f => fun u' hu => by
    rw [List.all_cons, Bool.and_eq_true] at f
    rcases List.mem_cons.mp hu with rfl | hu
    · rw [eqU_of r f.1]; exact eqAt_V r rx f.1 fx
    · exact mem_eqAt rx fx t f.2 u' hu
/-! ### len, list(x), tuple(x) of any list or tuple that is read -/
theorem call_len_seq : CallR X (.builtin "len") (fun xs H Q => ∃ p ys, xs = [.ref p] ∧ (SqL X.K H p ys ∨ SqT X.K H p ys) ∧ Q (.int ys.length) H) := by
  intro pins s σ H xs us Q I r h
  obtain ⟨p, ys, rfl, hq, q⟩ := h
  obtain ⟨u, rfl, rx⟩ := vals1 r
  cases rx
  have hn := line63
  rcases hq with hq | hq
  · obtain ⟨its, r', pl, hz⟩ := I.list hq
    have hlen := r'.length
    exact Calls.call_len_list pl.isList (by simp only [List.size_toArray] <;> omega) ⟨.int ys.length, H, I.tok _, ⟨s.toks + 1, by rw [List.size_toArray, hlen]⟩, q⟩
  · obtain ⟨its, r', pl, hz⟩ := I.tuple hq
    have hlen := r'.length
    exact len_tuple pl (by simp only [List.size_toArray] <;> omega) ⟨.int ys.length, H, I.tok _, ⟨s.toks + 1, by rw [List.size_toArray, hlen]⟩, q⟩
theorem CallR.or {f : Value} {r r' : List V → Hp → VK → Prop} (h : CallR X f r) (h' : CallR X f r') : CallR X f (fun xs H Q => r xs H Q ∨ r' xs H Q) := by
  intro pins s σ H xs us Q I rs q
  rcases q with q | q
  · exact h pins s σ H xs us Q I rs q
  · exact h' pins s σ H xs us Q I rs q
theorem call_tuple_of : CallR X (.type "tuple") (fun xs H Q => ∃ p ys, xs = [.ref p] ∧ ((SqL X.K H p ys ∧ ∀ l, H l = none → Q (.ref l) (upd H l (.tup ys))) ∨ (SqT X.K H p ys ∧ Q (.ref p) H))) := by
  intro pins s σ H xs us Q I r h
  obtain ⟨p, ys, rfl, h⟩ := h
  obtain ⟨u, rfl, rx⟩ := vals1 r
  cases rx
  rcases h with ⟨hq, q⟩ | ⟨hq, q⟩
  · obtain ⟨its, r', pl, hz⟩ := I.list hq
    have hlen := r'.length
    refine call_tuple_list pl.isList (fun h' kp => ?_) (by simp only [List.size_toArray] <;> omega)
    have I1 : Inv X pins σ H { s with heap := h' } := I.kept (t' := s.toks) kp
    have I2 : Inv X pins σ (upd H h'.objs.size (.tup ys)) { s with heap := h'.push { cls := .type "tuple", data := .seq its.toArray } } :=
      I1.laid (t' := s.toks) (fun b o e => Heap.get?_push_of_some _ e) (Nat.le_refl _) (show ObjOk X.prog X.w _ _ _ (.tup ys) from ⟨hz, its, r', IsTup.new _ _⟩)
    exact ⟨.ref h'.objs.size, _, I2, rfl, q _ (I1.hok.fresh (Nat.le_refl _))⟩
  · obtain ⟨its, r', pl, hz⟩ := I.tuple hq
    exact call_tuple_same pl ⟨.ref p, H, I, rfl, q⟩

/-! ### the call of a builtin's method: o.m(..) -/
/-- the value is of that builtin type -/
def tyV (K : PySem.W.Frag) (T : String) (x : V) (H : Hp) : Prop := match x with
  | .str _ => T = "str"
  | .int _ => T = "int"
  | .ref p => (T = "list" ∧ ∃ xs, SqL K H p xs) ∨ (T = "tuple" ∧ ∃ o, K.lookup p = some o ∧ o.cls = .type "tuple" ∧ o.dict = none) ∨
      (T = "dict" ∧ ((∃ kvs, H p = some (.dK kvs)) ∨ ∃ kvs, H p = some (.dT kvs))) ∨ (T = "set" ∧ ∃ S n, H p = some (.set S n))
  | _ => False
theorem tyV_is {pins : List (Addr × Obj)} {σ : St} {H : Hp} {s : Shared} {T : String} {x : V} {v : Value} (I : Inv X pins σ H s) (r : RelV x v) (ty : tyV X.K T x H) :
    s.TypeIs v T ∧ ∀ a, v = .ref a → ∃ ob, s.heap.get? a = some ob ∧ ob.dict = none := by
  cases x with
  | str z =>
    obtain ⟨t, rfl⟩ := r
    cases (show T = "str" from ty)
    exact ⟨typeIs_str s z t, fun _ e => nomatch e⟩
  | int i =>
    obtain ⟨t, rfl⟩ := r
    cases (show T = "int" from ty)
    exact ⟨typeIs_int s i t, fun _ e => nomatch e⟩
  | ref p =>
    cases r
    rcases ty with ⟨rfl, xs, hq⟩ | ⟨rfl, o, hk, hc, hd⟩ | ⟨rfl, hk⟩ | ⟨rfl, S, n, hk⟩
    · obtain ⟨its, _, pl, _⟩ := I.list hq
      refine ⟨pl.isList.typeIs, fun a e => ?_⟩
      cases e
      obtain ⟨o, n, e, c, hd, _⟩ := pl
      exact ⟨o, e, hd⟩
    · refine ⟨⟨o, I.kIn p o hk, hc⟩, fun a e => ?_⟩
      cases e
      exact ⟨o, I.kIn _ o hk, hd⟩
    · have z : ∃ o, s.heap.get? p = some o ∧ o.ExactDict := by
        rcases hk with ⟨kvs, hk⟩ | ⟨kvs, hk⟩
        · obtain ⟨_, _, _, _, o, _, _, e, ex, _⟩ := I.hok p _ hk
          exact ⟨o, e, ex⟩
        · obtain ⟨_, _, _, _, o, _, _, e, ex, _⟩ := I.hok p _ hk
          exact ⟨o, e, ex⟩
      obtain ⟨o, e, ex⟩ := z
      refine ⟨⟨o, e, ex.1⟩, fun a e2 => ?_⟩
      cases e2
      exact ⟨o, e, ex.2.1⟩
    · obtain ⟨o, _, _, _, e, ex, _⟩ := I.hok p _ hk
      refine ⟨⟨o, e, ex.1⟩, fun a e2 => ?_⟩
      cases e2
      exact ⟨o, e, ex.2.1⟩
  | _ => exact False.elim ty
def tBM (K : PySem.W.Frag) (T : String) (r : V → List V → Hp → VK → Prop) (to : TE) (t : TA) : TE := fun σ H Q => to σ H fun x H1 => tyV K T x H1 ∧ t σ H1 fun xs H2 => r x xs H2 Q
variable {o e : Expr} {es : List Expr} {to : TE} {t : TA} {name : Str} {apos cpos : Pos} {T id : String} {r : V → List V → Hp → VK → Prop}
theorem pe_bm (pa : PlainAttrs T) (slot : Slot T name id) (hty : typeOf (.builtin id) = pure (.type "method_descriptor")) (hm : MtR X id r) (ho : PE X o to) (ha : PA X (e :: es) t)
    (hbase : attributeBase o name X.env (eval o X.env) = eval o X.env := by rfl)
    (hfew : ((backTo cpos (starEach (e :: es) X.env)).all (fun x => !x.1) && (backToKw cpos (keywordEach [] X.env)).all (fun x => x.1.isSome)
      && decide ((e :: es).length + ([] : List Keyword).length + (if ([] : List Keyword).isEmpty then 0 else 1) < 30)) = true := by rfl)
    (hline : (apos.endLine == cpos.line) = true := by rfl) (hs : starEach (e :: es) X.env = (false, eval e X.env) :: starEach es X.env := by rfl) (hplain : (backTo cpos (starEach es X.env)).any (·.1) = false := by rfl) :
    PE X (.Call (.Attribute o name apos) (e :: es) [] cpos) (tBM X.K T r to t) := by
  intro pins s σ H Q I h
  refine wpAny_Call_method_late hbase hfew hline rfl (thn (ho pins s σ H _ I h) fun v s1 ⟨x, H1, I1, r1, ty, q1⟩ => ?_)
  obtain ⟨h1, h2⟩ := tyV_is I1 r1 ty
  refine ⟨T, id, pa, slot, hty, h1, h2, ?_⟩
  have hA := ha cpos pins s1 σ H1 _ I1 q1
  rw [hs] at hA ⊢
  refine Calls.callWith_builtin (by show (false || (backTo cpos (starEach es X.env)).any (·.1)) = false; rw [hplain] <;> rfl) (Calls.evalArgs_plain ?_)
  exact thn hA fun us s2 ⟨vs, H2, I2, r2, q2⟩ => hm pins s2 σ H2 x vs v us Q I2 r1 r2 q2
/- xs.append(e), list.index on a module's tuple .. are MtR facts of 06m -/
end
end L2

namespace L2
open PySem PySem.Spec PyProof.Rows

def MtM (X : Cx) (id : String) (r : V → List V → Hp → VK → Prop) : Prop :=
  ∀ (pins : List (Addr × Obj)) (s : Shared) (σ : St) (H : Hp) (x : V) (xs : List V) (v : Value) (us : List Value) (Q : VK), Inv X pins σ H s → RelV x v → Vals xs us → r x xs H Q →
    wpAny (model X.prog X.w) X.A (call (.builtin id) (v :: us)) (EP X pins σ Q) X.xe s

/-! ### lists of values -/
theorem Vals.one : ∀ {x : V} {us : List Value}, Vals [x] us → ∃ u, us = [u] ∧ RelV x u
  | _, _, .cons r .nil => ⟨_, rfl, r⟩
theorem Vals.two : ∀ {x y : V} {us : List Value}, Vals [x, y] us → ∃ u v, us = [u, v] ∧ RelV x u ∧ RelV y v
  | _, _, _, .cons r (.cons q .nil) => ⟨_, _, rfl, r, q⟩
theorem Vals.zero : ∀ {us : List Value}, Vals [] us → us = []
  | _, .nil => rfl
theorem Vals.dropLast {xs : List V} {us : List Value} (h : Vals xs us) : Vals xs.dropLast us.dropLast := by
  induction h with
  | nil => exact .nil
  | cons r t ih =>
    cases t with
    | nil => exact .nil
    | cons q t' => exact .cons r ih
theorem Vals.reverse {xs : List V} {us : List Value} (h : Vals xs us) : Vals xs.reverse us.reverse := by
  induction h with
  | nil => exact .nil
  | cons r t ih => rw [List.reverse_cons, List.reverse_cons]; exact Vals.append ih (.cons r .nil)
section
variable {X : Cx} {pins : List (Addr × Obj)} {σ : St} {H : Hp} {s : Shared} {l b : Addr} {xs ys zs : List V}

/-! ### the two steps: a tracked list is rewritten, a new list is laid -/
theorem Inv.lset {its its' : List Value} {n : Nat} {f : Array Value → Array Value} {t' : Nat} (I : Inv X pins σ H s) (hH : H l = some (.lst xs))
    (e : s.heap.get? l = some { cls := .type "list", data := .seq its.toArray n }) (hf : f its.toArray = its'.toArray) (hv : Vals ys its') (hz : ys.length ≤ sizeLine) :
    Inv X pins σ (upd H l (.lst ys)) { s with heap := s.heap.update l (Obj.mapSeq f), toks := t' } := by
  have q := PySem.IsL.update e f
  rw [hf] at q
  refine I.write (x := l) (e := l) (by rw [hH]; exact trivial) (.inl rfl) (fun b' u hb hu => (Heap.get?_update_other s.heap (Obj.mapSeq f) (Ne.symm hb)).trans hu) ⟨_, q⟩ ?_
  exact ⟨hz, its', _, hv, q⟩
theorem Inv.lnew {its : List Value} {t' : Nat} (I : Inv X pins σ H s) (hv : Vals ys its) (hz : ys.length ≤ sizeLine) :
    Inv X pins σ (upd H s.heap.objs.size (.lst ys)) { s with heap := s.heap.push { cls := .type "list", data := .seq its.toArray }, toks := t' } :=
  I.laid (fun _ _ q => Heap.get?_push_of_some _ q) (Nat.le_refl _) ⟨hz, its, 0, hv, Heap.get?_push_size _ rfl⟩
theorem Inv.fresh (I : Inv X pins σ H s) : H s.heap.objs.size = none := I.hok.fresh (Nat.le_refl _)
theorem Inv.lstM (I : Inv X pins σ H s) (hH : H l = some (.lst xs)) : xs.length ≤ sizeLine ∧ ∃ (its : List Value) (n : Nat), Vals xs its ∧ xs.length = its.length ∧ s.heap.get? l = some { cls := .type "list", data := .seq its.toArray n } := by
  obtain ⟨z, its, n, r, e⟩ := I.hok l _ hH
  exact ⟨z, its, n, r, r.length, e⟩

theorem notLongL {n : Nat} (h : n ≤ sizeLine) : Builtin.List.listTooLong n = false := by
  unfold Builtin.List.listTooLong
  exact decide_eq_false (by omega)
end

section
variable {X : Cx}

/-! ### methods -/
def rAppend : V → List V → Hp → VK → Prop := fun x vs H Q => ∃ l xs y, x = .ref l ∧ vs = [y] ∧ H l = some (.lst xs) ∧ xs.length < sizeLine ∧ Q .non (upd H l (.lst (xs ++ [y])))
theorem mt_append : MtM X "list.append" rAppend := by
  intro pins s σ H x vs v us Q I rx rv h
  obtain ⟨l, xs, y, rfl, rfl, hH, hz, q⟩ := h
  cases rx
  obtain ⟨u, rfl, ru⟩ := rv.one
  obtain ⟨z, its, n, r, hl, e⟩ := I.lstM hH
  refine call_meets F.slot_list_append ⟨_, e, rfl⟩ F.entry_list_append (F.args_list_append_2 _ _) (PySem.list_append l its.toArray n u (by rw [List.size_toArray]; omega)) ⟨e, ?_⟩
  refine ⟨.non, _, I.lset (its' := its ++ [u]) hH e (by simp) (r.append (.cons ru .nil)) ?_, rfl, q⟩
  rw [List.length_append, List.length_singleton]
  omega

def rExtend : V → List V → Hp → VK → Prop := fun x vs H Q => ∃ l b xs zs, x = .ref l ∧ vs = [.ref b] ∧ H l = some (.lst xs) ∧ H b = some (.lst zs) ∧ xs.length + zs.length ≤ sizeLine ∧ Q .non (upd H l (.lst (xs ++ zs)))
theorem mt_extend : MtM X "list.extend" rExtend := by
  intro pins s σ H x vs v us Q I rx rv h
  obtain ⟨l, b, xs, zs, rfl, rfl, hH, hB, hz, q⟩ := h
  cases rx
  obtain ⟨u, rfl, ru⟩ := rv.one
  cases ru
  obtain ⟨z, its, n, r, hl, e⟩ := I.lstM hH
  obtain ⟨z2, its2, n2, r2, hl2, e2⟩ := I.lstM hB
  have hsz : its.toArray.size + its2.toArray.size ≤ sizeLine := by rw [List.size_toArray, List.size_toArray]; omega
  have hlong : ¬ (!its.toArray.isEmpty && Builtin.List.listTooLong (its.toArray.size + its2.toArray.size)) = true := by
    rw [notLongL hsz, Bool.and_false]
    exact Bool.false_ne_true
  refine call_meets F.slot_list_extend ⟨_, e, rfl⟩ F.entry_list_extend (F.args_list_extend_2 _ _)
    (AutoSeq1.list_extend_list_list_0 l its.toArray n b its2.toArray n2 hlong (by rw [List.size_toArray]; omega) (by omega)) ⟨e, e2, ?_⟩
  refine ⟨.non, _, I.lset (its' := its ++ its2) hH e (by simp) (r.append r2) ?_, rfl, q⟩
  rw [List.length_append]
  omega

/-! ### list + list, list += list, list * int -/
def rCat : R2 := fun x y H Q => ∃ l b xs zs, x = .ref l ∧ y = .ref b ∧ H l = some (.lst xs) ∧ H b = some (.lst zs) ∧ xs.length + zs.length ≤ sizeLine ∧ ∀ p, H p = none → Q (.ref p) (upd H p (.lst (xs ++ zs)))
theorem op_cat : OpR X (binaryOp .Add) rCat := by
  intro pins s σ H x y v u Q I rx ry h
  obtain ⟨l, b, xs, zs, rfl, rfl, hH, hB, hz, q⟩ := h
  cases rx
  cases ry
  obtain ⟨z, its, n, r, hl, e⟩ := I.lstM hH
  obtain ⟨z2, its2, n2, r2, hl2, e2⟩ := I.lstM hB
  refine PySem.P.add_list e e2 ?_ (by rw [List.size_toArray, List.size_toArray]; omega)
  have ea : its.toArray ++ its2.toArray = (its ++ its2).toArray := by simp
  rw [ea]
  exact ⟨.ref _, _, I.lnew (t' := s.toks) (r.append r2) (by rw [List.length_append]; omega), rfl, q _ I.fresh⟩
/-! ### del xs[i] -/
end

/-! ### xs[a:b] = ys -/
section
variable {prog : Program} {w : World} {A : Around} {E : Value → Shared → Prop} {s : Shared}
end

section
variable {X : Cx}
end
end L2

namespace L2
open PySem PySem.Spec PyProof.Rows

theorem Vals.ints : ∀ {ns : List Int} {us : List Value}, Vals (ns.map V.int) us → IntsAre us ns
  | [], us, h => by
    rw [List.map_nil] at h
    cases h
    exact IntsAre.nil
  | n :: ns, us, h => by
    rw [List.map_cons] at h
    cases h with
    | cons r t =>
      obtain ⟨k, rfl⟩ := r
      exact IntsAre.cons n k (Vals.ints t)
theorem Vals.strs : ∀ {xs : List Str} {us : List Value}, Vals (xs.map V.str) us → StrsAre us xs
  | [], us, h => by
    rw [List.map_nil] at h
    cases h
    exact StrsAre.nil
  | x :: xs, us, h => by
    rw [List.map_cons] at h
    cases h with
    | cons r t =>
      obtain ⟨k, rfl⟩ := r
      exact StrsAre.cons x k (Vals.strs t)
theorem Vals.ref1 {a : Addr} {us : List Value} (r : Vals [V.ref a] us) : us = [Value.ref a] := by
  cases r with
  | cons r t =>
    cases t
    cases r
    rfl
/-! ### the library's walks over a list of ints, kept objects alone -/
section
variable {prog : Program} {w : World} {A : Around} {E : Value → Shared → Prop} {s : Shared} {l : Addr} {its : List Value} {ns : List Int} {Q : Value → Shared → Prop}
theorem sum_raw (hh : A.handled = none) (hl : s.heap.IsList l its.toArray) (hi : IntsAre its ns)
    (h : ∀ h' tk t', (∀ b o, s.heap.get? b = some o → h'.get? b = some o) → Q (.int ns.sum t') { s with heap := h', toks := tk }) : wpAny (model prog w) A (call (.builtin "sum") [.ref l]) Q E s := by
  obtain ⟨xs, e⟩ := hi.allInts.items
  have hn : numsOf (intItems xs).toList = ns := by rw [← e]; exact hi.numsOf
  rw [nums_intItems] at hn
  rw [e] at hl
  refine PySem.sum_intListG hh hl fun h' tk t' hk => ?_
  have := h h' tk t' hk
  rw [preSum_eq, List.take_of_length_le (by simp), hn]; exact this
end

/-! ### the calls, by values (CallR of 03t; MtR of 06l) -/
section
variable {X : Cx}
/-- sum(xs) of a list of ints -/
def rSum (K : PySem.W.Frag) : List V → Hp → VK → Prop := fun vs H Q => ∃ (a : Addr) (ns : List Int), vs = [V.ref a] ∧ SqL K H a (ns.map V.int) ∧ Q (.int ns.sum) H
theorem cr_sum (hc : X.calm = true) : CallR X (.builtin "sum") (rSum X.K) := by
  intro pins s σ H vs us Q I r h
  obtain ⟨a, ns, rfl, hs, q⟩ := h
  obtain ⟨its, rv, hl, _⟩ := I.list hs
  rw [Vals.ref1 r]
  exact sum_raw (I.ok.hd hc) hl.isList rv.ints fun h' tk t' hk => ⟨.int _, H, I.kept hk, ⟨_, rfl⟩, q⟩
/-! sorted, sort (fewer than 64 items: the library's own bound) -/
end

/-! ### list.index, flat items -/
section
variable {X : Cx}
def rIndex (K : PySem.W.Frag) : V → List V → Hp → VK → Prop := fun x xs H Q => ∃ (a : Addr) (ys : List V) (y : V) (j : Nat) (z : V), x = V.ref a ∧ xs = [y] ∧ SqL K H a ys ∧ flatV y = true ∧ ys.all flatV = true ∧ ys[j]? = some z ∧ eqV z y = true ∧
  (∀ (m : Nat) (z' : V), m < j → ys[m]? = some z' → eqV z' y = false) ∧ Q (.int (j : Nat)) H
theorem flat_at {ys : List V} (f : ys.all flatV = true) {j : Nat} {z : V} (h : ys[j]? = some z) : flatV z = true := List.all_eq_true.mp f z (List.mem_of_getElem? h)
theorem mt_index : MtR X "list.index" (rIndex X.K) := by
  intro pins s σ H x xs v us Q I rx rxs h
  obtain ⟨a, ys, y, j, z, rfl, rfl, hs, fy, fys, hz, hzj, hno, q⟩ := h
  cases rx
  cases rxs with
  | cons ry rt =>
    rename_i uy ut
    cases rt
    obtain ⟨its, rv, ⟨⟨cls, dd, data, sl⟩, n, ho, hc, hdn, hd⟩, hlen⟩ := I.list hs
    simp only at hc hd
    subst hc hd
    obtain ⟨u, hu, ru⟩ := rv.get hz
    obtain ⟨hjl, hje⟩ := List.getElem?_eq_some_iff.mp hu
    have hvl := rv.length
    have hj : j < its.toArray.size := by simpa using hjl
    have hsl := sizeLine_eq
    refine call_meets PySem.F.slot_list_index ⟨_, ho, rfl⟩ PySem.F.entry_list_index (PySem.F.args_list_index_2 _ _)
      (SeqAt.list_indexAt a its.toArray n dd sl uy (eqU y) j hj (by omega) ?_ ?_) ⟨ho, fun u' hu' => mem_eqAt ry fy rv fys u' (by simpa using hu'), ?_⟩
    · have e1 : its.toArray[j] = u := by simpa using hje
      rw [e1, eqU_of ru (flat_at fys hz)]
      exact hzj
    · intro m hm hmj
      have hml : m < its.length := by simpa using hm
      have hmy : m < ys.length := by omega
      have hy' : ys[m]? = some ys[m] := List.getElem?_eq_getElem hmy
      obtain ⟨u2, hu2, ru2⟩ := rv.get hy'
      obtain ⟨_, hme⟩ := List.getElem?_eq_some_iff.mp hu2
      have e1 : its.toArray[m] = u2 := by simpa using hme
      rw [e1, eqU_of ru2 (flat_at fys hy')]
      exact hno m _ hmj hy'
    · exact ⟨.int (j : Nat), H, I.tok _, ⟨_, rfl⟩, q⟩
end

/-! ### type(x) of an own instance; is, is not of a module's class -/
section
variable {X : Cx}
end

/-! ### any(xs), all(xs) of a list of bools -/
section
variable {X : Cx}
end

/-! ### == and != of data at any depth: none, bools, ints, texts, lists, tuples -/
mutual
inductive Dp (K : PySem.W.Frag) (H : Hp) : V → PyData → Prop
  | non : Dp K H .non .none
  | bl (b : Bool) : Dp K H (.bl b) (.bool b)
  | int (i : Int) : Dp K H (.int i) (.int i)
  | str (x : Str) : Dp K H (.str x) (.str x)
  | lst {a : Addr} {xs : List V} {ds : List PyData} : SqL K H a xs → DpAll K H xs ds → Dp K H (.ref a) (.list ds)
  | tup {a : Addr} {xs : List V} {ds : List PyData} : SqT K H a xs → DpAll K H xs ds → Dp K H (.ref a) (.tuple ds)
inductive DpAll (K : PySem.W.Frag) (H : Hp) : List V → List PyData → Prop
  | nil : DpAll K H [] []
  | cons {v : V} {vs : List V} {d : PyData} {ds : List PyData} : Dp K H v d → DpAll K H vs ds → DpAll K H (v :: vs) (d :: ds)
end
section
variable {X : Cx} {pins : List (Addr × Obj)} {σ : St} {H : Hp} {s : Shared}
mutual
theorem Dp.reads (I : Inv X pins σ H s) : ∀ (d : PyData) (v : V) (u : Value), Dp X.K H v d → RelV v u → ∃ as, Reads s.heap u d as
  | .none, _, _, h, r => by
    cases h
    cases r
    exact ⟨_, Reads.none⟩
  | .bool b, _, _, h, r => by
    cases h
    cases r
    exact ⟨_, Reads.bool b⟩
  | .int i, _, _, h, r => by
    cases h
    obtain ⟨t, rfl⟩ := r
    exact ⟨_, Reads.int i t⟩
  | .str x, _, _, h, r => by
    cases h
    obtain ⟨t, rfl⟩ := r
    exact ⟨_, Reads.str x t⟩
  | .list ds, _, _, h, r => by
    cases h with
    | lst hs ha =>
      cases r
      obtain ⟨its, rv, ⟨o, n, ho, hc, _, hd⟩, _⟩ := I.list hs
      obtain ⟨as, hr⟩ := Dp.readsAll I ds _ its ha rv
      exact ⟨_, Reads.list ho hc hd hr⟩
  | .tuple ds, _, _, h, r => by
    cases h with
    | tup hs ha =>
      cases r
      obtain ⟨its, rv, ⟨o, ho, hc, n, hd⟩, _⟩ := I.tuple hs
      obtain ⟨as, hr⟩ := Dp.readsAll I ds _ its ha rv
      exact ⟨_, Reads.tuple ho hc hd hr⟩
  | .dict _, _, _, h, _ => by cases h
theorem Dp.readsAll (I : Inv X pins σ H s) : ∀ (ds : List PyData) (vs : List V) (us : List Value), DpAll X.K H vs ds → Vals vs us → ∃ as, ReadsAll s.heap us ds as
  | [], _, _, h, r => by
    cases h
    cases r
    exact ⟨_, ReadsAll.nil⟩
  | d :: ds, _, _, h, r => by
    cases h with
    | cons h1 h2 =>
      cases r with
      | cons r1 r2 =>
        obtain ⟨as, q1⟩ := Dp.reads I d _ _ h1 r1
        obtain ⟨bs, q2⟩ := Dp.readsAll I ds _ _ h2 r2
        exact ⟨_, ReadsAll.cons q1 q2⟩
end
end
section
variable {X : Cx}
def rEqD (K : PySem.W.Frag) : R2 := fun x y H Q => ∃ d e, Dp K H x d ∧ Dp K H y e ∧ SeqAt.shaped d = true ∧ SeqAt.shaped e = true ∧ Q (.bl (PyData.eqv d e)) H
def rNeD (K : PySem.W.Frag) : R2 := fun x y H Q => ∃ d e, Dp K H x d ∧ Dp K H y e ∧ SeqAt.shaped d = true ∧ SeqAt.shaped e = true ∧ Q (.bl (!PyData.eqv d e)) H
theorem op_eqD (hu : X.A.units + 64 < cLine) : OpR X (compareOp .Eq) (rEqD X.K) := by
  intro pins s σ H x y v u Q I rx ry h
  obtain ⟨d, e, hd, he, sd, se, q⟩ := h
  obtain ⟨as, r1⟩ := Dp.reads I d x v hd rx
  obtain ⟨bs, r2⟩ := Dp.reads I e y u he ry
  exact SeqAt.compareEq_shaped r1 r2 sd se hu ⟨.bl _, H, I, rfl, q⟩
theorem op_neD (hu : X.A.units + 64 < cLine) : OpR X (compareOp .NotEq) (rNeD X.K) := by
  intro pins s σ H x y v u Q I rx ry h
  obtain ⟨d, e, hd, he, sd, se, q⟩ := h
  obtain ⟨as, r1⟩ := Dp.reads I d x v hd rx
  obtain ⟨bs, r2⟩ := Dp.reads I e y u he ry
  exact SeqAt.compareNe_shaped r1 r2 sd se hu ⟨.bl _, H, I, rfl, q⟩
end
end L2

namespace L2
open PySem PySem.Spec PyProof.Rows
abbrev CellAt (h : Heap) (c : Addr) (v : Option Value) : Prop := h.IsCell c v
def relS (scope sc : Scope) : Scope :=
  { scope with names := scope.names.map fun (n, k) => if (k == .free && sc.kind == .function && sc.names.lookup n == some .cell) then (n, .cell) else (n, k) }

def cloFrom (cells : List (Str × Addr)) : List (Str × NameKind) → List (Str × Addr) → List (Str × Addr)
  | [], acc => acc
  | (n, k) :: r, acc => if k == .free then cloFrom cells r ((n, (cells.lookup n).getD 0) :: acc) else cloFrom cells r acc

theorem closure_loop (env : Env) (f : Str × NameKind → List (Str × Addr) → Sem (ForInStep (List (Str × Addr))))
    (hf : ∀ n k c, f (n, k) c = if k == .free then (do let a ← cellOf env n; pure (.yield ((n, a) :: c))) else pure (.yield c)) :
    ∀ (names : List (Str × NameKind)) (acc : List (Str × Addr)), (∀ y ∈ names, y.2 = .free → ∃ c, env.cells.lookup y.1 = some c) → forIn names acc f = pure (cloFrom env.cells names acc)
  | [], acc, _ => by rw [List.forIn_nil]; rfl
  | (n, k) :: r, acc, h => by
    rw [List.forIn_cons, hf]
    have ih := fun acc => closure_loop env f hf r acc fun y hy => h y (List.mem_cons_of_mem _ hy)
    unfold cloFrom
    by_cases hk : (k == NameKind.free) = true
    · rw [if_pos hk, if_pos hk]
      obtain ⟨c, hc⟩ := h (n, k) List.mem_cons_self (by simpa using hk)
      have e : cellOf env n = pure c := by unfold cellOf; rw [hc]
      rw [e]
      have e2 : (env.cells.lookup n).getD 0 = c := by rw [hc]; rfl
      rw [e2]
      exact ih _
    · rw [if_neg hk, if_neg hk]
      exact ih _
theorem closure_ok {scope : Scope} {env : Env} (h : ∀ y ∈ scope.names, y.2 = .free → ∃ c, env.cells.lookup y.1 = some c) : closureFor scope env = pure (cloFrom env.cells scope.names []) := by
  simp only [closureFor]
  rw [closure_loop env _ (fun n k c => rfl) scope.names [] h]
  rfl

theorem mem_lookup {α : Type} : ∀ {l : List (Str × α)} {n : Str} {c : α}, (n, c) ∈ l → ∃ c', l.lookup n = some c'
  | (k, v) :: r, n, c, h => by
    rw [List.lookup_cons]
    cases hb : n == k with
    | true => exact ⟨_, rfl⟩
    | false =>
      rcases List.mem_cons.mp h with e | h
      · cases e; simp at hb
      · exact mem_lookup h

theorem cloFrom_mem {cells : List (Str × Addr)} : ∀ {names : List (Str × NameKind)} {acc : List (Str × Addr)} {n : Str} {c : Addr}, (n, c) ∈ cloFrom cells names acc → (n, c) ∈ acc ∨ ((n, .free) ∈ names ∧ c = (cells.lookup n).getD 0)
  | [], _, _, _, h => .inl h
  | (m, k) :: r, acc, n, c, h => by
    unfold cloFrom at h
    split at h
    · rename_i hk
      have hk : k = .free := by simpa using hk
      rcases cloFrom_mem h with h | ⟨h1, h2⟩
      · rcases List.mem_cons.mp h with e | h
        · cases e; exact .inr ⟨hk ▸ List.mem_cons_self, rfl⟩
        · exact .inl h
      · exact .inr ⟨List.mem_cons_of_mem _ h1, h2⟩
    · rcases cloFrom_mem h with h | ⟨h1, h2⟩
      · exact .inl h
      · exact .inr ⟨List.mem_cons_of_mem _ h1, h2⟩
theorem cloFrom_acc {cells : List (Str × Addr)} : ∀ {names : List (Str × NameKind)} {acc : List (Str × Addr)} {p : Str × Addr}, p ∈ acc → p ∈ cloFrom cells names acc
  | [], _, _, h => h
  | (m, k) :: r, acc, p, h => by
    unfold cloFrom
    split
    · exact cloFrom_acc (List.mem_cons_of_mem _ h)
    · exact cloFrom_acc h
theorem cloFrom_has {cells : List (Str × Addr)} : ∀ {names : List (Str × NameKind)} {acc : List (Str × Addr)} {n : Str}, (n, .free) ∈ names → (n, (cells.lookup n).getD 0) ∈ cloFrom cells names acc
  | (m, k) :: r, acc, n, h => by
    unfold cloFrom
    rcases List.mem_cons.mp h with e | h
    · cases e
      exact cloFrom_acc List.mem_cons_self
    · split
      · exact cloFrom_has h
      · exact cloFrom_has h

theorem cells_mem : ∀ {names : List (Str × NameKind)} {h : Heap} {acc : List (Str × Addr)} {x : Str} {c : Addr}, (x, c) ∈ cellsFrom h.objs.size names acc →
    (x, c) ∈ acc ∨ ((x, .cell) ∈ names ∧ h.objs.size ≤ c ∧ CellAt (pushCells h names) c none)
  | [], _, _, _, _, h => .inl h
  | (n, k) :: r, h, acc, x, c, hm => by
    unfold cellsFrom at hm
    unfold pushCells
    split at hm
    · rename_i hk
      rw [if_pos hk]
      have hk : k = .cell := by simpa using hk
      rw [← Heap.size_push h { cls := .type "cell", data := .cell none }] at hm
      rcases cells_mem hm with hm | ⟨h1, h2, h3⟩
      · rcases List.mem_cons.mp hm with e | hm
        · cases e
          exact .inr ⟨hk ▸ List.mem_cons_self, Nat.le_refl _, _, pushCells_keeps r _ _ _ (Heap.get?_push_size _ rfl), rfl⟩
        · exact .inl hm
      · rw [Heap.size_push] at h2
        exact .inr ⟨List.mem_cons_of_mem _ h1, Nat.le_of_succ_le h2, h3⟩
    · rename_i hk
      rw [if_neg hk]
      rcases cells_mem hm with hm | ⟨h1, h2, h3⟩
      · exact .inl hm
      · exact .inr ⟨List.mem_cons_of_mem _ h1, h2, h3⟩
theorem cells_acc : ∀ {names : List (Str × NameKind)} {n : Nat} {acc : List (Str × Addr)} {p : Str × Addr}, p ∈ acc → p ∈ cellsFrom n names acc
  | [], _, _, _, h => h
  | (m, k) :: r, n, acc, p, h => by
    unfold cellsFrom
    split
    · exact cells_acc (List.mem_cons_of_mem _ h)
    · exact cells_acc h
theorem cells_has : ∀ {names : List (Str × NameKind)} {n : Nat} {acc : List (Str × Addr)} {x : Str}, (x, .cell) ∈ names → ∃ c, (x, c) ∈ cellsFrom n names acc
  | (m, k) :: r, n, acc, x, h => by
    unfold cellsFrom
    rcases List.mem_cons.mp h with e | h
    · cases e
      exact ⟨n, cells_acc List.mem_cons_self⟩
    · split
      · exact cells_has h
      · exact cells_has h
theorem cells_inj : ∀ {names : List (Str × NameKind)} {h : Heap} {acc : List (Str × Addr)} {x y : Str} {c : Addr}, (∀ p ∈ acc, p.2 < h.objs.size) → (∀ x y c, (x, c) ∈ acc → (y, c) ∈ acc → x = y) →
    (x, c) ∈ cellsFrom h.objs.size names acc → (y, c) ∈ cellsFrom h.objs.size names acc → x = y
  | [], _, _, _, _, _, _, hi, h1, h2 => hi _ _ _ h1 h2
  | (n, k) :: r, h, acc, x, y, c, hl, hi, h1, h2 => by
    unfold cellsFrom at h1 h2
    split at h1
    · rename_i hk
      rw [if_pos hk] at h2
      rw [← Heap.size_push h { cls := .type "cell", data := .cell none }] at h1 h2
      refine cells_inj (h := h.push _) (fun p hp => ?_) (fun x y c a b => ?_) h1 h2
      · rw [Heap.size_push]
        rcases List.mem_cons.mp hp with rfl | hp
        · exact Nat.lt_succ_self _
        · exact Nat.lt_succ_of_lt (hl p hp)
      · rcases List.mem_cons.mp a with e | a <;> rcases List.mem_cons.mp b with e' | b
        · cases e; cases e'; rfl
        · cases e; exact absurd (hl _ b) (Nat.lt_irrefl _)
        · cases e'; exact absurd (hl _ a) (Nat.lt_irrefl _)
        · exact hi _ _ _ a b
    · rename_i hk
      rw [if_neg hk] at h2
      exact cells_inj hl hi h1 h2

theorem newEnv_comp {M : Model} {A : Around} {E : Value → Shared → Prop} {s : Shared} {scope : Scope} {globals : Addr} {closure : List (Str × Addr)} {qual : Str} {func : Option Addr} {code : Value} {around : Env} {builtins : Addr} {Q : Env → Shared → Prop}
    (h : Q (newEnv scope s.heap.objs.size globals (cellsFrom (s.heap.objs.size + 1) scope.names closure) qual func code (some around) builtins)
      { s with heap := pushCells (s.heap.push { cls := .type "dict", data := .dict #[] }) scope.names }) :
    wpAny M A (newFunctionEnv scope globals closure [] qual func code (some around) builtins) Q E s := by
  simp only [newFunctionEnv, Option.isSome_some, if_true]
  refine wpAny_bind (wpAny_alloc ?_)
  refine wpAny_bind (wpAny_layCells _ (fun n k c => rfl) scope.names closure _ _ ?_)
  rw [show ({ s with heap := s.heap.push { cls := .type "dict", data := .dict #[] } } : Shared).heap.objs.size = s.heap.objs.size + 1 from Heap.size_push ..]
  rw [List.forIn_nil]
  exact wpAny_bind (wpAny_pure (wpAny_pure h))

/-- every name of the written scope, in the scope that runs -/
theorem lookup_relS {sc : Scope} : ∀ {names : List (Str × NameKind)} {x : Str} {k : NameKind},
    (names.map fun (n, k) => if (k == NameKind.free && sc.kind == .function && sc.names.lookup n == some .cell) then (n, NameKind.cell) else (n, k)).lookup x = some k →
    ∃ k', names.lookup x = some k' ∧ (k = k' ∨ (k' = .free ∧ k = .cell))
  | [], _, _, h => by simp at h
  | (n, k₀) :: r, x, k, h => by
    have ih := @lookup_relS sc r x k
    have h' : List.lookup x ((if (k₀ == NameKind.free && sc.kind == .function && sc.names.lookup n == some .cell) = true then (n, NameKind.cell) else (n, k₀)) :: (r.map _)) = some k := h
    cases hx : x == n with
    | true =>
      simp only [List.lookup_cons, hx]
      by_cases hc : (k₀ == NameKind.free && sc.kind == .function && sc.names.lookup n == some .cell) = true
      · rw [if_pos hc] at h'
        simp only [List.lookup_cons, hx] at h'
        cases h'
        simp only [Bool.and_eq_true, beq_iff_eq] at hc
        exact ⟨k₀, rfl, .inr ⟨hc.1.1, rfl⟩⟩
      · rw [if_neg hc] at h'
        simp only [List.lookup_cons, hx] at h'
        cases h'
        exact ⟨_, rfl, .inl rfl⟩
    | false =>
      simp only [List.lookup_cons, hx]
      by_cases hc : (k₀ == NameKind.free && sc.kind == .function && sc.names.lookup n == some .cell) = true
      · rw [if_pos hc] at h'
        simp only [List.lookup_cons, hx] at h'
        exact ih h'
      · rw [if_neg hc] at h'
        simp only [List.lookup_cons, hx] at h'
        exact ih h'
/-- the names of a comprehension's block: its own (with their places in N), or captured -/
structure BlkOk (N : List Str) (sc scope : Scope) (own : List (Str × Nat)) : Prop where
  kind : scope.kind = .function
  uniq : ∀ y ∈ scope.names, scope.names.lookup y.1 = some y.2
  ix : ∀ p ∈ own, N[p.2]? = some p.1
  free : ∀ y ∈ scope.names, y.2 = .free → sc.names.lookup y.1 = some .cell ∨ sc.names.lookup y.1 = some .free
  own : ∀ y ∈ scope.names, y.2 = .local ∨ y.2 = .cell → y.1 ∈ own.map (·.1) ∨ y.1 ∉ N
/-- the slots of the block's own names forgotten -/
def wipe (σ : St) : List Nat → St
  | [] => σ
  | v :: vs => (wipe σ vs).set v none
theorem wipe_length (σ : St) : ∀ vs : List Nat, (wipe σ vs).length = σ.length
  | [] => rfl
  | v :: vs => by unfold wipe; rw [List.length_set, wipe_length σ vs]
theorem wipe_some {σ : St} {i : Nat} {x : V} : ∀ {vs : List Nat}, (wipe σ vs)[i]? = some (some x) → σ[i]? = some (some x) ∧ i ∉ vs
  | [], h => ⟨h, by simp⟩
  | v :: vs, h => by
    unfold wipe at h
    by_cases hi : v = i
    · subst hi
      by_cases hv : v < (wipe σ vs).length
      · rw [List.getElem?_set_self hv] at h; cases h
      · rw [List.getElem?_eq_none (by simpa using hv)] at h; cases h
    · rw [List.getElem?_set_ne hi] at h
      obtain ⟨h1, h2⟩ := wipe_some h
      exact ⟨h1, by simp only [List.mem_cons, not_or]; exact ⟨fun e => hi e.symm, h2⟩⟩

/-- the context of a block that starts at s, its iterator's objects at fp -/
abbrev Cx.blk (X : Cx) (s : Shared) (H : Hp) (scope : Scope) (cenv : Env) (fp : List Addr) : Cx := { X with s_0 := s, H_0 := H, env := cenv, outer := X.stack, ex := fp, fn := fun x => scope.names.lookup x == some .cell, pn := [], xe := fun _ _ => False }
section
variable {X : Cx} {pins : List (Addr × Obj)} {σ : St} {H : Hp} {s : Shared}
theorem block_start {scope : Scope} {own : List (Str × Nat)} {fp : List Addr} (I : Inv X pins σ H s) (ok : BlkOk X.N X.env.scope scope own) (hN : X.N.Nodup) (hfp : ∀ b ∈ fp, FpOk X pins H b ∧ b < s.heap.objs.size) :
    Inv (X.blk s H scope (compEnvC scope (cellsFrom (s.heap.objs.size + 1) scope.names (cloFrom X.env.cells scope.names [])) s.heap.objs.size X.env) fp) [] (wipe σ (own.map (·.2))) H { s with heap := pushCells (s.heap.push { cls := .type "dict", data := .dict #[] }) scope.names } := by
  have hfree : ∀ y ∈ scope.names, y.2 = .free → ∃ c, X.env.cells.lookup y.1 = some c := fun y hy e => by
    rcases ok.free y hy e with k | k
    · exact I.ok.has _ (.inl k)
    · exact I.ok.has _ (.inr k)
  generalize hcenv : compEnvC scope (cellsFrom (s.heap.objs.size + 1) scope.names (cloFrom X.env.cells scope.names [])) s.heap.objs.size X.env = cenv
  have kp : ∀ b o, s.heap.get? b = some o → (pushCells (s.heap.push { cls := .type "dict", data := .dict #[] }) scope.names).get? b = some o := fun b o e => pushCells_keeps _ _ _ _ (Heap.get?_push_of_some _ e)
  have hL : cenv.locals = s.heap.objs.size := by rw [← hcenv]; rfl
  have hcl : cenv.cells = cellsFrom (s.heap.objs.size + 1) scope.names (cloFrom X.env.cells scope.names []) := by rw [← hcenv]; rfl
  have hsc : cenv.scope = relS scope X.env.scope := by rw [← hcenv]; rfl
  rw [← Heap.size_push s.heap { cls := .type "dict", data := .dict #[] }] at hcl
  have cm : ∀ {y c}, (y, c) ∈ cloFrom X.env.cells scope.names [] → X.env.cells.lookup y = some c ∧ c < s.heap.objs.size := fun {y c} hm => by
    rcases cloFrom_mem hm with hm | ⟨h1, rfl⟩
    · cases hm
    · obtain ⟨c, hc⟩ := hfree _ h1 rfl
      rw [hc]
      obtain ⟨w, z⟩ := I.cell _ _ hc
      exact ⟨rfl, z.lt⟩
  have mem : ∀ {y c}, cenv.cells.lookup y = some c → (X.env.cells.lookup y = some c ∧ c < s.heap.objs.size) ∨ (s.heap.objs.size + 1 ≤ c ∧ CellAt (pushCells (s.heap.push { cls := .type "dict", data := .dict #[] }) scope.names) c none) := fun {y c} e => by
    rw [hcl] at e
    rcases cells_mem (PySem.mem_of_lookup e) with hm | ⟨_, h2, h3⟩
    · exact .inl (cm hm)
    · rw [Heap.size_push] at h2; exact .inr ⟨h2, h3⟩
  have look : ∀ {y}, scope.names.lookup y = some .free → ∃ c, cenv.cells.lookup y = some c ∧ X.env.cells.lookup y = some c := fun {y} hl => by
    have hy : (y, NameKind.free) ∈ scope.names := PySem.mem_of_lookup hl
    obtain ⟨c', e'⟩ := mem_lookup (cells_acc (names := scope.names) (n := (s.heap.push { cls := .type "dict", data := .dict #[] }).objs.size) (cloFrom_has (cells := X.env.cells) (acc := []) hy))
    rw [← hcl] at e'
    refine ⟨c', e', ?_⟩
    rw [hcl] at e'
    rcases cells_mem (PySem.mem_of_lookup e') with hm | ⟨h1, _, _⟩
    · exact (cm hm).1
    · have := ok.uniq _ h1
      rw [hl] at this; cases this
  have okB : (X.blk s H scope cenv fp).Ok := by
    refine ⟨I.ok.mod, by show cenv.scope.kind = _; rw [hsc]; exact ok.kind, by show cenv.globals = _; rw [← hcenv]; exact I.ok.glob, by show cenv.builtins = _; rw [← hcenv]; exact I.ok.blt, by show s.heap.objs.size ≤ cenv.locals; rw [hL]; exact Nat.le_refl _,
      fun y z c e1 e2 => ?_, fun y hy => ?_, fun y c z e => ?_, I.ok.hd, I.ok.frames, .inl rfl, fun b hb => ⟨?_, fun y c e z => ?_⟩, I.bs, Nat.le_trans I.ok.bsz I.sz, fun b o e hb => ?_, fun b hb z => ?_, I.stack, I.stkFree⟩
    · have e1 : cenv.cells.lookup y = some c := e1
      have e2 : cenv.cells.lookup z = some c := e2
      rw [hcl] at e1 e2
      refine cells_inj (fun p hp => ?_) (fun y z c a b => I.ok.inj y z c (cm a).1 (cm b).1) (PySem.mem_of_lookup e1) (PySem.mem_of_lookup e2)
      rw [Heap.size_push]
      exact Nat.lt_succ_of_lt (cm (y := p.1) (c := p.2) hp).2
    · show ∃ c, cenv.cells.lookup y = some c
      have key : ∀ k, cenv.kindOf y = some k → (k = .cell ∨ k = .free) → ∃ c, cenv.cells.lookup y = some c := fun k hk hk' => by
        unfold Env.kindOf at hk
        rw [hsc] at hk
        obtain ⟨k', e, r⟩ := lookup_relS hk
        have : k' = .cell ∨ k' = .free := by
          rcases r with rfl | ⟨rfl, _⟩
          · exact hk'
          · exact .inr rfl
        rcases this with rfl | rfl
        · obtain ⟨c, hm⟩ := cells_has (n := (s.heap.push { cls := .type "dict", data := .dict #[] }).objs.size) (acc := cloFrom X.env.cells scope.names []) (PySem.mem_of_lookup e)
          obtain ⟨c', e'⟩ := mem_lookup hm
          exact ⟨c', by rw [hcl]; exact e'⟩
        · obtain ⟨c, h1, _⟩ := look e
          exact ⟨c, h1⟩
      rcases hy with hy | hy
      · exact key _ hy (.inl rfl)
      · exact key _ hy (.inr rfl)
    · have z : (scope.names.lookup y == some NameKind.cell) = true := z
      have z : scope.names.lookup y = some .cell := by simpa using z
      have e : cenv.cells.lookup y = some c := e
      rw [hcl] at e
      rcases cells_mem (PySem.mem_of_lookup e) with hm | ⟨_, h2, _⟩
      · rcases cloFrom_mem hm with hm | ⟨h1, _⟩
        · cases hm
        · have q := ok.uniq _ h1
          rw [z] at q; cases q
      · rw [Heap.size_push] at h2
        exact Nat.le_of_succ_le h2
    · show b ≠ cenv.locals
      rw [hL]; exact Nat.ne_of_lt (hfp b hb).2
    · have e : cenv.cells.lookup y = some c := e
      rcases mem e with ⟨h1, _⟩ | ⟨h1, _⟩
      · exact (hfp b hb).1.2.2.2.2.1 y c h1 z
      · have h2 : s.heap.objs.size + 1 ≤ b := by rw [← z]; exact h1
        exact absurd (Nat.lt_of_lt_of_le (hfp b hb).2 (Nat.le_of_succ_le h2)) (Nat.lt_irrefl _)
    · rcases (hfp b hb).1.2.2.2.1 with z | z
      · exact I.ok.noex b o e z
      · exact absurd (Nat.lt_of_lt_of_le (Heap.lt_size e) (Nat.le_trans I.ok.bsz z)) (Nat.lt_irrefl _)
    · rcases List.mem_cons.mp (I.stkSub b z) with z | z
      · exact (hfp b hb).1.2.1 z
      · exact (hfp b hb).1.2.2.1 z
  refine ⟨okB, rfl, I.bare, Un.kept kp, ⟨fun _ => none, ?_, fun i y av e1 e2 e3 => ?_⟩, fun y c e => ?_, ?_, fun y c e => ?_, fun p hp => ?_, I.hok.kept kp, by rw [wipe_length]; exact I.len⟩
  · show Heap.Ns _ cenv.locals _
    rw [hL]
    exact Heap.Ns.keeps (Heap.Ns.new ..) fun b o e => pushCells_keeps _ _ _ _ e
  · obtain ⟨e2, hne⟩ := wipe_some e2
    have hfr : scope.names.lookup y = some .free ∧ (cenv.kindOf y = some .cell ∨ cenv.kindOf y = some .free) := by
      have key : ∀ k, cenv.scope.names.lookup y = some k → k = .local ∨ k = .cell ∨ k = .free → scope.names.lookup y = some .free ∧ (cenv.kindOf y = some .cell ∨ cenv.kindOf y = some .free) := fun k hk hk' => by
        have hk0 := hk
        rw [hsc] at hk
        obtain ⟨k', e, r⟩ := lookup_relS hk
        have no : ¬ (k' = .local ∨ k' = .cell) := fun hh => by
          rcases ok.own _ (PySem.mem_of_lookup e) hh with e' | e'
          · obtain ⟨p, hp, hpy⟩ := List.mem_map.mp e'
            have e3 := ok.ix p hp
            have : p.1 = y := hpy
            rw [this] at e3
            exact hne (List.mem_map.mpr ⟨p, hp, nodup_ix hN e3 e1⟩)
          · exact e' (List.mem_of_getElem? e1)
        rcases r with rfl | ⟨rfl, rfl⟩
        · rcases hk' with rfl | rfl | rfl
          · exact absurd (.inl rfl) no
          · exact absurd (.inr rfl) no
          · exact ⟨e, .inr hk0⟩
        · exact ⟨e, .inl hk0⟩
      have e3 : Vis cenv.scope y := e3
      rcases e3 with e3 | e3 | e3
      · exact key _ e3 (.inl rfl)
      · exact key _ e3 (.inr (.inl rfl))
      · exact key _ e3 (.inr (.inr rfl))
    obtain ⟨m, hn, hl⟩ := I.loc
    have hvis : Vis X.env.scope y := (ok.free _ (PySem.mem_of_lookup hfr.1) rfl).elim (fun k => .inr (.inl k)) (fun k => .inr (.inr k))
    obtain ⟨w, r, q⟩ := hl i y av e1 e2 hvis
    refine ⟨w, r, .inr ⟨hfr.2, ?_⟩⟩
    obtain ⟨c, h1, h2⟩ := look hfr.1
    rcases q with ⟨k, _⟩ | ⟨_, c', e', z⟩
    · have k : X.env.scope.names.lookup y = some .local := k
      rcases ok.free _ (PySem.mem_of_lookup hfr.1) rfl with k' | k' <;> rw [show X.env.scope.names.lookup y = _ from k'] at k <;> cases k
    · rw [h2] at e'; cases e'
      exact ⟨c, h1, z.keeps kp⟩
  · have e : cenv.cells.lookup y = some c := e
    rcases mem e with ⟨h1, _⟩ | ⟨_, z⟩
    · obtain ⟨w, z⟩ := I.cell y c h1
      exact ⟨w, z.keeps kp⟩
    · exact ⟨_, z⟩
  · show H cenv.locals = none
    rw [hL]; exact I.hok.fresh (Nat.le_refl _)
  · have e : cenv.cells.lookup y = some c := e
    rcases mem e with ⟨h1, _⟩ | ⟨h1, _⟩
    · exact I.freeC y c h1
    · exact I.hok.fresh (Nat.le_of_succ_le h1)
  · exact absurd (show p ∈ ([] : List (Addr × Obj)) ++ [] from hp) (by simp)

/-- an item appended to a tracked list -/
theorem app_ok {E : Value → Shared → Prop} {D : Addr} {xs : List V} {y : V} {v : Value} {Q : Value → Shared → Prop} (I : Inv X pins σ H s) (hD : H D = some (.lst xs)) (hz : xs.length < sizeLine) (r : RelV y v)
    (h : ∀ s', Inv X pins σ (upd H D (.lst (xs ++ [y]))) s' → Q .none s') : wpAny (model X.prog X.w) X.A (call (.builtin "list.append") [.ref D, v]) Q E s := by
  obtain ⟨hz', its, n, ri, e⟩ := I.hok D _ hD
  have hl := ri.length
  refine append_at (hsz := by rw [List.size_toArray]; omega) e fun h' sb ho' => ?_
  refine h { s with heap := h' } (I.write (t' := s.toks) (by rw [hD]; trivial) (.inl rfl) (fun b u hb q => (sb.2 b hb).trans q) ⟨_, ho'⟩ ⟨by rw [List.length_append]; exact hz, its ++ [v], n + 1, ri.append (.cons r .nil), ?_⟩)
  rw [ho']
  simp

/-- a clause's tests -/
def PTs (X : Cx) (ifs : List Expr) (t : TT) : Prop :=
  ∀ (pins : List (Addr × Obj)) (s : Shared) (σ : St) (H : Hp) (Q : Bool → Hp → Prop), Inv X pins σ H s → t σ H Q →
    wpAny (model X.prog X.w) X.A (forIn ifs true fun c r => if r = true then do let ok ← isTrue c X.env (eval c X.env); pure (ForInStep.yield ok) else pure (ForInStep.yield r)) (TP X pins σ Q) X.xe s
def tYes : TT := fun _ H Q => Q true H
theorem pts_nil : PTs X [] tYes := fun _ _ _ H _ I h => wpAny_tests_nil ⟨H, I, h⟩
theorem pts_one {c : Expr} {t : TT} (h : PT X c t) : PTs X [c] t := fun pins s σ H Q I hw => wpAny_tests_one (h pins s σ H Q I hw)
end

theorem thnF {α : Type} {t : Sem α} {Q Q' : α → Shared → Prop} {M : Model} {A : Around} {E : Value → Shared → Prop} {s : Shared} (h : wpAny M A t Q (fun _ _ => False) s) (hQ : ∀ a s, Q a s → Q' a s) : wpAny M A t Q' E s := wpAny_mono h hQ fun _ _ z => False.elim z

/-- the loop of a list comprehension's block, the target of any form (codeAny_compLoop_tests asks a target that no tuple goes to; statement and proof follow it, PyProof/CompMap.lean:41-61, with the step letOwnedTupleGo kept) -/
theorem compLoop_any {prog : Program} {w : World} {A : Around} {R : Result → Shared → Prop} {s : Shared} {elt target iter : Expr} {ifs : List Expr} {scope : Scope} {pos : Pos} {it acc : Value} {env : Env} (I : Nat → Shared → Prop)
    (turn : ∀ n s, I n s → wpAny (model prog w) A (pyNext it) (fun r s₁ => match r with
      | none => R (.ok .next) s₁
      | some v => wpAny (model prog w) A (letOwnedTupleGo target it v) (fun _ s₁' => wpAny (model prog w) A (assign target env v) (fun _ s₂ =>
          wpAny (model prog w) A (forIn ifs true fun c r => if r = true then do let ok ← isTrue c env (eval c env); pure (ForInStep.yield ok) else pure (ForInStep.yield r)) (fun ok s₃ =>
            if ok = true then wpAny (model prog w) A (eval elt env) (fun x s₄ =>
              wpAny (model prog w) A (call (.builtin "list.append") [acc, x]) (fun _ s₅ => ∃ m, m < n ∧ I m s₅) (notedBy (model prog w) A env fun e s' => R (.error e) s') s₄) (notedBy (model prog w) A env fun e s' => R (.error e) s') s₃
            else ∃ m, m < n ∧ I m s₃) (notedBy (model prog w) A env fun e s' => R (.error e) s') s₂) (notedBy (model prog w) A env fun e s' => R (.error e) s') s₁') (notedBy (model prog w) A env fun e s' => R (.error e) s') s₁) (notedBy (model prog w) A env fun e s' => R (.error e) s') s)
    (n : Nat) (h : I n s) :
    codeAny (model prog w) A (.compLoop (.ListComp elt [⟨target, iter, ifs, 0⟩] scope pos) 0 it acc env) R s := by
  refine codeAny_loop rfl I (fun n s hI => ?_) n h
  show wpAny _ A ((compTurn (.ListComp elt [⟨target, iter, ifs, 0⟩] scope pos) 0 it acc env).onRaise (fun x => do noteFrame x env; theTreesLotGoes x)) _ _ s
  refine wpAny_noted ?_
  rw [compTurn_list]
  refine wpAny_bind (wpAny_standAt (wpAny_bind (wpAny_mono (turn n s hI) (fun r s₁ h₁ => ?_) fun _ _ h' => h')))
  cases r with
  | none => exact wpAny_pure h₁
  | some v =>
    refine wpAny_bind (wpAny_mono h₁ (fun _ s₁' h₁' => ?_) fun _ _ h' => h')
    refine wpAny_bind (wpAny_mono h₁' (fun _ s₂ h₂ => wpAny_bind (wpAny_mono h₂ (fun ok s₃ h₃ => ?_) fun _ _ h' => h')) fun _ _ h' => h')
    cases ok with
    | false => exact wpAny_pure ⟨rfl, h₃⟩
    | true =>
      exact wpAny_bind (wpAny_bind (wpAny_mono h₃ (fun x s₄ h₄ => wpAny_bind (wpAny_mono h₄ (fun _ s₅ h₅ => wpAny_pure (wpAny_pure ⟨rfl, h₅⟩)) fun _ _ h' => h')) fun _ _ h' => h'))

section
variable {X : Cx}
/-- [elt for target in iter if ..]: D the new list; W by the turn and a measure, Nx what a turn is to reach -/
def tLc (wi : TI) (g : TG) (tt : TT) (te : TE) (vs : List Nat) : TE := fun σ H Q => wi σ H fun J H1 => ∀ D, H1 D = none → ∃ W : Nat → Nat → Hp → Prop, (∃ m, W 0 m (upd H1 D (.lst []))) ∧ ∀ i m H, W i m H →
  (J.stop i H ∧ Q (.ref D) H) ∨ (J.go i H ∧ ∃ Nx : Hp → Prop, (∀ H', Nx H' → ∃ m', m' < m ∧ W (i + 1) m' H') ∧ ∀ x H', J.yld i H x H' → g x (wipe σ vs) H' fun σ2 H2 => wipe σ2 vs = wipe σ vs ∧ tt σ2 H2 fun b H3 =>
    if b = true then te σ2 H3 fun y H4 => ∃ acc, H4 D = some (.lst acc) ∧ acc.length < sizeLine ∧ Nx (upd H4 D (.lst (acc ++ [y]))) else Nx H3)
theorem lc_core {pins : List (Addr × Obj)} {s : Shared} {σ : St} {H : Hp} {Q : VK} {elt tg iter : Expr} {ifs : List Expr} {scope : Scope} {own : List (Str × Nat)} {pos pos' : Pos} {wi : TI} {g : TG} {tt : TT} {te : TE} {use : Option (Value → Sem Unit)} {Qf : Value → Shared → Prop}
    (hc : X.calm = true) (hN : X.N.Nodup) (I : Inv X pins σ H s) (hi : PI X tg iter wi) (ok : BlkOk X.N X.env.scope scope own)
    (hg : ∀ (s : Shared) (H : Hp) (C : Addr) (cl : List (Str × Addr)) (fp : List Addr), PG (X.blk s H scope (compEnvC scope cl C X.env) fp) tg g) (ht : ∀ (s : Shared) (H : Hp) (C : Addr) (cl : List (Str × Addr)) (fp : List Addr), PTs (X.blk s H scope (compEnvC scope cl C X.env) fp) ifs tt)
    (he : ∀ (s : Shared) (H : Hp) (C : Addr) (cl : List (Str × Addr)) (fp : List Addr), PE (X.blk s H scope (compEnvC scope cl C X.env) fp) elt te) (hs : ∀ x, foldedSetIterable iter X.env x = pure x)
    (h : tLc wi g tt te (own.map (·.2)) σ H Q)
    (hRR : ∀ D C s' m H', Inv X pins σ H' s' → Q (.ref D) H' → s'.heap.Ns C m → FpOk X pins H' C → compPost (model X.prog X.w) X.A X.xe use Qf (.ref D) C (.ok .next) s') :
    wpAny (model X.prog X.w) X.A (comprehension (.ListComp elt [⟨tg, iter, ifs, 0⟩] scope pos) scope X.env pos' (newList []) false (eval iter X.env) use) Qf X.xe s := by
  have hfree : ∀ y ∈ scope.names, y.2 = .free → ∃ c, X.env.cells.lookup y.1 = some c := fun y hy e => by
    rcases ok.free y hy e with k | k
    · exact I.ok.has _ (.inl k)
    · exact I.ok.has _ (.inr k)
  refine wpAny_comprehension_free (use := use) rfl hs (closure_ok hfree) ok.kind (fun y hy e => by rw [ok.uniq y hy, e])
    (thn (hi pins s σ H _ I h) fun xv s1 hx => thn hx fun itv s2 h2 => ?_)
  obtain ⟨it, fp, tn, J, H2, e, I2, T, st2, f2, q⟩ := h2
  subst e
  refine wpAny_newObj_type (newEnv_comp ?_) (by show 0 ≤ sizeLine; decide)
  generalize hD : s2.heap.objs.size = D
  have hDn : H2 D = none := I2.hok.fresh (Nat.le_of_eq hD)
  obtain ⟨W, ⟨m0, w0⟩, turn⟩ := q D hDn
  -- the new list
  generalize hs3 : ({ s2 with heap := s2.heap.push { cls := .type "list", data := .seq ([] : List Value).toArray } } : Shared) = s3
  have I3 : Inv X pins σ (upd H2 D (.lst [])) s3 := by
    rw [← hs3]
    refine I2.laid (t' := s2.toks) (fun b o e => Heap.get?_push_of_some _ e) (Nat.le_of_eq hD) ⟨Nat.zero_le _, [], 0, .nil, ?_⟩
    rw [← hD]
    exact Heap.get?_push_size _ rfl
  have h3 : s3.heap = s2.heap.push { cls := .type "list", data := .seq ([] : List Value).toArray } := by rw [← hs3]
  have sz : ∀ b ∈ fp, b < s2.heap.objs.size := fun b hb => by
    obtain ⟨o, e, _⟩ := T.obj _ _ st2 b hb
    exact Heap.lt_size e
  have f3 : ∀ b ∈ fp, FpOk X pins (upd H2 D (.lst [])) b ∧ b < s3.heap.objs.size := fun b hb => by
    have hlt := sz b hb
    refine ⟨⟨?_, (f2 b hb).2⟩, by rw [h3, Heap.size_push]; exact Nat.lt_succ_of_lt hlt⟩
    rw [upd_ne (by rw [← hD]; exact Nat.ne_of_lt hlt)]
    exact (f2 b hb).1
  have st3 : tn 0 s3.heap := T.keep _ _ _ st2 fun b _ o e => by rw [h3]; exact Heap.get?_push_of_some _ e
  have I4 := block_start I3 ok hN f3
  have pg := hg s3 (upd H2 D (.lst [])) s3.heap.objs.size (cellsFrom (s3.heap.objs.size + 1) scope.names (cloFrom X.env.cells scope.names [])) fp
  have pt := ht s3 (upd H2 D (.lst [])) s3.heap.objs.size (cellsFrom (s3.heap.objs.size + 1) scope.names (cloFrom X.env.cells scope.names [])) fp
  have pe := he s3 (upd H2 D (.lst [])) s3.heap.objs.size (cellsFrom (s3.heap.objs.size + 1) scope.names (cloFrom X.env.cells scope.names [])) fp
  show codeAny _ _ (.compStart (.ListComp elt [⟨tg, iter, ifs, 0⟩] scope pos) 0 (.ref it) (.ref D) (compEnvC scope (cellsFrom (s3.heap.objs.size + 1) scope.names (cloFrom X.env.cells scope.names [])) s3.heap.objs.size X.env)) (compPost (model X.prog X.w) X.A X.xe use Qf (.ref D) s3.heap.objs.size) { s3 with heap := pushCells (s3.heap.push { cls := .type "dict", data := .dict #[] }) scope.names }
  have nfp : ∀ b ∈ fp, (upd H2 D (.lst [])) b = none := fun b hb => (f3 b hb).1.1
  generalize hce : compEnvC scope (cellsFrom (s3.heap.objs.size + 1) scope.names (cloFrom X.env.cells scope.names [])) s3.heap.objs.size X.env = ce at I4 pg pt pe ⊢
  have cL : ce.locals = s3.heap.objs.size := by subst hce; rfl
  generalize hH3 : upd H2 D (.lst []) = H3 at I3 I4 pg pt pe w0 nfp f3
  generalize hs4 : ({ s3 with heap := pushCells (s3.heap.push { cls := .type "dict", data := .dict #[] }) scope.names } : Shared) = s4 at I4 ⊢
  have st4 : tn 0 s4.heap := T.keep _ _ _ st3 fun b _ o e => by rw [← hs4]; exact pushCells_keeps _ _ _ _ (Heap.get?_push_of_some _ e)
  have stat : ∀ {σ' : St} {H' : Hp} {s' : Shared}, Inv (X.blk s3 H3 scope ce fp) [] σ' H' s' → (∀ b ∈ fp, H' b = none) → ∀ b ∈ fp, FpOk (X.blk s3 H3 scope ce fp) [] H' b := fun {σ' H' s'} I' hn b hb =>
    ⟨hn b hb, (I'.ok.exf b hb).1, I'.ok.exfs b hb, .inl hb, fun x c e => (I'.ok.exf b hb).2 x c e, fun p hp => absurd (show p ∈ ([] : List (Addr × Obj)) ++ [] from hp) (by simp)⟩
  have loop : codeAny (model X.prog X.w) X.A (.compLoop (.ListComp elt [⟨tg, iter, ifs, 0⟩] scope pos) 0 (.ref it) (.ref D) ce) (compPost (model X.prog X.w) X.A X.xe use Qf (.ref D) s3.heap.objs.size) s4 := by
    refine compLoop_any (fun n s' => ∃ i H', Inv (X.blk s3 H3 scope ce fp) [] (wipe σ (own.map (·.2))) H' s' ∧ tn i s'.heap ∧ (∀ b ∈ fp, H' b = none) ∧ W i n H') ?_ m0 ⟨0, H3, I4, st4, nfp, w0⟩
    rintro n s5 ⟨i, H5, I5, st5, n5, w5⟩
    rcases turn i n H5 w5 with ⟨stop, qq⟩ | ⟨go, Nx, hNx, step⟩
    · have td := T.done (X.blk s3 H3 scope ce fp) rfl rfl rfl hc i [] s5 _ H5 (fun _ _ => False) I5 (stat I5 n5) st5 stop
      refine thnF td fun r s6 ⟨hr, I6⟩ => ?_
      subst hr
      -- back in the def's context
      have I7 : Inv X pins σ H5 s6 := I3.call' (ch := fp) I6.os I6.base I6.hok I6.bare fun b hb => ⟨(f3 b hb).1.2.2.2.1, (f3 b hb).1.2.1, (f3 b hb).1.2.2.2.2.1, (f3 b hb).1.2.2.2.2.2⟩
      have nC : H5 s3.heap.objs.size = none := by
        have z : H5 ce.locals = none := I6.free
        rw [cL] at z
        exact z
      obtain ⟨m, hn, _⟩ := I6.loc
      have hn : s6.heap.Ns ce.locals m := hn
      rw [cL] at hn
      exact hRR D s3.heap.objs.size s6 m H5 I7 qq hn (I3.fpOk (Nat.le_refl _) nC)
    · have ti := T.item (X.blk s3 H3 scope ce fp) rfl rfl rfl hc i [] s5 _ H5 (fun _ _ => False) I5 (stat I5 n5) st5 go
      refine thnF ti fun r s6 ⟨u, hr, h6⟩ => ?_
      subst hr
      refine thnF h6 fun _ s7 ⟨x, H7, I7, r7, y7, st7, n7⟩ => ?_
      have I7' := I7.pinned (stat I7 n7) (T.obj _ _ st7)
      refine thnF (pg _ s7 _ H7 x u _ I7' r7 (step x H7 y7)) fun _ s8 ⟨σ8, H8, I8, hw8, q8⟩ => ?_
      refine thnF (pt _ s8 σ8 H8 _ I8 q8) fun b s9 ⟨H9, I9, q9⟩ => ?_
      -- the turn's end
      have fin : ∀ {s' : Shared} {H' : Hp}, Inv (X.blk s3 H3 scope ce fp) ([] ++ pinsAt fp s7.heap) σ8 H' s' → Nx H' → ∃ m, m < n ∧ ∃ i H', Inv (X.blk s3 H3 scope ce fp) [] (wipe σ (own.map (·.2))) H' s' ∧ tn i s'.heap ∧ (∀ b ∈ fp, H' b = none) ∧ W i m H' := fun {s' H'} I' nx => by
        obtain ⟨m', hm, w'⟩ := hNx H' nx
        have pin' : ∀ b ∈ fp, ∀ o, s7.heap.get? b = some o → s'.heap.get? b = some o ∧ H' b = none := fun b hb o e =>
          let z := I'.pin (b, o) (List.mem_append_right _ (List.mem_append_right _ (mem_pinsAt hb e)))
          ⟨z.1, z.2.1⟩
        have hl : (wipe σ (own.map (·.2))).length = σ8.length := by rw [← hw8, wipe_length]
        refine ⟨m', hm, i + 1, H', (I'.unpinned (pins := [])).weak hl (fun j v e => ?_), T.keep _ _ _ st7 fun b hb o e => (pin' b hb o e).1, fun b hb => ?_, w'⟩
        · rw [← hw8] at e
          exact (wipe_some e).1
        · obtain ⟨o, e, _⟩ := T.obj _ _ st7 b hb
          exact (pin' b hb o e).2
      cases b with
      | false =>
        simp only [Bool.false_eq_true, if_false] at q9 ⊢
        exact fin I9 q9
      | true =>
        simp only [if_true] at q9 ⊢
        refine thnF (pe _ s9 σ8 H9 _ I9 q9) fun z s10 ⟨yv, H10, I10, r10, acc, hD10, hz10, nx⟩ => ?_
        exact app_ok (X := X.blk s3 H3 scope ce fp) I10 hD10 hz10 r10 fun s11 I11 => fin I11 nx
  exact codeAny_compStart_list loop (T.self X.A 0 _ _ _ st4 loop)
/-- as a value -/
theorem pe_lc {elt tg iter : Expr} {ifs : List Expr} {scope : Scope} {own : List (Str × Nat)} {pos : Pos} {wi : TI} {g : TG} {tt : TT} {te : TE} (hc : X.calm = true) (hN : X.N.Nodup) (hi : PI X tg iter wi) (ok : BlkOk X.N X.env.scope scope own)
    (hg : ∀ (s : Shared) (H : Hp) (C : Addr) (cl : List (Str × Addr)) (fp : List Addr), PG (X.blk s H scope (compEnvC scope cl C X.env) fp) tg g) (ht : ∀ (s : Shared) (H : Hp) (C : Addr) (cl : List (Str × Addr)) (fp : List Addr), PTs (X.blk s H scope (compEnvC scope cl C X.env) fp) ifs tt)
    (he : ∀ (s : Shared) (H : Hp) (C : Addr) (cl : List (Str × Addr)) (fp : List Addr), PE (X.blk s H scope (compEnvC scope cl C X.env) fp) elt te) (hs : ∀ x, foldedSetIterable iter X.env x = pure x := by intro _; rfl) :
    PE X (.ListComp elt [⟨tg, iter, ifs, 0⟩] scope pos) (tLc wi g tt te (own.map (·.2))) := by
  intro pins s σ H Q I h
  rw [eval_ListComp]
  refine lc_core hc hN I hi ok hg ht he hs h fun D C s' m H' I' q hn f => ⟨m, hn, fun h'' sb => ?_⟩
  obtain ⟨f0, f1, f2, f3, f4, f5⟩ := f
  exact ⟨.ref D, H', I'.turned (t' := s'.toks) (fun b o hb e => (sb.2 b hb).trans e) f0 f1 f3 f4 f5, rfl, q⟩
/-- name = [..] on one line, the name a local -/
theorem ps_setLc {i : Nat} {y : Str} {py : Pos} {elt tg iter : Expr} {ifs : List Expr} {scope : Scope} {own : List (Str × Nat)} {pos spos : Pos} {wi : TI} {g : TG} {tt : TT} {te : TE} (hc : X.calm = true) (hN : X.N.Nodup) (hy : X.N[i]? = some y) (hyl : X.env.scope.names.lookup y = some .local)
    (hsw : swapsWith (.ListComp elt [⟨tg, iter, ifs, 0⟩] scope pos) (some (.Name y py)) spos.line X.env = pure true) (hi : PI X tg iter wi) (ok : BlkOk X.N X.env.scope scope own)
    (hg : ∀ (s : Shared) (H : Hp) (C : Addr) (cl : List (Str × Addr)) (fp : List Addr), PG (X.blk s H scope (compEnvC scope cl C X.env) fp) tg g) (ht : ∀ (s : Shared) (H : Hp) (C : Addr) (cl : List (Str × Addr)) (fp : List Addr), PTs (X.blk s H scope (compEnvC scope cl C X.env) fp) ifs tt)
    (he : ∀ (s : Shared) (H : Hp) (C : Addr) (cl : List (Str × Addr)) (fp : List Addr), PE (X.blk s H scope (compEnvC scope cl C X.env) fp) elt te) (hs : ∀ x, foldedSetIterable iter X.env x = pure x := by intro _; rfl) :
    PS X (.Assign [.Name y py] (.ListComp elt [⟨tg, iter, ifs, 0⟩] scope pos) spos) (tAsg (tLc wi g tt te (own.map (·.2))) (gName i)) := by
  intro pins s σ H D I h
  rw [exec_Assign_Name_used _ _ _ _ hsw]
  refine wpAny_bind (wpAny_standAt (wpAny_bind ?_))
  show wpAny _ X.A (do let _ ← comprehension (.ListComp elt [⟨tg, iter, ifs, 0⟩] scope pos) scope X.env (firstIterPos [⟨tg, iter, ifs, 0⟩] pos) (newList []) false (eval iter X.env) (some (assign (.Name y py) X.env))) _ _ s
  have h : tLc wi g tt te (own.map (·.2)) σ H (fun x H1 => gName i x σ H1 D.nx) := h
  refine wpAny_bind (thn (lc_core (Qf := fun _ s' => SP X pins D .next s') hc hN I hi ok hg ht he hs h fun L C s' m H' I' q hn f => ?_) fun _ s' hq => wpAny_pure (wpAny_pure hq))
  show wpAny _ _ (assign (.Name y py) X.env (.ref L)) _ _ _
  refine wpAny_assign_Name (store_ok2 (v := V.ref L) I' hN hy (.inl hyl) rfl (fun s2 I2 ⟨a, sb, ha⟩ => ?_) (.inr hyl))
  obtain ⟨f0, f1, f2, f3, f4, f5⟩ := f
  have haC : C ≠ a := by
    rcases ha with z | z
    · rw [z]; exact f1
    · exact fun e => f4 y a z e.symm
  refine ⟨m, hn.sameBut sb haC, fun h3 sb3 => ?_⟩
  exact ⟨_, H', I2.turned (t' := s2.toks) (fun b o hb e => (sb3.2 b hb).trans e) f0 f1 f3 f4 f5, q⟩
theorem sw_true {elt : Expr} {gs : List Comprehension} {scope : Scope} {pos py : Pos} {y : Str} {l : Nat} {env : Env} (hk : env.scope.kind = .function) (hy : env.scope.names.lookup y = some .local) (hl : (py.line == pos.line) = true)
    (ha : (scope.names.any fun (n, k) => n == y && (k == .local || k == .cell)) = false) : swapsWith (.ListComp elt gs scope pos) (some (.Name y py)) l env = pure true := by
  have ky : env.kindOf y = some .local := hy
  have hb : env.blockKind = .function := by unfold Env.blockKind; rw [hk]; rfl
  unfold swapsWith
  simp only [hb, ky, ha, Expr.pos, hl]
  rfl
end

/-! ### the forms one uses -/
/-- over a range: Pv by the turn and the heap (the new list at D within) -/
theorem lc_range {lo : Int} {n : Nat} {g : TG} {tt : TT} {te : TE} {vs : List Nat} {σ : St} {H1 : Hp} {D : Addr} {Qd : Hp → Prop} (Pv : Nat → Hp → Prop) (h0 : Pv 0 (upd H1 D (.lst [])))
    (hs : ∀ i H, i < n → Pv i H → g (.int (lo + i)) (wipe σ vs) H fun σ2 H2 => wipe σ2 vs = wipe σ vs ∧ tt σ2 H2 fun b H3 =>
      if b = true then te σ2 H3 fun y H4 => ∃ acc, H4 D = some (.lst acc) ∧ acc.length < sizeLine ∧ Pv (i + 1) (upd H4 D (.lst (acc ++ [y]))) else Pv (i + 1) H3) (hd : ∀ H, Pv n H → Qd H) :
    ∃ W : Nat → Nat → Hp → Prop, (∃ m, W 0 m (upd H1 D (.lst []))) ∧ ∀ i m H, W i m H →
      ((Itr lo n).stop i H ∧ Qd H) ∨ ((Itr lo n).go i H ∧ ∃ Nx : Hp → Prop, (∀ H', Nx H' → ∃ m', m' < m ∧ W (i + 1) m' H') ∧ ∀ x H', (Itr lo n).yld i H x H' → g x (wipe σ vs) H' fun σ2 H2 => wipe σ2 vs = wipe σ vs ∧ tt σ2 H2 fun b H3 =>
        if b = true then te σ2 H3 fun y H4 => ∃ acc, H4 D = some (.lst acc) ∧ acc.length < sizeLine ∧ Nx (upd H4 D (.lst (acc ++ [y]))) else Nx H3) := by
  refine ⟨fun i m H => m = n - i ∧ i ≤ n ∧ Pv i H, ⟨n, by simp, Nat.zero_le _, h0⟩, ?_⟩
  rintro i m H ⟨rfl, hi, p⟩
  by_cases hlt : i < n
  · refine .inr ⟨hlt, Pv (i + 1), fun H' p' => ⟨n - (i + 1), by omega, rfl, hlt, p'⟩, fun x H' y => ?_⟩
    obtain ⟨e, y⟩ := y
    subst e y
    exact hs i _ hlt p
  · have e : i = n := by omega
    subst e
    exact .inl ⟨Nat.le_refl _, hd H p⟩
/-- over a list that the block leaves as it is -/
theorem lc_list {K : PySem.W.Frag} {a : Addr} {xs : List V} {g : TG} {tt : TT} {te : TE} {vs : List Nat} {σ : St} {H1 : Hp} {D : Addr} {Qd : Hp → Prop} (Pv : Nat → Hp → Prop) (h0 : Pv 0 (upd H1 D (.lst []))) (hl : ∀ i H, i ≤ xs.length → Pv i H → SqL K H a xs)
    (hs : ∀ i x H, xs[i]? = some x → Pv i H → g x (wipe σ vs) H fun σ2 H2 => wipe σ2 vs = wipe σ vs ∧ tt σ2 H2 fun b H3 =>
      if b = true then te σ2 H3 fun y H4 => ∃ acc, H4 D = some (.lst acc) ∧ acc.length < sizeLine ∧ Pv (i + 1) (upd H4 D (.lst (acc ++ [y]))) else Pv (i + 1) H3) (hd : ∀ H, Pv xs.length H → Qd H) :
    ∃ W : Nat → Nat → Hp → Prop, (∃ m, W 0 m (upd H1 D (.lst []))) ∧ ∀ i m H, W i m H →
      ((Itl K a).stop i H ∧ Qd H) ∨ ((Itl K a).go i H ∧ ∃ Nx : Hp → Prop, (∀ H', Nx H' → ∃ m', m' < m ∧ W (i + 1) m' H') ∧ ∀ x H', (Itl K a).yld i H x H' → g x (wipe σ vs) H' fun σ2 H2 => wipe σ2 vs = wipe σ vs ∧ tt σ2 H2 fun b H3 =>
        if b = true then te σ2 H3 fun y H4 => ∃ acc, H4 D = some (.lst acc) ∧ acc.length < sizeLine ∧ Nx (upd H4 D (.lst (acc ++ [y]))) else Nx H3) := by
  refine ⟨fun i m H => m = xs.length - i ∧ i ≤ xs.length ∧ Pv i H, ⟨xs.length, by simp, Nat.zero_le _, h0⟩, ?_⟩
  rintro i m H ⟨rfl, hi, p⟩
  have q := hl i H hi p
  by_cases hlt : i < xs.length
  · refine .inr ⟨⟨xs, xs[i], q, by simp [hlt]⟩, Pv (i + 1), fun H' p' => ⟨xs.length - (i + 1), by omega, rfl, hlt, p'⟩, fun x H' y => ?_⟩
    obtain ⟨e, y⟩ := y
    subst e
    exact hs i x _ (y xs q) p
  · have e : i = xs.length := by omega
    subst e
    exact .inl ⟨⟨xs, q, Nat.le_refl _⟩, hd H p⟩
def blkC (N : List Str) (sc scope : Scope) (own : List (Str × Nat)) : Bool :=
  (match scope.kind with | .function => true | _ => false) && (scope.names.all fun y => decide (scope.names.lookup y.1 = some y.2)) && (own.all fun p => decide (N[p.2]? = some p.1)) &&
    (scope.names.all fun y => match y.2 with
      | .free => (match sc.names.lookup y.1 with | some .cell => true | some .free => true | _ => false)
      | .local => decide (y.1 ∈ own.map (·.1)) || decide (y.1 ∉ N)
      | .cell => decide (y.1 ∈ own.map (·.1)) || decide (y.1 ∉ N)
      | _ => true)
theorem blkOk_by {N : List Str} {sc scope : Scope} {own : List (Str × Nat)} (h : blkC N sc scope own = true) : BlkOk N sc scope own := by
  unfold blkC at h
  simp only [Bool.and_eq_true, List.all_eq_true, decide_eq_true_eq] at h
  obtain ⟨⟨⟨h1, h2⟩, h3⟩, h4⟩ := h
  refine ⟨?_, h2, h3, fun y hy e => ?_, fun y hy e => ?_⟩
  · split at h1
    · assumption
    · cases h1
  · have q := h4 y hy
    simp only [e] at q
    split at q <;> first | exact .inl (by assumption) | exact .inr (by assumption) | cases q
  · have q := h4 y hy
    rcases e with e | e <;> (simp only [e, Bool.or_eq_true, decide_eq_true_eq] at q; exact q)
end L2

namespace L2
open PySem PySem.Spec PyProof.Rows

section
variable {prog : Program} {w : World} {A : Around} {R : Result → Shared → Prop} {s : Shared} {elt t0 i0 t1 i1 : Expr} {ifs0 ifs1 : List Expr} {scope : Scope} {pos : Pos} {it acc : Value} {env : Env}
end

section
variable {X : Cx}
end
end L2

namespace L2
open PySem PySem.Spec PyProof.Rows

/-! ### lists of pairs as tables -/
section
variable {κ : Type} [DecidableEq κ]
def valV (kvs : List (κ × V)) (k : κ) : Option V := (kvs.find? fun kv => decide (kv.1 = k)).map (·.2)
/-- in its place, or at the end -/
def putK (kvs : List (κ × V)) (k : κ) (v : V) : List (κ × V) :=
  if (kvs.any fun kv => decide (kv.1 = k)) = true then kvs.map (fun kv => if kv.1 = k then (kv.1, v) else kv) else kvs ++ [(k, v)]
def dropK (kvs : List (κ × V)) (k : κ) : List (κ × V) := kvs.filter fun kv => decide (kv.1 ≠ k)

theorem valV_pos {p : κ × V} {r : List (κ × V)} {k : κ} (e : p.1 = k) : valV (p :: r) k = some p.2 := by simp [valV, List.find?_cons, e]
theorem valV_neg {p : κ × V} {r : List (κ × V)} {k : κ} (e : ¬ p.1 = k) : valV (p :: r) k = valV r k := by simp [valV, List.find?_cons, e]
theorem valV_any (k : κ) : ∀ kvs : List (κ × V), (kvs.any fun kv => decide (kv.1 = k)) = (valV kvs k).isSome
  | [] => rfl
  | p :: r => by
    rw [List.any_cons]
    by_cases e : p.1 = k
    · simp only [valV_pos e, decide_eq_true e, Bool.true_or, Option.isSome_some]
    · rw [valV_neg e, decide_eq_false e, Bool.false_or]; exact valV_any k r
theorem RelO.isSome_eq {o : Option V} {u : Option Value} (r : RelO o u) : o.isSome = u.isSome := by
  cases o with
  | none => cases u with
    | none => rfl
    | some _ => exact (show False from r).elim
  | some _ => cases u with
    | none => exact (show False from r).elim
    | some _ => rfl
theorem RelO.getD {o : Option V} {u : Option Value} {d : V} {d' : Value} (r : RelO o u) (rd : RelV d d') : RelV (o.getD d) (u.getD d') := by
  cases o with
  | none => cases u with
    | none => exact rd
    | some _ => exact (show False from r).elim
  | some _ => cases u with
    | none => exact (show False from r).elim
    | some _ => exact r

/-- raw tables of the same keys -/
theorem KV.val {kvs : List (κ × V)} {vs : List (κ × Value)} (r : KV kvs vs) (k : κ) : RelO (valV kvs k) (valueAt vs k) := by
  unfold KV at r
  induction r with
  | nil => exact True.intro
  | @cons p q ps qs h t ih =>
    obtain ⟨h1, h2⟩ := h
    by_cases e : p.1 = k
    · have e' : q.1 = k := h1.symm.trans e
      have b : valueAt (q :: qs) k = some q.2 := by simp [valueAt, List.find?_cons, e']
      rw [valV_pos e, b]; exact h2
    · have e' : ¬ q.1 = k := fun z => e (h1.trans z)
      have b : valueAt (q :: qs) k = valueAt qs k := by simp [valueAt, List.find?_cons, e']
      rw [valV_neg e, b]; exact ih
theorem KV.any {kvs : List (κ × V)} {vs : List (κ × Value)} (r : KV kvs vs) (k : κ) : (kvs.any fun kv => decide (kv.1 = k)) = vs.any fun kv => decide (kv.1 = k) := by
  unfold KV at r
  induction r with
  | nil => rfl
  | cons h t ih => rw [List.any_cons, List.any_cons, ih, h.1]
theorem KV.repl {kvs : List (κ × V)} {vs : List (κ × Value)} (r : KV kvs vs) (k : κ) {y : V} {u : Value} (ry : RelV y u) :
    KV (kvs.map fun kv => if kv.1 = k then (kv.1, y) else kv) (vs.map fun kv => if kv.1 = k then (kv.1, u) else kv) := by
  unfold KV at r ⊢
  induction r with
  | nil => exact .nil
  | @cons p q ps qs h t ih =>
    rw [List.map_cons, List.map_cons]
    refine .cons ?_ ih
    obtain ⟨h1, h2⟩ := h
    by_cases e : p.1 = k
    · rw [if_pos e, if_pos (h1.symm.trans e)]; exact ⟨h1, ry⟩
    · rw [if_neg e, if_neg (fun z => e (h1.trans z))]; exact ⟨h1, h2⟩
theorem KV.put {kvs : List (κ × V)} {vs : List (κ × Value)} (r : KV kvs vs) (k : κ) {y : V} {u : Value} (ry : RelV y u) : KV (putK kvs k y) (stored vs k u) := by
  unfold putK stored
  rw [r.any k]
  by_cases e : (vs.any fun kv => decide (kv.1 = k)) = true
  · rw [if_pos e, if_pos e]; exact r.repl k ry
  · rw [if_neg e, if_neg e]; exact Paired.snoc r ⟨rfl, ry⟩
theorem KV.drop {kvs : List (κ × V)} {vs : List (κ × Value)} (r : KV kvs vs) (k : κ) : KV (dropK kvs k) (without vs k) := by
  unfold KV at r ⊢
  unfold dropK without
  induction r with
  | nil => exact .nil
  | @cons p q ps qs h t ih =>
    obtain ⟨h1, h2⟩ := h
    rw [List.filter_cons, List.filter_cons]
    by_cases e : p.1 = k
    · have a : ¬ decide (p.1 ≠ k) = true := by simp [e]
      have b : ¬ decide (q.1 ≠ k) = true := by simp [h1.symm.trans e]
      rw [if_neg a, if_neg b]; exact ih
    · have e' : ¬ q.1 = k := fun z => e (h1.trans z)
      have a : decide (p.1 ≠ k) = true := by simp [e]
      have b : decide (q.1 ≠ k) = true := by simp [e']
      rw [if_pos a, if_pos b]; exact .cons ⟨h1, h2⟩ ih
theorem KV.length {kvs : List (κ × V)} {vs : List (κ × Value)} (r : KV kvs vs) : kvs.length = vs.length := Paired.length r
end


/-! ### a tracked dict, its keys ints and texts or tuples of these -/
/-- raw entries of a dict with tuple keys -/
abbrev KT (H : Hp) : List (List Key × V) → List (List Key × Addr × Value) → Prop := Paired fun p q => p.1 = q.1 ∧ H q.2.1 = some (.tup (p.1.map kV)) ∧ RelV p.2 q.2.2
theorem KT.val {H : Hp} {kvs : List (List Key × V)} {xs : List (List Key × Addr × Value)} (r : KT H kvs xs) (k : List Key) : RelO (valV kvs k) ((atKey xs k).map (·.2)) := by
  induction r with
  | nil => exact True.intro
  | @cons p q ps qs h t ih =>
    obtain ⟨h1, _, h2⟩ := h
    by_cases e : p.1 = k
    · have e' : q.1 = k := h1.symm.trans e
      have b : atKey (q :: qs) k = some q.2 := by simp [atKey, List.find?_cons, e']
      rw [valV_pos e, b]; exact h2
    · have e' : ¬ q.1 = k := fun z => e (h1.trans z)
      have b : atKey (q :: qs) k = atKey qs k := by simp [atKey, List.find?_cons, e']
      rw [valV_neg e, b]; exact ih
theorem KT.repl {H : Hp} {kvs : List (List Key × V)} {xs : List (List Key × Addr × Value)} (r : KT H kvs xs) (k : List Key) {y : V} {u : Value} (ry : RelV y u) :
    KT H (kvs.map fun kv => if kv.1 = k then (kv.1, y) else kv) (xs.map (putAt k u)) := by
  induction r with
  | nil => exact .nil
  | @cons p q ps qs h t ih =>
    rw [List.map_cons, List.map_cons]
    refine .cons ?_ ih
    obtain ⟨h1, h2, h3⟩ := h
    unfold putAt
    by_cases e : p.1 = k
    · rw [if_pos e, if_pos (h1.symm.trans e)]; exact ⟨h1, h2, ry⟩
    · rw [if_neg e, if_neg (fun z => e (h1.trans z))]; exact ⟨h1, h2, h3⟩
theorem KT.put {H : Hp} {kvs : List (List Key × V)} {xs : List (List Key × Addr × Value)} (r : KT H kvs xs) (k : List Key) {b : Addr} {y : V} {u : Value} (hb : H b = some (.tup (k.map kV))) (ry : RelV y u) :
    KT H (putK kvs k y) (storedH xs k b u) := by
  have e : (kvs.any fun kv => decide (kv.1 = k)) = (atKey xs k).isSome := by
    rw [valV_any, (r.val k).isSome_eq, Option.isSome_map]
  unfold putK storedH
  rw [e]
  by_cases q : (atKey xs k).isSome = true
  · rw [if_pos q, if_pos q]; exact r.repl k ry
  · rw [if_neg q, if_neg q]; exact Paired.snoc r ⟨rfl, hb, ry⟩
theorem KT.keeps {H H' : Hp} {kvs : List (List Key × V)} {xs : List (List Key × Addr × Value)} (r : KT H kvs xs) (ht : ∀ b ys, H b = some (.tup ys) → H' b = some (.tup ys)) : KT H' kvs xs :=
  Paired.mapP r fun _ _ z => ⟨z.1, ht _ _ z.2.1, z.2.2⟩

section
variable {P : Program} {w : World} {H : Hp} {h : Heap} {a : Addr}
end

/-- what the dict at a holds at the key y -/
def DGet (H : Hp) (a : Addr) (y : V) (r : Option V) : Prop :=
  (∃ kvs k, Rd H a (.dK kvs) ∧ y = kV k ∧ r = valV kvs k) ∨ ∃ kvs k b, Rd H a (.dT kvs) ∧ y = .ref b ∧ H b = some (.tup (k.map kV)) ∧ r = valV kvs k
/-- the heap behind a[y] = v -/
def DPut (H : Hp) (a : Addr) (y v : V) (H' : Hp) : Prop :=
  (∃ kvs k, H a = some (.dK kvs) ∧ y = kV k ∧ kvs.length < sizeLine ∧ H' = upd H a (.dK (putK kvs k v))) ∨
  ∃ kvs k b, H a = some (.dT kvs) ∧ y = .ref b ∧ H b = some (.tup (k.map kV)) ∧ kvs.length < sizeLine ∧ H' = upd H a (.dT (putK kvs k v))
theorem DGet.k {H : Hp} {a : Addr} {kvs : List (Key × V)} {k : Key} (e : H a = some (.dK kvs)) : DGet H a (kV k) (valV kvs k) := .inl ⟨kvs, k, .inl e, rfl, rfl⟩
theorem DGet.t {H : Hp} {a b : Addr} {kvs : List (List Key × V)} {k : List Key} (e : H a = some (.dT kvs)) (eb : H b = some (.tup (k.map kV))) : DGet H a (.ref b) (valV kvs k) := .inr ⟨kvs, k, b, .inl e, rfl, eb, rfl⟩
theorem DPut.k {H : Hp} {a : Addr} {kvs : List (Key × V)} {k : Key} {v : V} (e : H a = some (.dK kvs)) (hl : kvs.length < sizeLine) : DPut H a (kV k) v (upd H a (.dK (putK kvs k v))) := .inl ⟨kvs, k, e, rfl, hl, rfl⟩
theorem DPut.t {H : Hp} {a b : Addr} {kvs : List (List Key × V)} {k : List Key} {v : V} (e : H a = some (.dT kvs)) (eb : H b = some (.tup (k.map kV))) (hl : kvs.length < sizeLine) :
    DPut H a (.ref b) v (upd H a (.dT (putK kvs k v))) := .inr ⟨kvs, k, b, e, rfl, eb, hl, rfl⟩


section
variable {X : Cx} {pins : List (Addr × Obj)} {σ : St} {H : Hp} {s : Shared} {a : Addr} {y v : V} {u r : Value} {o : Option V} {A : Around} {E : Value → Shared → Prop}

end

section
variable {X : Cx} {pins : List (Addr × Obj)} {σ : St} {H : Hp} {s : Shared} {a : Addr} {kvs : List (Key × V)} {k : Key} {u : Value} {A : Around} {E : Value → Shared → Prop}
end


/-! ### readings and rules -/
section
variable {X : Cx} {o i e value : Expr} {pos pos' tpos : Pos} {td ty tv : TE}
end


/-! ### displays -/
section
variable {X : Cx} {pos : Pos}
end

/-! ### methods -/
/-- a method call o.m(e) of a built-in, with one argument: what must be seen of the text -/
structure M1 (X : Cx) (o : Expr) (m : Str) (apos : Pos) (e : Expr) (cpos : Pos) : Prop where
  base : attributeBase o m X.env (eval o X.env) = eval o X.env
  few : ((backTo cpos (starEach [e] X.env)).all (fun x => !x.1) && (backToKw cpos (keywordEach [] X.env)).all (fun x => x.1.isSome)
    && decide (([e] : List Expr).length + ([] : List Keyword).length + (if ([] : List Keyword).isEmpty then 0 else 1) < 30)) = true
  line : (apos.endLine == cpos.line) = true
  trees : backTo cpos (starEach [e] X.env) = [(false, eval e X.env)]
structure M2 (X : Cx) (o : Expr) (m : Str) (apos : Pos) (e f : Expr) (cpos : Pos) : Prop where
  base : attributeBase o m X.env (eval o X.env) = eval o X.env
  few : ((backTo cpos (starEach [e, f] X.env)).all (fun x => !x.1) && (backToKw cpos (keywordEach [] X.env)).all (fun x => x.1.isSome)
    && decide (([e, f] : List Expr).length + ([] : List Keyword).length + (if ([] : List Keyword).isEmpty then 0 else 1) < 30)) = true
  line : (apos.endLine == cpos.line) = true
  trees : backTo cpos (starEach [e, f] X.env) = [(false, eval e X.env), (false, eval f X.env)]

section
variable {X : Cx} {pins : List (Addr × Obj)} {σ : St} {H : Hp} {s : Shared} {a : Addr} {y d : V} {u r : Value} {o : Option V} {A : Around} {E : Value → Shared → Prop}
end

section
variable {X : Cx} {o e f : Expr} {apos cpos : Pos} {td ty tx : TE}
end

/-! ### dict(d): a copy -/
section
variable {X : Cx} {pins : List (Addr × Obj)} {σ : St} {H : Hp} {s : Shared} {a : Addr} {kvs : List (Key × V)} {A : Around} {E : Value → Shared → Prop}
end


section
variable {X : Cx} {pins : List (Addr × Obj)} {σ : St} {H : Hp} {s : Shared} {a : Addr} {y : V} {u : Value} {A : Around} {E : Value → Shared → Prop}
end
end L2

namespace L2
open PySem PySem.Spec PyProof.Rows

section
variable {prog : Program} {w : World} {A : Around} {E : Value → Shared → Prop}
end

section
variable {X : Cx}
end
end L2

namespace L2
open PySem PySem.Spec PyProof.Rows

section
variable {X : Cx} {pins : List (Addr × Obj)} {σ : St} {H : Hp} {s : Shared} {h' : Heap}
/-- several records of ours have turned -/
theorem Inv.turnedL {t' : Nat} {ch : List Addr} (I : Inv X pins σ H s) (k : ∀ b o, b ∉ ch → s.heap.get? b = some o → h'.get? b = some o) (hf : ∀ b ∈ ch, FpOk X pins H b) : Inv X pins σ H { s with heap := h', toks := t' } := by
  have nit : ∀ b u, H b = some u → b ∉ ch := fun b u e z => by
    have q := (hf b z).1
    rw [q] at e; cases e
  refine I.step (g' := s.gens) (d' := s.drawn) (ch := ch) (fun b hb => ⟨(hf b hb).2.2.2.1, (hf b hb).2.1, (hf b hb).2.2.2.2.1, (hf b hb).2.2.2.2.2⟩) (fun b o _ _ hc e _ => k b o hc e) (fun b o _ _ hc e _ => ⟨o.slots, k b o hc e⟩)
    (fun _ _ _ _ n => n) (fun b o hc e => ⟨o, k b o hc e⟩) (fun _ _ e => e) (fun _ _ _ e => e) (fun b ps e => ⟨#[], by rw [e]; simp⟩) (fun m hm => ?_) (fun b u e => ?_) I.bare
  · obtain ⟨o, es, ep, ho, r⟩ := hm
    exact ⟨o, es, ep, k _ o (fun z => (hf _ z).2.1 rfl) ho, r⟩
  · refine (I.hok b u e).stay (fun c v hc q => k c v ?_ q) (fun _ q => q) fun _ _ q => q
    rcases hc with z | z
    · rw [z]; exact nit b u e
    · exact nit c _ z
/-- .. and one new object is laid -/
theorem Inv.turnedNew {t' : Nat} {ch : List Addr} {T : Addr} {ob : HO} (I : Inv X pins σ H s) (k : ∀ b o, b ∉ ch → s.heap.get? b = some o → h'.get? b = some o) (hf : ∀ b ∈ ch, FpOk X pins H b) (hT : s.heap.objs.size ≤ T)
    (new : ObjOk X.prog X.w (upd H T ob) h' T ob) : Inv X pins σ (upd H T ob) { s with heap := h', toks := t' } := by
  have hn : H T = none := I.hok.fresh hT
  have nit : ∀ b u, H b = some u → b ∉ ch := fun b u e z => by
    have q := (hf b z).1
    rw [q] at e; cases e
  refine I.step (g' := s.gens) (d' := s.drawn) (ch := ch) (fun b hb => ⟨(hf b hb).2.2.2.1, (hf b hb).2.1, (hf b hb).2.2.2.2.1, (hf b hb).2.2.2.2.2⟩) (fun b o _ _ hc e _ => k b o hc e) (fun b o _ _ hc e _ => ⟨o.slots, k b o hc e⟩)
    (fun b o _ e n => ?_) (fun b o hc e => ⟨o, k b o hc e⟩) (fun b xs e => ?_) (fun b o u e => ?_) (fun b ps e => ⟨#[], ?_⟩) (fun m hm => ?_) (fun b u e => ?_) I.bare
  · rw [upd_ne (Nat.ne_of_lt (Nat.lt_of_lt_of_le (Heap.lt_size e) hT))]; exact n
  · rw [upd_ne (ne_of_none e hn)]; exact e
  · rw [upd_ne (ne_of_none e hn)]; exact e
  · rw [upd_ne (ne_of_none e hn), e]; simp
  · obtain ⟨o, es, ep, ho, r⟩ := hm
    exact ⟨o, es, ep, k _ o (fun z => (hf _ z).2.1 rfl) ho, r⟩
  · by_cases hb : b = T
    · subst hb
      rw [upd_same] at e
      cases e
      exact new
    · rw [upd_ne hb] at e
      refine (I.hok b u e).stay (fun c v hc q => k c v ?_ q) (fun c q => by rw [upd_ne (ne_of_none q hn)]; exact q) fun c xs q => by rw [upd_ne (ne_of_none q hn)]; exact q
      rcases hc with z | z
      · rw [z]; exact nit b u e
      · exact nit c _ z

/-! ### locking a thing while a statement runs -/
end
section
variable {X : Cx}
/-! ### one iterator just laid -/
end

/-! ### range with a step -/
/-- range(i, j, c): small bounds, n items -/
def RgC (i j c : Int) (n : Nat) : Prop := c ≠ 0 ∧ c.natAbs < 1073741824 ∧ Builtin.Range.small i j c = true ∧ Builtin.Range.rangeSize i j c = n
theorem RgC.neg {i j : Int} (ha : -(2 ^ 62) ≤ i) (ha' : i < 2 ^ 62) (hb : -(2 ^ 62) ≤ j) (hb' : j < 2 ^ 62) : RgC i j (-1) (i - j).toNat :=
  ⟨by decide, by decide, PySem.W.small_down ha ha' hb hb', PySem.W.rangeSize_downNat i j⟩
section
variable {X : Cx} {tg : Expr}
end
/-! ### reversed(list) -/
section
variable {X : Cx} {tg : Expr}
end

/-! ### a str -/
/-! ### a dict's keys: any dict's entries -/
section
variable {prog : Program} {w : World} {A : Around} {E : Value → Shared → Prop} {s : Shared}
end

/-! ### a locked dict -/
section
variable {X : Cx} {pins : List (Addr × Obj)} {σ : St} {H : Hp} {s : Shared} {d : Addr} {o : Obj}
end

section
variable {P : Program} {w : World} {K : PySem.W.Frag} {tg : Expr} {d : Addr} {o : Obj} {es : Array DictEntry} {ep : Nat}
end

/-! ### for k in d, d.keys(), d.values(), d.items() -/
section
variable {X : Cx} {tg e : Expr} {td : TE} {apos cpos : Pos}
end

/-! ### enumerate(list) -/
/-- the list at a as it stands at each turn, each item in a new pair -/
def Ite (K : PySem.W.Frag) (a : Addr) : It :=
  ⟨fun i H => ∃ (xs : List V) (x : V), SqL K H a xs ∧ xs[i]? = some x, fun i H v H' => ∃ T x, v = .ref T ∧ H T = none ∧ H' = upd H T (.tup [.int (i : Nat), x]) ∧ ∀ xs, SqL K H a xs → xs[i]? = some x, fun i H => ∃ xs : List V, SqL K H a xs ∧ xs.length ≤ i⟩
theorem turn_enum {P : Program} {w : World} {K : PySem.W.Frag} {elts : List Expr} {kk : Nat} {tpos : Pos} (a e it : Addr) :
    Turn P w K (.Tuple elts kk tpos) (Ite K a) [e, it] e (fun i h => (∃ old, IsEnum h e it ((i : Nat) : Int) old) ∧ h.IsListIter it a i ∧ e ≠ it) where
  mem := by simp
  obj := fun i h st b hb => by
    obtain ⟨⟨old, he⟩, ⟨o, ho, hc, hd⟩, _⟩ := st
    have e' : b = e ∨ b = it := by simpa using hb
    rcases e' with z | z
    · rw [z]; exact ⟨_, he, fun v q => nomatch q⟩
    · rw [z]; exact ⟨o, ho, fun v q => by rw [hd] at q; cases q⟩
  keep := fun i h h' st k => let ⟨⟨old, he⟩, hi, hne⟩ := st; ⟨⟨old, k e (by simp) _ he⟩, hi.at fun o q => k it (by simp) o q, hne⟩
  item := by
    intro X hP hw hK hc i pins s σ H E I hf st hg
    subst hP hw hK
    obtain ⟨⟨old, he⟩, hit, hne⟩ := st
    obtain ⟨xs, x, hq, hx⟩ := hg
    obtain ⟨its, rv, p, hz⟩ := I.list hq
    obtain ⟨u, hu, ru⟩ := rv.get hx
    have hel : e < s.heap.objs.size := Heap.lt_size he
    have hil : it < s.heap.objs.size := by obtain ⟨_, q, _⟩ := hit; exact Heap.lt_size q
    refine wpAny_pyNext_enum_item he hit p.isList (x := u) (by simpa using hu) hne fun h' ho hit' hT hsz hk => ?_
    refine ⟨_, rfl, wpAny_letOwnedTupleGo_enum (s := { s with heap := h', toks := s.toks + 1 }) ho fun h'' he' sb => ?_⟩
    have hT2 : h''.get? s.heap.objs.size = some { cls := .type "tuple", data := .seq #[.int i s.toks, u] } := (sb.2 _ (Nat.ne_of_gt hel)).trans hT
    have new : ObjOk X.prog X.w (upd H s.heap.objs.size (.tup [.int (i : Nat), x])) h'' s.heap.objs.size (.tup [.int (i : Nat), x]) :=
      ⟨by show 2 ≤ sizeLine; decide, [.int i s.toks, u], .cons ⟨_, rfl⟩ (.cons ru .nil), ⟨_, hT2, rfl, _, rfl⟩⟩
    have I1 : Inv X pins σ (upd H s.heap.objs.size (.tup [.int (i : Nat), x])) { s with heap := h'', toks := s.toks + 1 } :=
      I.turnedNew (ch := [e, it]) (fun b ob hb q => (sb.2 b (fun z => hb (by simp [z]))).trans (hk b ob (fun z => hb (by simp [z])) (fun z => hb (by simp [z])) q)) hf (Nat.le_refl _) new
    refine ⟨.ref s.heap.objs.size, _, I1, rfl, ⟨_, x, rfl, I.hok.fresh (Nat.le_refl _), rfl, fun ys hy => by rw [I.list_inj hy hq]; exact hx⟩, ⟨⟨u, ?_⟩, hit'.at fun o q => (sb.2 it (Ne.symm hne)).trans q, hne⟩, fun b hb => ?_⟩
    · have e1 : ((i + 1 : Nat) : Int) = (i : Int) + 1 := by omega
      rw [e1]; exact he'
    · have hb' : b < s.heap.objs.size := by
        have e' : b = e ∨ b = it := by simpa using hb
        rcases e' with z | z
        · rw [z]; exact hel
        · rw [z]; exact hil
      rw [upd_ne (Nat.ne_of_lt hb')]
      exact (hf b hb).1
  done := by
    intro X hP hw hK hc i pins s σ H E I hf st hg
    subst hP hw hK
    obtain ⟨⟨old, he⟩, hit, hne⟩ := st
    obtain ⟨xs, hq, hx⟩ := hg
    obtain ⟨its, rv, p, hz⟩ := I.list hq
    obtain ⟨f0, f1, f2, f3, f4, f5⟩ := hf it (by simp)
    have hl := rv.length
    exact wpAny_pyNext_enum_end (I.ok.hd hc) he hit p.isList (by simp; omega) fun h' eb => ⟨rfl, I.turned (t' := s.toks) (fun b o hb q => eb b o hb q) f0 f1 f3 f4 f5⟩
  self := fun A i s Q E st h => let ⟨⟨_, he⟩, _⟩ := st; wpAny_pyIter_enum he h
def iEnum (K : PySem.W.Frag) (ta : TA) : TI := fun σ H R => ta σ H fun vs H1 => ∃ a xs, vs = [.ref a] ∧ SqL K H1 a xs ∧ R (Ite K a) H1
theorem pi_enum {X : Cx} {e : Expr} {ta : TA} {p pos tpos : Pos} {elts : List Expr} {kk : Nat} (hg : Gl X "enumerate") (hm : X.mg "enumerate" = none) (ha : PA X [e] ta) (hs : starEach [e] X.env = [(false, eval e X.env)] := by rfl) :
    PI X (.Tuple elts kk tpos) (.Call (.Name "enumerate" p) [e] [] pos) (iEnum X.K ta) := by
  intro pins s σ H R I h
  refine Call_ (ld_blt I hg hm boot_enumerate (PyProof.Rows.callWith_type1 (thn (ha pos pins s σ H _ I h) fun us s1 ⟨vs, H1, I1, r1, q1⟩ => ?_) hs rfl))
  obtain ⟨a, xs, ex, hq, q⟩ := q1
  subst ex
  cases r1 with
  | cons r rr =>
    cases rr
    cases r
    obtain ⟨its, rv, p', hz⟩ := I1.list hq
    refine call_enumerate_list p'.isList fun h' he hit hsz hk => wpAny_pyIter_enum he ?_
    have I2 : Inv X pins σ H1 { s1 with heap := h' } := I1.kept (t' := s1.toks) hk
    refine ⟨s1.heap.objs.size + 1, [s1.heap.objs.size + 1, s1.heap.objs.size], _, _, H1, rfl, I2, turn_enum a (s1.heap.objs.size + 1) s1.heap.objs.size, ⟨⟨.none, he⟩, hit, Nat.succ_ne_self _⟩, fun b hb => ?_, q⟩
    have e' : b = s1.heap.objs.size + 1 ∨ b = s1.heap.objs.size := by simpa using hb
    have hle : s1.heap.objs.size ≤ b := by
      rcases e' with z | z
      · rw [z]; exact Nat.le_add_right _ _
      · rw [z]; exact Nat.le_refl _
    exact I1.fpOk hle (I1.hok.fresh hle)
/-! ### zip(list, list) -/
theorem boot_zip5 : bootBuiltins "zip" = some (.type "zip") := by decide +kernel
/-- the lists at a and b as they stand at each turn, the items in new pairs -/
def Itz (K : PySem.W.Frag) (a b : Addr) : It :=
  ⟨fun i H => ∃ (xs ys : List V) (x y : V), SqL K H a xs ∧ SqL K H b ys ∧ xs[i]? = some x ∧ ys[i]? = some y,
    fun i H v H' => ∃ T x y, v = .ref T ∧ H T = none ∧ H' = upd H T (.tup [x, y]) ∧ (∀ xs, SqL K H a xs → xs[i]? = some x) ∧ ∀ ys, SqL K H b ys → ys[i]? = some y,
    fun i H => ∃ xs ys : List V, SqL K H a xs ∧ SqL K H b ys ∧ (xs.length ≤ i ∨ ys.length ≤ i)⟩
theorem turn_zip {P : Program} {w : World} {K : PySem.W.Frag} {elts : List Expr} {kk : Nat} {tpos : Pos} {a b z TI TO i1 i2 : Addr} (D : ZipApart z TI TO i1 i2 a b) :
    Turn P w K (.Tuple elts kk tpos) (Itz K a b) [z, TI, TO, i1, i2] z (fun i h => IsZip h z TI TO .none ∧ IsPair h TI (.ref i1) (.ref i2) ∧ (∃ x y, IsPair h TO x y) ∧ h.IsListIter i1 a i ∧ h.IsListIter i2 b i) where
  mem := by simp
  obj := fun i h st c hc => by
    obtain ⟨hz, hTI, ⟨x, y, hTO⟩, ⟨o1, e1, _, d1⟩, ⟨o2, e2, _, d2⟩⟩ := st
    have e' : c = z ∨ c = TI ∨ c = TO ∨ c = i1 ∨ c = i2 := by simpa using hc
    rcases e' with q | q | q | q | q
    · rw [q]; exact ⟨_, hz, fun v q => nomatch q⟩
    · rw [q]; exact ⟨_, hTI, fun v q => nomatch q⟩
    · rw [q]; exact ⟨_, hTO, fun v q => nomatch q⟩
    · rw [q]; exact ⟨o1, e1, fun v q => by rw [d1] at q; cases q⟩
    · rw [q]; exact ⟨o2, e2, fun v q => by rw [d2] at q; cases q⟩
  keep := fun i h h' st k => by
    obtain ⟨hz, hTI, ⟨x, y, hTO⟩, h1, h2⟩ := st
    exact ⟨k z (by simp) _ hz, k TI (by simp) _ hTI, ⟨x, y, k TO (by simp) _ hTO⟩, h1.at fun o q => k i1 (by simp) o q, h2.at fun o q => k i2 (by simp) o q⟩
  item := by
    intro X hP hw hK hc i pins s σ H E I hf st hg
    subst hP hw hK
    obtain ⟨hz, hTI, ⟨x0, y0, hTO⟩, h1, h2⟩ := st
    obtain ⟨xs, ys, x, y, hqx, hqy, hx, hy⟩ := hg
    obtain ⟨its, rv, p, _⟩ := I.list hqx
    obtain ⟨its2, rv2, p2, _⟩ := I.list hqy
    obtain ⟨u, hu, ru⟩ := rv.get hx
    obtain ⟨u2, hu2, ru2⟩ := rv2.get hy
    have hzl : z < s.heap.objs.size := Heap.lt_size hz
    refine wpAny_pyNext_zip_item D hz hTI hTO h1 h2 p.isList p2.isList (x := u) (y := u2) (by simpa using hu) (by simpa using hu2) fun h' z' TO' h1' h2' hT hsz hk => ?_
    refine ⟨_, rfl, wpAny_letOwnedTupleGo_zip (s := { s with heap := h' }) z' fun h'' z'' sb => ?_⟩
    have hT2 : h''.get? s.heap.objs.size = some { cls := .type "tuple", data := .seq #[u, u2] } := (sb.2 _ (Nat.ne_of_gt hzl)).trans hT
    have new : ObjOk X.prog X.w (upd H s.heap.objs.size (.tup [x, y])) h'' s.heap.objs.size (.tup [x, y]) :=
      ⟨by show 2 ≤ sizeLine; decide, [u, u2], .cons ru (.cons ru2 .nil), ⟨_, hT2, rfl, _, rfl⟩⟩
    have I1 : Inv X pins σ (upd H s.heap.objs.size (.tup [x, y])) { s with heap := h'' } :=
      I.turnedNew (t' := s.toks) (ch := [z, TI, TO, i1, i2]) (fun c o hb q => (sb.2 c (fun q' => hb (by simp [q']))).trans (hk c o (fun q' => hb (by simp [q'])) (fun q' => hb (by simp [q'])) (fun q' => hb (by simp [q'])) (fun q' => hb (by simp [q'])) q)) hf (Nat.le_refl _) new
    refine ⟨.ref s.heap.objs.size, _, I1, rfl, ⟨_, x, y, rfl, I.hok.fresh (Nat.le_refl _), rfl, fun l hl => by rw [I.list_inj hl hqx]; exact hx, fun l hl => by rw [I.list_inj hl hqy]; exact hy⟩, ⟨z'', ?_, ⟨u, u2, ?_⟩, ?_, ?_⟩, fun c hcm => ?_⟩
    · exact (sb.2 _ D.TIz).trans (hk _ _ D.TIz D.TITO D.TIi1 D.TIi2 hTI)
    · exact (sb.2 _ D.TOz).trans TO'
    · exact h1'.at fun o q => (sb.2 _ D.i1z).trans q
    · exact h2'.at fun o q => (sb.2 _ D.i2z).trans q
    · have hlt : c < s.heap.objs.size := by
        have e' : c = z ∨ c = TI ∨ c = TO ∨ c = i1 ∨ c = i2 := by simpa using hcm
        rcases e' with q | q | q | q | q
        · rw [q]; exact hzl
        · rw [q]; exact Heap.lt_size hTI
        · rw [q]; exact Heap.lt_size hTO
        · rw [q]; obtain ⟨_, e1, _⟩ := h1; exact Heap.lt_size e1
        · rw [q]; obtain ⟨_, e2, _⟩ := h2; exact Heap.lt_size e2
      rw [upd_ne (Nat.ne_of_lt hlt)]
      exact (hf c hcm).1
  done := by
    intro X hP hw hK hc i pins s σ H E I hf st hg
    subst hP hw hK
    obtain ⟨hz, hTI, ⟨x0, y0, hTO⟩, h1, h2⟩ := st
    obtain ⟨xs, ys, hqx, hqy, hend⟩ := hg
    obtain ⟨its, rv, p, _⟩ := I.list hqx
    obtain ⟨its2, rv2, p2, _⟩ := I.list hqy
    have l1 := rv.length
    have l2 := rv2.length
    have he : its.toArray[i]? = none ∨ its2.toArray[i]? = none := by
      rcases hend with q | q
      · exact .inl (by simp; omega)
      · exact .inr (by simp; omega)
    exact wpAny_pyNext_zip_end (I.ok.hd hc) D hz hTI hTO h1 h2 p.isList p2.isList he fun h' hk => ⟨rfl, I.turnedL (t' := s.toks) (ch := [z, TI, TO, i1, i2]) (fun c o hb q =>
      hk c o (fun q' => hb (by simp [q'])) (fun q' => hb (by simp [q'])) (fun q' => hb (by simp [q'])) (fun q' => hb (by simp [q'])) q) hf⟩
  self := fun A i s Q E st h => wpAny_pyIter_zip st.1 h
def iZip (K : PySem.W.Frag) (ta : TA) : TI := fun σ H R => ta σ H fun vs H1 => ∃ a b xs ys, vs = [.ref a, .ref b] ∧ SqL K H1 a xs ∧ SqL K H1 b ys ∧ R (Itz K a b) H1
theorem pi_zip {X : Cx} {e e2 : Expr} {ta : TA} {p pos tpos : Pos} {elts : List Expr} {kk : Nat} (hg : Gl X "zip") (hm : X.mg "zip" = none) (ha : PA X [e, e2] ta)
    (hs : starEach [e, e2] X.env = (false, eval e X.env) :: starEach [e2] X.env := by rfl) (hpl : (backTo pos (starEach [e2] X.env)).any (·.1) = false := by rfl) :
    PI X (.Tuple elts kk tpos) (.Call (.Name "zip" p) [e, e2] [] pos) (iZip X.K ta) := by
  intro pins s σ H R I h
  refine Call_ (ld_blt I hg hm boot_zip5 (PyProof.Rows.callWith_type1 (thn (ha pos pins s σ H _ I h) fun us s1 ⟨vs, H1, I1, r1, q1⟩ => ?_) hs hpl))
  obtain ⟨a, b, xs, ys, ex, hqx, hqy, q⟩ := q1
  subst ex
  cases r1 with
  | cons r rr =>
    cases rr with
    | cons r' rr =>
      cases rr
      cases r
      cases r'
      obtain ⟨its, rv, p1, _⟩ := I1.list hqx
      obtain ⟨its2, rv2, p2, _⟩ := I1.list hqy
      have la : a < s1.heap.objs.size := p1.lt
      have lb : b < s1.heap.objs.size := p2.lt
      refine call_zip_2 p1.isList p2.isList fun h' hz hTI hTO h1 h2 hsz hk => wpAny_pyIter_zip hz ?_
      have I2 : Inv X pins σ H1 { s1 with heap := h' } := I1.kept (t' := s1.toks) hk
      refine ⟨s1.heap.objs.size + 4, [s1.heap.objs.size + 4, s1.heap.objs.size + 2, s1.heap.objs.size + 3, s1.heap.objs.size, s1.heap.objs.size + 1], _, _, H1, rfl, I2, turn_zip (PySem.W.ktu_apart s1.heap.objs.size a b la lb), ⟨hz, hTI, ⟨_, _, hTO⟩, h1, h2⟩, fun c hcm => ?_, q⟩
      have e' : c = s1.heap.objs.size + 4 ∨ c = s1.heap.objs.size + 2 ∨ c = s1.heap.objs.size + 3 ∨ c = s1.heap.objs.size ∨ c = s1.heap.objs.size + 1 := by simpa using hcm
      have hle : s1.heap.objs.size ≤ c := by
        rcases e' with z | z | z | z | z
        · rw [z]; exact Nat.le_add_right _ _
        · rw [z]; exact Nat.le_add_right _ _
        · rw [z]; exact Nat.le_add_right _ _
        · rw [z]; exact Nat.le_refl _
        · rw [z]; exact Nat.le_add_right _ _
      exact I1.fpOk hle (I1.hok.fresh hle)
end L2

section 
namespace Bits
open PySem PyProof.Rows

end Bits
end 

section 
namespace TL
open PySem PySem.Builtin PySem.Builtin.Str PySem.StrLaws

abbrev tl (x : Str) : List Nat := x.cps.toList
/-! ### the list functions -/
/-- S stands at the head of l -/
def pre (S l : List Nat) : Bool := l.take S.length == S
/-- what stands before the first S, and behind it -/
def par (S : List Nat) : List Nat → List Nat → Option (List Nat × List Nat)
  | _, [] => none
  | acc, c :: r => if pre S (c :: r) = true then some (acc, (c :: r).drop S.length) else par S (acc ++ [c]) r

theorem pre_of_head {s c : Nat} (S r : List Nat) (h : c ≠ s) : pre (s :: S) (c :: r) = false := by
  cases hp : pre (s :: S) (c :: r) with
  | false => rfl
  | true =>
    have e : (c :: r).take (s :: S).length = s :: S := eq_of_beq hp
    rw [List.length_cons, List.take_succ_cons] at e
    injection e with e1 e2
    exact absurd e1 h
/-! ### the model's split and partition are these -/
/-! ### computing spl and par -/
/-- the separator's first sign is not in the part -/
theorem free_of {s : Nat} {S p q : List Nat} (h : s ∉ p) : ∀ i, i < p.length → pre (s :: S) ((p ++ q).drop i) = false := fun i hi => by
  have hlt : i < (p ++ q).length := by rw [List.length_append]; omega
  have e : (p ++ q).drop i = (p ++ q)[i] :: (p ++ q).drop (i + 1) := List.drop_eq_getElem_cons hlt
  rw [e]
  refine pre_of_head _ _ fun z => h ?_
  have e1 : (p ++ q)[i] = p[i] := List.getElem_append_left hi
  rw [← z, e1]
  exact List.getElem_mem hi
/-! ### digits -/
/-! ### words: x.split() -/
end TL
end 

namespace L2
open PySem PySem.Spec PyProof.Rows

section
variable {X : Cx} {pins : List (Addr × Obj)} {σ : St} {H : Hp} {s : Shared} {Q : VK}
end

section
variable {X : Cx}

/-! ### of a text alone -/
/-! ### of a text and a text -/
end

section
variable {X : Cx} {o e : Expr} {to te : TE}
end
end L2

namespace L2
open PySem PySem.Spec PyProof.Rows

section
variable {X : Cx}
end

/-! ### slices of a text -/
end L2

namespace Att
open PySem PySem.W PySem.Calls PyProof.Rows

/-! ### the script -/
theorem ints_of_wellAll {P : Params} {h : Heap} : ∀ (ns : List Int) (vs : List Value), WellAll P h vs (ns.map WData.int) → IntsAre vs ns := by
  intro ns
  induction ns with
  | nil =>
    intro vs w
    rw [List.map_nil] at w
    cases w
    exact .nil
  | cons n ns ih =>
    intro vs w
    rw [List.map_cons] at w
    cases w with
    | cons a b =>
      cases a
      exact .cons _ _ (ih _ b)

theorem script_of {l : OpenLaw} {n : Nat} (hn : l.most = some n) {P : Params} {h : Heap} {args : List WData} {vals : List Value}
    (hpre : l.row.toRowW.claim.pre args = true) (hwl : WellAll P h vals args) :
    ∃ a vs ns, vals = [Value.ref a] ∧ args = [WData.list (ns.map WData.int)] ∧ h.get? a = some { cls := .type "list", data := .seq vs.toArray } ∧ IntsAre vs ns ∧ ns.length ≤ n := by
  have hsh : WShape.hasAll [] args [.list .int] = true := (pre_splitW hpre).1
  have hc : l.pre.holds [] { args := args } = true := (pre_splitW hpre).2
  obtain ⟨d, r, rfl, h1, h2⟩ := hasAllW_cons hsh
  obtain rfl := hasAllW_nil h2
  obtain ⟨xs, rfl, h3⟩ := hasW_list h1
  obtain ⟨ns, rfl⟩ := items_int h3
  have hlen : ns.length ≤ n := by
    unfold OpenLaw.pre at hc
    have h4 : (WTm.not (.lt (.lit (.int (n : Int))) (.len (.arg 0)))).holds [] { args := [.list (ns.map .int)] } = true := by
      have h4 := (holds_andW hc).1
      rw [hn] at h4
      exact h4
    have h5 := condW_of h4 (w_not (w_lt w_lit (w_len_list (w_arg rfl))))
    rw [List.length_map] at h5
    refine Nat.le_of_not_lt fun q => ?_
    have q' : (n : Int) < ((ns.length : Nat) : Int) := by omega
    first
      | (rw [decide_eq_true q'] at h5; exact absurd h5 (by decide))
      | (simp at h5; omega)
  cases hwl with
  | cons w1 w2 =>
    cases w2
    cases w1 with
    | list ho hall => exact ⟨_, _, ns, rfl, rfl, ho, ints_of_wellAll ns _ hall, hlen⟩

theorem post_true (l : OpenLaw) (args : List WData) : l.row.toRowW.claim.post args (.bool true) args = true :=
  postW_of (r := l.row.toRowW) (X := (true == true))
    (show WShape.has [] (.bool true) .bool = true by first | rfl | decide | simp [WShape.has, WShape.arms, WShape.armsAll])
    (show (WTm.eq .res (.lit (.bool true))).value [] { args := args, res := some (.bool true), after := args } = some (.bool (true == true)) from w_eq_bool (w_res rfl) w_lit) rfl

/-! ### the attachment: holds_open's last premise (the goal 'hc' behind k_head) from a wpAny of the law's body -/
/-- the same from a codeAny of the CALL (for a layer whose function contracts speak of calls) -/
theorem attach_call {l : OpenLaw} {n : Nat} {q : Program} {loose : List Str} {XP : (Str → Option Value) → Heap → Prop} {YP : World → Heap → Prop} {d : DefRec}
    (hn : l.most = some n) (hdf : d.params.defaults = [])
    (call : ∀ (w : World) (s₀ s₁ : Shared) (mg mb : Str → Option Value) (fa : Addr) (o : Obj) (pm cd doc : Value) (a : Addr) (vs : List Value) (ns : List Int),
      Ground q loose [] XP w s₀ mg mb s₁.heap → YP w s₁.heap →
      s₁.heap.get? fa = some o → o.data = .func (docDef d.name d.params d.body d.scope pm cd doc) → s₁.heap.CodeRec cd d.name → mg d.name = some (.ref fa) →
      s₁.heap.get? a = some { cls := .type "list", data := .seq vs.toArray } → IntsAre vs ns → ns.length ≤ n → s₁.gens = #[] →
      codeAny (model l.prog w) callerA (.call (.ref fa) ⟨[.ref a], []⟩) (fun r s' => r = .ok (.ret (.bool true)) ∧ OldK s₁.heap s'.heap ∧ s'.os = s₁.os ∧ AllBare s'.gens) s₁) :
    WalkO q loose XP YP l.row.toRowW d [] (fun f vs => PySem.call f vs) := by
  intro w s₀ s₁ mg mb G Y fa o pm cd doc dV kV ho hd hcd hD hmg hg args vals as hpre hlay hrd hwl hlo
  obtain rfl : dV = .none := Dflts.none hD hdf
  obtain rfl : kV = .none := Dflts.noKw hD
  obtain ⟨a, vs, ns, rfl, rfl, hobj, hints, hlen⟩ := script_of hn hpre hwl
  refine enter_call (codeAny_mono (call w s₀ s₁ mg mb fa o pm cd doc a vs ns G Y ho (fd_plain hd) hcd hmg hobj hints hlen hg) fun r s' hq => ?_)
  obtain ⟨rfl, h2, h3, h4⟩ := hq
  exact ⟨.inl ⟨.bool true, .bool true, [], rfl, fun _ => rfl, .bool true, post_true l _, fun _ => ⟨List.Pairwise.nil, fun _ hm => (nomatch hm)⟩⟩, h2, h3, h4⟩

/-! ### rules over ANY heap (no ledger) from facts about the written part K: the library's own take a ledger (News) for what they write -/
section
variable {prog : Program} {w : World} {A : Around} {E : Value → Shared → Prop} {s : Shared} {K : Frag}

/-! the whole heap as the ledger: makes every rule that writes through a ledger a rule over any heap -/
end
end Att

namespace L2
open PySem PySem.Spec PyProof.Rows

theorem vals_ints : ∀ {vs : List Value} {ns : List Int}, IntsAre vs ns → Vals (ns.map V.int) vs
  | _, _, .nil => .nil
  | _, _, .cons n t h => .cons ⟨t, rfl⟩ (vals_ints h)

end L2

namespace L2
open PySem PySem.Spec PyProof.Rows

end L2

/- THE LAST THEOREM (shape; LID, My.* are yours):
   My.Adr: a structure of the addresses that your layer names (classes, functions); My.Txt K t: a structure (Prop) of the equations over K;
   My.txt_mk : {K} {implicit addresses ..} (e1 : nsIn K mainGlobals "law" = some (some (.ref f))) (e2 : K.lookup f = some ⟨oc, od, .func (fnOf "law" "law" params body scope dV kV doc pm an cdv ct), sl⟩) (e3 : codeIn K cdv "law" = true) .. : ∃ t, My.Txt K t

set_option maxRecDepth 100000 in
set_option maxHeartbeats 0 in
theorem PySem.Challenge.cw_LID_holds : PySem.Challenge.rw_LID.Holds := by
  w_on; o_law; k_head; (case hw => w_witness2)
  k_fill
  refine L2.walk_of (l := PySem.Challenge.rw_LID) (n := 63) (k := 40) (x := "script") (CX := fun w => ..) (sp := fun _ => My.sp_law) rfl (by decide) rfl ⟨rfl, by decide, by decide⟩ (fun w h Y => PySem.W.kIn_of Y) ?F ?S ?C
  case F =>
    intro w mg fa h KX G hmg
    have T : ∃ t, My.Txt (L2.KOf KX) t := by
      dsimp only [L2.KOf]                          -- K must stand as «<heap const> w.params» for k_is
      refine' My.txt_mk ?e1 ?e2 ?e3 ..
      (case e1 => PySem.W.k_is)                    -- in the order: a name -> its address -> its object -> its parts
      (case e2 => PySem.W.k_is)
      ..
    obtain ⟨t, T⟩ := T
    have e0 := hmg.symm.trans (PySem.W.mg_of KX G T.law)
    cases e0                                       -- fa is the law's own address
    exact ⟨_, fun s u => .of_eq rfl, fun base kb nb => My.law_fn T kb nb⟩     -- if «.of_eq rfl» comes too early: refine' ⟨_, ?b, fun base kb nb => My.law_fn T kb nb⟩; exact fun s u => .of_eq rfl
  case S => exact fun w H a ns hl hO hS => ..
  case C => exact ..
(the tactic k_is has no namespace: write k_is) -/

/-! SHORT WORDS over the layer: a def of the text, its body, what a loop and a test want. -/
namespace L2
open PySem PySem.Spec PyProof.Rows

/-! ### the text by places -/
def defArgs (s : Stmt) : Arguments := match s with
  | .FunctionDef _ a _ _ _ _ _ _ _ _ => a
  | _ => { posonlyargs := [], args := [], vararg := none, kwonlyargs := [], kw_defaults := [], kwarg := none, defaults := [] }
def defBody (s : Stmt) : List Stmt := match s with
  | .FunctionDef _ _ b _ _ _ _ _ _ _ => b
  | _ => []
def defScope (s : Stmt) : Scope := match s with
  | .FunctionDef _ _ _ _ _ _ sc _ _ _ => sc
  | _ => { kind := .function, names := [], isGenerator := false, isCoroutine := false }

/-! ### no exception leaves a def -/
abbrev CX0 : CXT := fun _ _ _ _ _ _ => False
abbrev E0 : XK := fun _ _ _ => False
theorem pass0 {X : Cx} : Passes CX0 X E0 := fun _ _ _ _ _ _ _ h => h.elim

/-! ### a def (or method) of the text as it stands behind the top -/
structure Fun (K : PySem.W.Frag) (x qual : Str) (st : Stmt) (f : Addr) (fd : FuncData) : Prop where
  ex : ∃ (oc : Value) (od : Option Addr) (kV doc pm : Value) (an : Option Addr) (cdv ct : Value) (osl : Array (Option Value)),
    fd = PySem.W.fnOf x qual (defArgs st) (defBody st) (defScope st) .none kV doc pm an cdv ct ∧ K.lookup f = some ⟨oc, od, .func fd, osl⟩ ∧ PySem.W.codeIn K cdv qual = true
  kp : PySem.W.keepIn K (.ref f) = true
section
variable {P : Program} {w : World} {K : PySem.W.Frag} {mg : Str → Option Value} {base : Heap}
/-- THE RULE for a def: its body as a term of rules, and the reading of that term -/
theorem Fun.ok {x qual : Str} {st : Stmt} {f : Addr} {fd : FuncData} {N ps : List Str} {k : Nat} {sp : Sp} (F : Fun K x qual st f fd) (S : FnScope N ps (defScope st)) (len : ∀ vs H Q E, sp vs H Q E → vs.length = ps.length)
    (hbody : ∀ (cdv : Value) (A : Around) (outer : List Env) (s : Shared) (H : Hp) (vs : List V) (Q : VK) (E : XK), Room k (A.deeper (envOfC qual (defScope st) s.heap.objs.size f cdv)) → sp vs H Q E →
      ∃ t, PSs (cxOf CX0 P w K mg base N qual (defScope st) f cdv A outer s H E).nox (defBody st) t ∧ t { nx := fun _ H' => Q .non H', rt := Q } (start N vs) H) : FnOk P w K mg base CX0 (k + 1) f fd ps sp := by
  obtain ⟨oc, od, kV, doc, pm, an, cdv, ct, osl, rfl, lk, hcd⟩ := F.ex
  refine fn_of lk hcd S len fun A outer s H vs Q E hr hsp => ?_
  obtain ⟨t, h, q⟩ := hbody cdv A outer s H vs Q E hr hsp
  exact ⟨t, h.nox, q⟩
/-- how its arguments bind (no defaults): h is «fun _ _ _ _ _ _ us hl => match us, hl with | [_, _], _ => rfl», one _ a parameter -/
theorem Fun.binds {x qual : Str} {st : Stmt} {f : Addr} {fd : FuncData} {ps : List Str} (F : Fun K x qual st f fd)
    (h : ∀ (kV doc pm : Value) (an : Option Addr) (cdv ct : Value) (us : List Value), us.length = ps.length → bindArgs (PySem.W.fnOf x qual (defArgs st) (defBody st) (defScope st) .none kV doc pm an cdv ct) ⟨us, []⟩ = pure (ps.zip us)) : Binds K fd ps [] := by
  obtain ⟨oc, od, kV, doc, pm, an, cdv, ct, osl, rfl, lk, hcd⟩ := F.ex
  exact .all (h kV doc pm an cdv ct)
theorem fun_mk {x qual : Str} {st : Stmt} {f : Addr} {oc : Value} {od an : Option Addr} {osl : Array (Option Value)} {kV doc pm cdv ct : Value} (l : K.lookup f = some ⟨oc, od, .func (PySem.W.fnOf x qual (defArgs st) (defBody st) (defScope st) .none kV doc pm an cdv ct), osl⟩)
    (c : PySem.W.codeIn K cdv qual = true) (k : PySem.W.keepIn K (.ref f) = true) : Fun K x qual st f (PySem.W.fnOf x qual (defArgs st) (defBody st) (defScope st) .none kV doc pm an cdv ct) := ⟨⟨oc, od, kV, doc, pm, an, cdv, ct, osl, rfl, l, c⟩, k⟩
end
theorem small1000 {n : Nat} (h : n ≤ 1000) : n < sizeLine := Nat.lt_of_le_of_lt h (by decide)

/-! ### expressions in short: the name that stands in the i-th slot -/
section
variable {X : Cx}
theorem pv (i : Nat) {x : Str} {pos : Pos} (hN : X.N[i]? = some x := by rfl) (hv : Vis X.env.scope x := by first | exact Or.inl rfl | exact Or.inr (Or.inl rfl) | exact Or.inr (Or.inr rfl)) (hd : (x == ("__debug__" : Str)) = false := by decide)
    (hcd : (x == ("__classdict__" : Str)) = false := by decide) : PE X (.Name x pos) (tVar i) := pe_var hN hv hd hcd
end

/-! ### tests -/
/-! ### heaps -/
/-- all that was tracked is as it was -/
def Same (H H' : Hp) : Prop := ∀ b o, H b = some o → H' b = some o
theorem Same.refl (H : Hp) : Same H H := fun _ _ h => h
theorem Same.trans {H H1 H2 : Hp} (a : Same H H1) (b : Same H1 H2) : Same H H2 := fun c o h => b c o (a c o h)
theorem Same.free {H H' : Hp} (e : Same H H') {l : Addr} (h : H' l = Option.none) : H l = Option.none := by
  cases q : H l with
  | none => rfl
  | some o =>
    rw [e l o q] at h
    cases h
theorem Same.seq {K : PySem.W.Frag} {H H' : Hp} {a : Addr} {xs : List V} (e : Same H H') (h : SqL K H a xs) : SqL K H' a xs := by
  rcases h with (h | ⟨o, h⟩) | h
  · exact .inl (.inl (e _ _ h))
  · exact .inl (.inr ⟨o, e _ _ h⟩)
  · exact .inr h

/-! ### a dict's pairs: keys that differ -/
section
variable {κ : Type} [DecidableEq κ]
end
/-! ### lists -/
end L2
end
section
set_option Elab.async false
set_option linter.all false
set_option maxRecDepth 100000
namespace L2
open PySem PySem.Spec PyProof.Rows
section
variable {X : Cx}
def CDivB (_i j : Int) : Prop := j ≠ 0 ∧ j.natAbs < 2 ^ 8000
theorem CDivB.no {i j : Int} (h : CDivB i j) : Builtin.divisionGoesByPylong i j = false := by
  refine PyProof.noPylong_of_log2 ?_
  have h0 : j.natAbs ≠ 0 := by have := h.1; omega
  have := (Nat.log2_lt h0).mpr h.2
  omega
theorem op_fdivB : OpR X (binaryOp .FloorDiv) (rI CDivB fun i j => .int (i.fdiv j)) := opI fun _ _ _ _ _ _ _ hc q => floordiv_int hc.1 q (.inl hc.no)
theorem op_mulB : OpR X (binaryOp .Mult) (rI IntMulOk fun i j => .int (i * j)) := opI fun _ _ _ _ _ _ _ hc q => mul_int q hc
theorem mulOk {a b : Int} {m n : Nat} (ha : a.natAbs < 2 ^ m) (hb : b.natAbs < 2 ^ n) (h : m + n ≤ 134217728) : IntMulOk a b :=
  mulOk_of_bits (intBits_le_iff.mpr ha) (intBits_le_iff.mpr hb) h
theorem mulOkR {a b : Int} (hb : b.natAbs < 2 ^ 64) : IntMulOk a b := .of_right (intBits_le_iff.mpr hb)
theorem mulOkL {a b : Int} (hb : a.natAbs < 2 ^ 64) : IntMulOk a b := .of_left (intBits_le_iff.mpr hb)
/-- ints, texts, lists -/
def rAddA : R2 := fun x y H Q => rI0 (fun i j => .int (i + j)) x y H Q ∨ rCat x y H Q
theorem op_addA : OpR X (binaryOp .Add) rAddA := OpR.or op_add op_cat
def rIsB : R2 := fun x y H Q => ∃ a b, x = .bl a ∧ y = .bl b ∧ Q (.bl (a == b)) H
def rNotB : R2 := fun x y H Q => ∃ a b, x = .bl a ∧ y = .bl b ∧ Q (.bl (!(a == b))) H
theorem op_isB : OpR X (compareOp .Is) rIsB := by
  intro pins s σ H x y v u Q I rx ry h
  obtain ⟨a, b, rfl, rfl, q⟩ := h
  cases rx
  cases ry
  exact PySem.wpAny_is_plain (by cases a <;> cases b <;> rfl) (fin_bl I q (by cases a <;> cases b <;> rfl))
def rIsA : R2 := fun x y H Q => (y = .non ∧ Q (.bl (decide (x = .non))) H) ∨ rIsB x y H Q
def rNotA : R2 := fun x y H Q => (y = .non ∧ Q (.bl (!decide (x = .non))) H) ∨ rNotB x y H Q
theorem op_isA : OpR X (compareOp .Is) rIsA := OpR.or op_isN op_isB
def rEqA (K : PySem.W.Frag) : R2 := fun x y H Q => rEq x y H Q ∨ rEqD K x y H Q
def rNeA (K : PySem.W.Frag) : R2 := fun x y H Q => rNe x y H Q ∨ rNeD K x y H Q
theorem op_eqA (hu : X.A.units + 64 < cLine) : OpR X (compareOp .Eq) (rEqA X.K) := OpR.or op_eq (op_eqD hu)
theorem op_neA (hu : X.A.units + 64 < cLine) : OpR X (compareOp .NotEq) (rNeA X.K) := OpR.or op_ne (op_neD hu)
/-- isinstance(x, c), c a type's own name or a class -/
def rIsi (K : PySem.W.Frag) : List V → Hp → VK → Prop := fun xs H Q => ∃ x y c t b, xs = [x, y] ∧ (y = .ty c) ∧ TyOf K H x t ∧ PySem.W.kitOne K t (.type c) = some b ∧ Q (.bl b) H
theorem call_isi : CallR X (.builtin "isinstance") (rIsi X.K) := by
  intro pins s σ H xs us Q I r h
  obtain ⟨x, y, c, t, b, rfl, rfl, ty, e, q⟩ := h
  cases r with
  | cons rx r' =>
    cases r' with
    | cons ry r'' =>
      cases r''
      cases ry
      exact isinst_ok I rx ty e fun tk => ⟨.bl b, H, I.tok _, rfl, q⟩
end
end L2
end
section
namespace My
/-- the divisor with the bottom's sign -/
def sg (t b : Int) : Int := if b < 0 then -((t.natAbs.gcd b.natAbs : Nat) : Int) else ((t.natAbs.gcd b.natAbs : Nat) : Int)
theorem gcd_pos {t b : Int} (hb : b ≠ 0) : 0 < t.natAbs.gcd b.natAbs := Nat.gcd_pos_of_pos_right _ (by omega)
theorem sg_ne {t b : Int} (hb : b ≠ 0) : sg t b ≠ 0 := by
  have h := gcd_pos (t := t) hb
  unfold sg
  split <;> omega
theorem sg_abs {t b : Int} : (sg t b).natAbs = t.natAbs.gcd b.natAbs := by
  unfold sg
  split <;> omega
theorem sg_le {t b : Int} (hb : b ≠ 0) : (sg t b).natAbs ≤ b.natAbs := by
  rw [sg_abs]
  exact Nat.le_of_dvd (by omega) (Nat.gcd_dvd_right _ _)
theorem low_num {t b : Int} (hb : b ≠ 0) : t.fdiv (sg t b) = (Rat.divInt t b).num := by
  rw [Rat.num_divInt]
  have hg := gcd_pos (t := t) hb
  have d1 : ((t.natAbs.gcd b.natAbs : Nat) : Int) ∣ t := Int.ofNat_dvd_left.mpr (Nat.gcd_dvd_left _ _)
  have e : b.gcd t = t.natAbs.gcd b.natAbs := by rw [Int.gcd, Nat.gcd_comm]
  rw [e]
  obtain ⟨c, hc⟩ := d1
  generalize hG : ((t.natAbs.gcd b.natAbs : Nat) : Int) = G at *
  have hG0 : G ≠ 0 := by omega
  unfold sg
  rw [hG]
  by_cases h : b < 0
  · rw [if_pos h, Int.sign_eq_neg_one_of_neg h, hc, Int.fdiv_neg, Int.neg_one_mul, ← Int.mul_neg, Int.mul_ediv_cancel_left _ hG0]
    have hdv : G ∣ G * c := Int.dvd_mul_right _ _
    rw [if_pos hdv, Int.mul_fdiv_cancel_left _ hG0]
    exact hG0
  · rw [if_neg h, Int.sign_eq_one_of_pos (by omega), hc, Int.one_mul, Int.mul_ediv_cancel_left _ hG0, Int.mul_fdiv_cancel_left _ hG0]
theorem low_den {t b : Int} (hb : b ≠ 0) : b.fdiv (sg t b) = ((Rat.divInt t b).den : Int) := by
  rw [Rat.den_divInt, if_neg hb]
  have hg := gcd_pos (t := t) hb
  have e : b.gcd t = t.natAbs.gcd b.natAbs := by rw [Int.gcd, Nat.gcd_comm]
  rw [e]
  obtain ⟨c, hc⟩ := Nat.gcd_dvd_right t.natAbs b.natAbs
  generalize hG : t.natAbs.gcd b.natAbs = G at *
  have e2 : b.natAbs / G = c := by rw [hc, Nat.mul_div_cancel_left _ hg]
  rw [e2]
  unfold sg
  rw [hG]
  have hG0 : (G : Int) ≠ 0 := by omega
  by_cases h : b < 0
  · rw [if_pos h]
    have : b = (-(G : Int)) * c := by
      have : (b.natAbs : Int) = (G : Int) * c := by rw [hc]; simp
      rw [Int.neg_mul]; omega
    rw [this, Int.mul_fdiv_cancel_left _ (by omega)]
  · rw [if_neg h]
    have : b = (G : Int) * c := by
      have : (b.natAbs : Int) = (G : Int) * c := by rw [hc]; simp
      omega
    rw [this, Int.mul_fdiv_cancel_left _ hG0]
theorem den_le {t b : Int} (hb : b ≠ 0) : (Rat.divInt t b).den ≤ b.natAbs := by
  rw [Rat.den_divInt, if_neg hb]
  exact Nat.div_le_self _ _
theorem q_add (q r : Rat) : Rat.divInt (q.num * r.den + r.num * q.den) (q.den * r.den) = q + r := by
  have h1 := q.den_nz
  have h2 := r.den_nz
  rw [← Rat.divInt_add_divInt _ _ (by omega) (by omega), Rat.num_divInt_den, Rat.num_divInt_den]
theorem q_sub (q r : Rat) : Rat.divInt (q.num * r.den - r.num * q.den) (q.den * r.den) = q - r := by
  have h1 := q.den_nz
  have h2 := r.den_nz
  rw [← Rat.divInt_sub_divInt _ _ (by omega) (by omega), Rat.num_divInt_den, Rat.num_divInt_den]
theorem q_mul (q r : Rat) : Rat.divInt (q.num * r.num) (q.den * r.den) = q * r := by
  rw [← Rat.divInt_mul_divInt, Rat.num_divInt_den, Rat.num_divInt_den]
theorem dd_ne (q r : Rat) : (q.den : Int) * r.den ≠ 0 := by
  have h1 := q.den_nz
  have h2 := r.den_nz
  exact Int.mul_ne_zero (by omega) (by omega)
end My
end
section
set_option Elab.async false
set_option linter.all false
set_option maxRecDepth 100000
namespace L2
open PySem PySem.Spec PyProof.Rows
/-- a def that may be called by its name -/
structure Cal (P : Program) (w : World) (K : PySem.W.Frag) (mg : Str → Option Value) (base : Heap) (k : Nat) (x : Str) (ps : List Str) (sp : Sp) : Prop where
  ex : ∃ f fd, FnOk P w K mg base CX0 k f fd ps sp ∧ mg x = some (.ref f) ∧ PySem.W.keepIn K (.ref f) = true ∧ Binds K fd ps []
theorem pe_callC {X : Cx} {k j : Nat} {x : Str} {ps : List Str} {sp : Sp} {p pos : Pos} {e : Expr} {es : List Expr} {t : TA} (C : Cal X.prog X.w X.K X.mg X.base k x ps sp) (hr : Room j X.A) (hj : k ≤ j) (hg : Gl X x)
    (ha : PA X (e :: es) t) (hdb : (x == ("__debug__" : Str)) = false := by decide) (he : starEach (e :: es) X.env = (false, eval e X.env) :: starEach es X.env := by rfl) (hpl : (backTo pos (starEach es X.env)).any (·.1) = false := by rfl) :
    PE X (.Call (.Name x p) (e :: es) [] pos) (tCall sp [] E0 t) := by
  obtain ⟨f, fd, F, m, k, b⟩ := C.ex
  exact pe_call F (hr.mono hj) hg m k b .nil pass0 ha hdb he hpl
theorem cal_of {P : Program} {w : World} {K : PySem.W.Frag} {mg : Str → Option Value} {base : Heap} {x qual : Str} {st : Stmt} {f : Addr} {fd : FuncData} {N ps : List Str} {k : Nat} {sp : Sp} (F : Fun K x qual st f fd) (S : FnScope N ps (defScope st)) (m : mg x = some (.ref f)) (b : Binds K fd ps [])
    (len : ∀ vs H Q E, sp vs H Q E → vs.length = ps.length)
    (hbody : ∀ (cdv : Value) (A : Around) (outer : List Env) (s : Shared) (H : Hp) (vs : List V) (Q : VK) (E : XK), Room k (A.deeper (envOfC qual (defScope st) s.heap.objs.size f cdv)) → sp vs H Q E →
      ∃ t, PSs (cxOf CX0 P w K mg base N qual (defScope st) f cdv A outer s H E).nox (defBody st) t ∧ t { nx := fun _ H' => Q .non H', rt := Q } (start N vs) H) : Cal P w K mg base (k + 1) x ps sp :=
  ⟨f, fd, F.ok S len hbody, m, F.kp, b⟩
/-- a fraction -/
structure Fr (m : Nat) (H : Hp) (v : V) (q : Rat) : Prop where
  at_ : ∃ a, v = .ref a ∧ H a = some (.tup [.int q.num, .int q.den])
  nb : q.num.natAbs < 2 ^ m
  db : q.den < 2 ^ m
theorem Fr.mono {m : Nat} {H H' : Hp} {v : V} {q : Rat} (s : Same H H') (h : Fr m H v q) : Fr m H' v q := by
  obtain ⟨⟨a, e, h1⟩, h2, h3⟩ := h
  exact ⟨⟨a, e, s _ _ h1⟩, h2, h3⟩
theorem same_upd {H : Hp} {p : Addr} {o : HO} (h : H p = none) : Same H (upd H p o) := fun b u e => by
  rw [upd_ne (ne_of_none e h)]; exact e
end L2
end
section
set_option Elab.async false
set_option linter.all false
set_option maxRecDepth 100000
namespace L2
open PySem PySem.Spec PyProof.Rows
theorem bt_abs : bootBuiltins "abs" = some (.builtin "abs") := by decide +kernel
theorem bt_isinstance : bootBuiltins "isinstance" = some (.builtin "isinstance") := by decide +kernel
theorem bt_int : bootBuiltins "int" = some (.type "int") := by decide +kernel
theorem bt_bool : bootBuiltins "bool" = some (.type "bool") := by decide +kernel
theorem bt_tuple : bootBuiltins "tuple" = some (.type "tuple") := by decide +kernel
theorem bt_list : bootBuiltins "list" = some (.type "list") := by decide +kernel
theorem bt_ValueError : bootBuiltins "ValueError" = some (.type "ValueError") := by decide +kernel
theorem bt_len : bootBuiltins "len" = some (.builtin "len") := by decide +kernel
/-! ### heaps: tuples stay; all stays but r -/
def Tk (H H' : Hp) : Prop := ∀ b xs, H b = some (.tup xs) → H' b = some (.tup xs)
def Kp (r : Addr) (H H' : Hp) : Prop := ∀ b o, H b = some o → b ≠ r → H' b = some o
theorem Tk.refl (H : Hp) : Tk H H := fun _ _ h => h
theorem Tk.trans {H H1 H2 : Hp} (a : Tk H H1) (b : Tk H1 H2) : Tk H H2 := fun c o h => b c o (a c o h)
theorem Kp.refl {r : Addr} (H : Hp) : Kp r H H := fun _ _ h _ => h
theorem Kp.trans {r : Addr} {H H1 H2 : Hp} (a : Kp r H H1) (b : Kp r H1 H2) : Kp r H H2 := fun c o h n => b c o (a c o h n) n
theorem Same.tk {H H' : Hp} (s : Same H H') : Tk H H' := fun _ _ h => s _ _ h
theorem Same.kp {r : Addr} {H H' : Hp} (s : Same H H') : Kp r H H' := fun _ _ h _ => s _ _ h
theorem tk_upd {H : Hp} {r : Addr} {xs : List V} {o : HO} (h : H r = some (.lst xs)) : Tk H (upd H r o) := fun b ys e => by
  rw [upd_ne (ne_of e h (by intro z; cases z))]; exact e
theorem kp_upd {H : Hp} {r : Addr} {o : HO} : Kp r H (upd H r o) := fun b u e n => by rw [upd_ne n]; exact e
theorem Fr.tk {m : Nat} {H H' : Hp} {v : V} {q : Rat} (s : Tk H H') (h : Fr m H v q) : Fr m H' v q := by
  obtain ⟨⟨a, e, h1⟩, h2, h3⟩ := h
  exact ⟨⟨a, e, s _ _ h1⟩, h2, h3⟩
theorem Fr.le {m n : Nat} {H : Hp} {v : V} {q : Rat} (l : m ≤ n) (h : Fr m H v q) : Fr n H v q :=
  ⟨h.at_, Nat.lt_of_lt_of_le h.nb (Nat.pow_le_pow_right (by decide) l), Nat.lt_of_lt_of_le h.db (Nat.pow_le_pow_right (by decide) l)⟩
/-- a spot -/
structure Spt (m : Nat) (H : Hp) (v : V) (p : Rat × Rat) : Prop where
  ex : ∃ a x y, v = .ref a ∧ H a = some (.tup [x, y]) ∧ Fr m H x p.1 ∧ Fr m H y p.2
theorem Spt.tk {m : Nat} {H H' : Hp} {v : V} {p : Rat × Rat} (s : Tk H H') (h : Spt m H v p) : Spt m H' v p := by
  obtain ⟨a, x, y, e, h1, h2, h3⟩ := h.ex
  exact ⟨a, x, y, e, s _ _ h1, h2.tk s, h3.tk s⟩
theorem Spt.le {m n : Nat} {H : Hp} {v : V} {p : Rat × Rat} (l : m ≤ n) (h : Spt m H v p) : Spt n H v p := by
  obtain ⟨a, x, y, e, h1, h2, h3⟩ := h.ex
  exact ⟨a, x, y, e, h1, h2.le l, h3.le l⟩
/-- the row of the law's draws: a number and a count -/
structure Row (n : Nat) (H : Hp) (r : Addr) : Prop where
  ex : ∃ (c : Int) (k : Int), H r = some (.lst [.int c, .int k]) ∧ 0 ≤ k ∧ k ≤ n
theorem Row.mono {n : Nat} {H H' : Hp} {r : Addr} (s : Same H H') (h : Row n H r) : Row n H' r := by
  obtain ⟨c, k, e, l⟩ := h.ex
  exact ⟨c, k, s _ _ e, l⟩
theorem Row.tk {n : Nat} {H H' : Hp} {r : Addr} (h : Row n H r) (k : Kp r H H') : Tk H H' := fun b xs e => by
  obtain ⟨c, m, e2, l⟩ := h.ex
  exact k _ _ e (ne_of e e2 (by intro z; cases z))
theorem row_new {H : Hp} {r : Addr} {c : Int} : Row 0 (upd H r (.lst [.int c, .int 0])) r := ⟨c, 0, upd_same, by decide, by decide⟩
/-! ### items -/
section
variable {K : PySem.W.Frag} {H : Hp} {Q : VK} {x y : V} {q r : Rat} {m n : Nat} {p p' : Rat × Rat}
theorem ix_fr0 (h : Fr m H x q) (k : Q (.int q.num) H) : rIx K x (.int 0) H Q := by
  obtain ⟨a, e, h1⟩ := h.at_
  exact .inr (.inl ⟨a, _, 0, _, e, rfl, SqT.of h1, rfl, k⟩)
theorem ix_fr1 (h : Fr m H x q) (k : Q (.int q.den) H) : rIx K x (.int 1) H Q := by
  obtain ⟨a, e, h1⟩ := h.at_
  exact .inr (.inl ⟨a, _, 1, _, e, rfl, SqT.of h1, rfl, k⟩)
theorem ix_sp0 (h : Spt m H x p) (k : ∀ v, Fr m H v p.1 → Q v H) : rIx K x (.int 0) H Q := by
  obtain ⟨a, x, y, e, h1, h2, h3⟩ := h.ex
  exact .inr (.inl ⟨a, _, 0, _, e, rfl, SqT.of h1, rfl, k _ h2⟩)
theorem ix_sp1 (h : Spt m H x p) (k : ∀ v, Fr m H v p.2 → Q v H) : rIx K x (.int 1) H Q := by
  obtain ⟨a, x, y, e, h1, h2, h3⟩ := h.ex
  exact .inr (.inl ⟨a, _, 1, _, e, rfl, SqT.of h1, rfl, k _ h3⟩)
theorem ix_lst {a : Addr} {xs : List V} {j : Nat} {v : V} (h : H a = some (.lst xs)) (e : xs[j]? = some v) (k : Q v H) : rIx K (.ref a) (.int j) H Q :=
  .inl ⟨a, xs, j, v, rfl, rfl, SqL.of h, atI_nat e, k⟩
theorem ix_lst0 {a : Addr} {xs : List V} {v : V} (h : H a = some (.lst (v :: xs))) (k : Q v H) : rIx K (.ref a) (.int 0) H Q := ix_lst (j := 0) h rfl k
theorem ix_lst1 {a : Addr} {xs : List V} {u v : V} (h : H a = some (.lst (u :: v :: xs))) (k : Q v H) : rIx K (.ref a) (.int 1) H Q := ix_lst (j := 1) h rfl k
theorem add_i {i j : Int} (k : Q (.int (i + j)) H) : rAddA (.int i) (.int j) H Q := .inl ⟨i, j, rfl, rfl, k⟩
theorem eq_i {i j : Int} (k : Q (.bl (decide (i = j))) H) : rEqA K (.int i) (.int j) H Q := .inl ⟨rfl, by
  have e : decide ((V.int i) = V.int j) = decide (i = j) := by simp
  rw [e]; exact k⟩
theorem ne_i {i j : Int} (k : Q (.bl (!decide (i = j))) H) : rNeA K (.int i) (.int j) H Q := .inl ⟨rfl, by
  have e : decide ((V.int i) = V.int j) = decide (i = j) := by simp
  rw [e]; exact k⟩
theorem eq_b {i j : Bool} (k : Q (.bl (decide (i = j))) H) : rEqA K (.bl i) (.bl j) H Q := .inl ⟨rfl, by
  have e : decide ((V.bl i) = V.bl j) = decide (i = j) := by simp
  rw [e]; exact k⟩
theorem ne_b {i j : Bool} (k : Q (.bl (!decide (i = j))) H) : rNeA K (.bl i) (.bl j) H Q := .inl ⟨rfl, by
  have e : decide ((V.bl i) = V.bl j) = decide (i = j) := by simp
  rw [e]; exact k⟩
/-- a fraction as data -/
def dF (q : Rat) : PyData := .tuple [.int q.num, .int q.den]
def dS (p : Rat × Rat) : PyData := .tuple [dF p.1, dF p.2]
theorem Fr.dp (h : Fr m H x q) : Dp K H x (dF q) := by
  obtain ⟨a, e, h1⟩ := h.at_
  subst e
  exact .tup (SqT.of h1) (.cons (.int _) (.cons (.int _) .nil))
theorem Spt.dp (h : Spt m H x p) : Dp K H x (dS p) := by
  obtain ⟨a, x, y, e, h1, h2, h3⟩ := h.ex
  subst e
  exact .tup (SqT.of h1) (.cons h2.dp (.cons h3.dp .nil))
theorem dF_eqv {q r : Rat} : PyData.eqv (dF q) (dF r) = decide (q = r) := by
  have e : PyData.eqv (dF q) (dF r) = ((q.num == r.num) && ((q.den : Int) == r.den)) := by
    simp [dF, PyData.eqv, PyData.eqvAll]
  rw [e]
  by_cases h : q = r
  · subst h; simp
  · rw [decide_eq_false h]
    cases h1 : (q.num == r.num && (q.den : Int) == r.den) with
    | false => rfl
    | true =>
      rw [Bool.and_eq_true, beq_iff_eq, beq_iff_eq] at h1
      exact absurd (Rat.ext h1.1 (by omega)) h
theorem dS_eqv {q r : Rat × Rat} : PyData.eqv (dS q) (dS r) = decide (q = r) := by
  have e : PyData.eqv (dS q) (dS r) = (PyData.eqv (dF q.1) (dF r.1) && PyData.eqv (dF q.2) (dF r.2)) := by
    simp [dS, PyData.eqv, PyData.eqvAll]
  rw [e, dF_eqv, dF_eqv]
  by_cases h : q = r
  · subst h; simp
  · rw [decide_eq_false h]
    cases h1 : (decide (q.1 = r.1) && decide (q.2 = r.2)) with
    | false => rfl
    | true =>
      rw [Bool.and_eq_true, decide_eq_true_iff, decide_eq_true_iff] at h1
      exact absurd (Prod.ext h1.1 h1.2) h
theorem dF_sh (q : Rat) : SeqAt.shaped (dF q) = true := rfl
theorem dS_sh (q : Rat × Rat) : SeqAt.shaped (dS q) = true := rfl
theorem ne_f (h1 : Fr m H x q) (h2 : Fr n H y r) (k : Q (.bl (!decide (q = r))) H) : rNeA K x y H Q := .inr ⟨_, _, h1.dp, h2.dp, dF_sh q, dF_sh r, by rw [dF_eqv]; exact k⟩
theorem rI_ii {C : Int → Int → Prop} {g : Int → Int → V} {i j : Int} : rI C g (.int i) (.int j) H Q ↔ C i j ∧ Q (g i j) H := by
  constructor
  · rintro ⟨a, b, e1, e2, h⟩
    cases e1
    cases e2
    exact h
  · exact fun h => ⟨i, j, rfl, rfl, h⟩
theorem rI0_ii {g : Int → Int → V} {i j : Int} : rI0 g (.int i) (.int j) H Q ↔ Q (g i j) H := by
  constructor
  · rintro ⟨a, b, e1, e2, h⟩
    cases e1
    cases e2
    exact h
  · exact fun h => ⟨i, j, rfl, rfl, h⟩
theorem rU_i {g : Int → V} {i : Int} : rU g (.int i) H Q ↔ Q (g i) H := by
  constructor
  · rintro ⟨a, e1, h⟩
    cases e1
    exact h
  · exact fun h => ⟨i, rfl, h⟩
theorem add_ii {i j : Int} : rAddA (.int i) (.int j) H Q ↔ Q (.int (i + j)) H := by
  constructor
  · rintro (⟨a, b, e1, e2, h⟩ | ⟨a, b, xs, zs, e1, _⟩)
    · cases e1
      cases e2
      exact h
    · cases e1
  · exact add_i
theorem im2 {b : Int} : IntMulOk 2 b ↔ True := ⟨fun _ => trivial, fun _ => mulOkL (by decide)⟩
theorem cp10_7 : CPow 10 7 ↔ True := ⟨fun _ => trivial, fun _ => by refine ⟨?_, ?_, ?_⟩ <;> decide⟩
theorem cp10_8 : CPow 10 8 ↔ True := ⟨fun _ => trivial, fun _ => by refine ⟨?_, ?_, ?_⟩ <;> decide⟩
theorem cp10_9 : CPow 10 9 ↔ True := ⟨fun _ => trivial, fun _ => by refine ⟨?_, ?_, ?_⟩ <;> decide⟩
theorem cp10_14 : CPow 10 14 ↔ True := ⟨fun _ => trivial, fun _ => by refine ⟨?_, ?_, ?_⟩ <;> decide⟩
theorem cp10_18 : CPow 10 18 ↔ True := ⟨fun _ => trivial, fun _ => by refine ⟨?_, ?_, ?_⟩ <;> decide⟩
theorem cp10_26 : CPow 10 26 ↔ True := ⟨fun _ => trivial, fun _ => by refine ⟨?_, ?_, ?_⟩ <;> decide⟩
theorem cp10_27 : CPow 10 27 ↔ True := ⟨fun _ => trivial, fun _ => by refine ⟨?_, ?_, ?_⟩ <;> decide⟩
theorem cp10_28 : CPow 10 28 ↔ True := ⟨fun _ => trivial, fun _ => by refine ⟨?_, ?_, ?_⟩ <;> decide⟩
theorem cp10_29 : CPow 10 29 ↔ True := ⟨fun _ => trivial, fun _ => by refine ⟨?_, ?_, ?_⟩ <;> decide⟩
theorem cp10_30 : CPow 10 30 ↔ True := ⟨fun _ => trivial, fun _ => by refine ⟨?_, ?_, ?_⟩ <;> decide⟩
theorem set_l0 {a : Addr} {u v w : V} {Q : Hp → Prop} (h : H a = some (.lst [u, w])) (k : Q (upd H a (.lst [v, w]))) : rSetL (.ref a) (.int 0) v H Q := ⟨a, _, 0, 0, rfl, rfl, h, rfl, k⟩
theorem set_l1 {a : Addr} {u v w : V} {Q : Hp → Prop} (h : H a = some (.lst [u, w])) (k : Q (upd H a (.lst [u, v]))) : rSetL (.ref a) (.int 1) v H Q := ⟨a, _, 1, 1, rfl, rfl, h, rfl, k⟩
/-- a test, both ways -/
theorem ite_d {c A B : Prop} [Decidable c] (h1 : c → A) (h2 : ¬ c → B) : if decide c = true then A else B := by
  by_cases h : c
  · rw [decide_eq_true h]; exact h1 h
  · rw [decide_eq_false h, if_neg Bool.false_ne_true]; exact h2 h
theorem cx_K {CX : CXT} {P : Program} {w : World} {K : PySem.W.Frag} {mg : Str → Option Value} {base : Heap} {N : List Str} {qual : Str} {scope : Scope} {f : Addr} {cd : Value} {A : Around} {outer : List Env} {s : Shared} {H : Hp} {E : XK} : (cxOf CX P w K mg base N qual scope f cd A outer s H E).K = K := rfl
theorem ite_n {c A B : Prop} [Decidable c] (h1 : ¬ c → A) (h2 : c → B) : if (!decide c) = true then A else B := by
  by_cases h : c
  · rw [decide_eq_true h]; exact h2 h
  · rw [decide_eq_false h]; exact h1 h
end
end L2
end
section
set_option Elab.async false
set_option linter.all false
set_option maxRecDepth 100000
namespace L2
open PySem PySem.Spec PyProof.Rows
section
variable {prog : Program} {w : World} {A : Around} {E : Value → Shared → Prop} {s : Shared}
theorem isList_push {h : Heap} {t : Addr} {items : Array Value} (ht : h.IsList t items) (o : Obj) : (h.push o).IsList t items :=
  let ⟨ol, ho, r⟩ := ht; ⟨ol, Heap.get?_push_of_some _ ho, r⟩
theorem isList_ext {h h' : Heap} {t b : Addr} {items : Array Value} (ht : h.IsList t items) (hs : Heap.ExtBut b h h') (hab : t ≠ b) : h'.IsList t items :=
  let ⟨ol, ho, r⟩ := ht; ⟨ol, hs t ol hab ho, r⟩
theorem draw_listL {it t : Addr} {items : Array Value} (hne : t ≠ it) : ∀ (n i : Nat) (s : Shared) (Q : List Value → Shared → Prop), s.heap.IsListIter it t i → s.heap.IsList t items → i + n ≤ items.size →
    (∀ h' : Heap, h'.IsListIter it t (i + n) → Heap.SameBut it s.heap h' → Q ((items.toList.drop i).take n) { s with heap := h' }) → wpAny (model prog w) A (draw (.ref it) n) Q E s
  | 0, i, s, Q, hit, _, _, hQ => by
    show wpAny _ _ (pure []) Q E s
    exact wpAny_pure (by simpa using hQ s.heap hit (Heap.SameBut.refl ..))
  | n + 1, i, s, Q, hit, ht, hle, hQ => by
    have hlt : i < items.size := by omega
    show wpAny _ _ (pyNext (.ref it) >>= _) Q E s
    refine wpAny_bind (wpAny_pyNext_list_item hit ht (x := items[i]) (by simp [hlt]) fun h₁ hit₁ hs₁ => ?_)
    refine wpAny_bind (wpAny_holding (draw_listL hne n (i + 1) _ _ hit₁ (isList_ext ht hs₁.extBut hne) (by omega) fun h₂ hit₂ hs₂ => wpAny_pure ?_))
    have hd : items.toList.drop i = items[i] :: items.toList.drop (i + 1) := by simp [List.drop_eq_getElem_cons, hlt]
    have := hQ h₂ (by rw [show i + (n + 1) = i + 1 + n by omega]; exact hit₂) (hs₁.trans hs₂)
    rw [hd, List.take_succ_cons] at this
    exact this
theorem unpackItems_listL {t : Addr} {items : Array Value} {Q : List Value → Shared → Prop} (hh : A.handled = none) (ht : s.heap.IsList t items)
    (hQ : ∀ h' : Heap, Heap.ExtBut s.heap.objs.size s.heap h' → Q items.toList { s with heap := h' }) : wpAny (model prog w) A (unpackItems (.ref t) items.size none) Q E s := by
  have hlt : t ≠ s.heap.objs.size := by obtain ⟨o, ho, _⟩ := ht; exact Nat.ne_of_lt (Heap.lt_size ho)
  unfold unpackItems
  refine wpAny_bind ?_
  · unfold notIterableAtAll
    refine wpAny_bind (wpAny_specialOf ht.typeIs PySem.slot_list_iter.lookup ?_)
    refine wpAny_pure ?_
    simp only [Bool.false_eq_true, if_false]
    refine wpAny_bind (wpAny_holding (wpAny_pyIter_list ht ?_))
    refine wpAny_bind (wpAny_holding (draw_listL hlt items.size 0 _ _ ⟨_, Heap.get?_push_size _ rfl, rfl, rfl⟩ (isList_push ht _) (by omega) fun h₁ hit₁ hs₁ => ?_))
    have hall : List.take items.size (List.drop 0 items.toList) = items.toList := by
      rw [List.drop_zero]; exact List.take_of_length_le (by simp)
    rw [hall]
    rw [if_neg (by simp)]
    have ht₁ : h₁.IsList t items := isList_ext (isList_push ht _) hs₁.extBut hlt
    refine wpAny_bind (wpAny_holding (wpAny_pyNext_list_end hh hit₁ ht₁ (by simp) fun h₂ he₂ => ?_))
    simp only [Option.isSome_none, Bool.false_eq_true, if_false]
    refine wpAny_pure (hQ h₂ fun b o hb e => he₂ b o hb (hs₁.extBut b o hb (Heap.get?_push_of_some _ e)))
theorem assign_Tuple_listL {env : Env} {elts : List Expr} {x1} {pos : Pos} {t : Addr} {items : Array Value} {Q : Unit → Shared → Prop} (hh : A.handled = none) (ht : s.heap.IsList t items)
    (hn : (assignEach elts env).length = items.size) (hstar : (assignEach elts env).findIdx? (·.1) = none)
    (h : ∀ h' : Heap, Heap.ExtBut s.heap.objs.size s.heap h' → wpAny (model prog w) A (assignInOrder ((assignEach elts env).map (·.2)) items.toList) Q E { s with heap := h' }) :
    wpAny (model prog w) A (assign (.Tuple elts x1 pos) env (.ref t)) Q E s := by
  rw [assign_Tuple]
  refine wpAny_bind (wpAny_standAt ?_)
  unfold unpack
  rw [hn, hstar]
  exact wpAny_bind (wpAny_holding (unpackItems_listL hh ht h))
end
/-- (a, b, ..) = a tuple, or a list, of that length -/
def gSeq (K : PySem.W.Frag) (n : Nat) (t : TGs) : TG := fun v σ H Q => ∃ a xs, v = .ref a ∧ (SqT K H a xs ∨ SqL K H a xs) ∧ xs.length = n ∧ t xs σ H Q
theorem pg_seq {X : Cx} {pos : Pos} {es : List Expr} {k : Nat} {t : TGs} {n : Nat} (hc : X.calm = true) (h : PGs X es t)
    (hn : (assignEach es X.env).length = n := by rfl) (hst : (assignEach es X.env).findIdx? (·.1) = none := by rfl) : PG X (.Tuple es k pos) (gSeq X.K n t) := by
  intro pins s σ H v u Q I r hw
  obtain ⟨a, xs, e1, hq, hl, hw⟩ := hw
  rcases hq with hq | hq
  · exact pg_tup hc h hn hst pins s σ H v u Q I r ⟨a, xs, e1, hq, hl, hw⟩
  subst e1
  cases r
  obtain ⟨its, rv, ht, hz⟩ := I.list hq
  refine assign_Tuple_listL (I.ok.hd hc) ht.isList (by simp [hn, ← hl, rv.length]) hst fun h' hx => ?_
  have I1 : Inv X pins σ H { s with heap := h' } := I.kept (t' := s.toks) fun b o e => hx b o (Nat.ne_of_lt (Heap.lt_size e)) e
  exact h pins _ σ H xs _ Q I1 (by simpa using rv) hw
section
variable {K : PySem.W.Frag} {H : Hp} {σ : St} {x : V} {q : Rat} {p : Rat × Rat} {m n : Nat} {t : TGs} {Q : St → Hp → Prop}
theorem seq_t {a : Addr} {xs : List V} (h : H a = some (.tup xs)) (hn : xs.length = n) (k : t xs σ H Q) : gSeq K n t (.ref a) σ H Q := ⟨a, xs, rfl, .inl (SqT.of h), hn, k⟩
theorem seq_fr (h : Fr m H x q) (k : t [.int q.num, .int q.den] σ H Q) : gSeq K 2 t x σ H Q := by
  obtain ⟨a, rfl, h1⟩ := h.at_
  exact seq_t h1 rfl k
theorem seq_sp (h : Spt m H x p) (k : ∀ u v, Fr m H u p.1 → Fr m H v p.2 → t [u, v] σ H Q) : gSeq K 2 t x σ H Q := by
  obtain ⟨a, u, v, rfl, h1, h2, h3⟩ := h.ex
  exact seq_t h1 rfl (k _ _ h2 h3)
end
/-! ### loops and comprehensions, folded -/
def ForJ (J : It) (g : TG) (tb : TS) (D : Ends) (σ : St) (H : Hp) : Prop := ∃ W : Nat → Nat → St → Hp → Prop, (∃ m, W 0 m σ H) ∧ ∀ i m σ H, W i m σ H →
  (J.stop i H ∧ D.nx σ H) ∨ (J.go i H ∧ ∃ N : St → Hp → Prop, (∀ σ' H', N σ' H' → ∃ m', m' < m ∧ W (i + 1) m' σ' H') ∧ ∀ x H', J.yld i H x H' → g x σ H' fun σ2 H2 => tb { D with nx := N, ct := N, bk := D.nx } σ2 H2)
def ForL (K : PySem.W.Frag) (a : Addr) (g : TG) (tb : TS) (D : Ends) (σ : St) (H : Hp) : Prop := (∃ xs, SqL K H a xs) ∧ ForJ (Itl K a) g tb D σ H
def ForR (lo : Int) (n : Nat) (g : TG) (tb : TS) (D : Ends) (σ : St) (H : Hp) : Prop := ForJ (Itr lo n) g tb D σ H
section
variable {K : PySem.W.Frag} {a : Addr} {g : TG} {tb : TS} {D : Ends} {σ : St} {H : Hp}
theorem tFor_list {tl : TE} : tFor (iList K tl) g tb D σ H = tl σ H fun x H1 => ∃ a, x = .ref a ∧ ForL K a g tb D σ H1 := rfl
theorem tFor_rng1 {ta : TA} : tFor (iRng1 ta) g tb D σ H = ta σ H fun vs H1 => ∃ j : Int, vs = [.int j] ∧ -(2 ^ 62) ≤ j ∧ j < 2 ^ 62 ∧ ForR 0 j.toNat g tb D σ H1 := rfl
theorem tFor_rng2 {ta : TA} : tFor (iRng2 ta) g tb D σ H = ta σ H fun vs H1 => ∃ i j : Int, vs = [.int i, .int j] ∧ (-(2 ^ 62) ≤ i ∧ i < 2 ^ 62 ∧ -(2 ^ 62) ≤ j ∧ j < 2 ^ 62) ∧ ForR i (j - i).toNat g tb D σ H1 := rfl
theorem forL {xs : List V} (Pv : Nat → St → Hp → Prop) (h0 : Pv 0 σ H) (hl : ∀ i σ H, i ≤ xs.length → Pv i σ H → SqL K H a xs)
    (hs : ∀ i x σ H, xs[i]? = some x → Pv i σ H → g x σ H fun σ2 H2 => tb { D with nx := Pv (i + 1), ct := Pv (i + 1), bk := D.nx } σ2 H2) (hd : ∀ σ H, Pv xs.length σ H → D.nx σ H) : ForL K a g tb D σ H :=
  ⟨⟨xs, hl 0 σ H (Nat.zero_le _) h0⟩, for_list Pv h0 hl hs hd⟩
theorem forR {lo : Int} {n : Nat} (Pv : Nat → St → Hp → Prop) (h0 : Pv 0 σ H)
    (hs : ∀ i σ H, i < n → Pv i σ H → g (.int (lo + i)) σ H fun σ2 H2 => tb { D with nx := Pv (i + 1), ct := Pv (i + 1), bk := D.nx } σ2 H2) (hd : ∀ σ H, Pv n σ H → D.nx σ H) : ForR lo n g tb D σ H := for_range Pv h0 hs hd
end
def LcJ (J : It) (g : TG) (tt : TT) (te : TE) (vs : List Nat) (D : Addr) (σ : St) (H1 : Hp) (Qd : Hp → Prop) : Prop := ∃ W : Nat → Nat → Hp → Prop, (∃ m, W 0 m (upd H1 D (.lst []))) ∧ ∀ i m H, W i m H →
  (J.stop i H ∧ Qd H) ∨ (J.go i H ∧ ∃ Nx : Hp → Prop, (∀ H', Nx H' → ∃ m', m' < m ∧ W (i + 1) m' H') ∧ ∀ x H', J.yld i H x H' → g x (wipe σ vs) H' fun σ2 H2 => wipe σ2 vs = wipe σ vs ∧ tt σ2 H2 fun b H3 =>
    if b = true then te σ2 H3 fun y H4 => ∃ acc, H4 D = some (.lst acc) ∧ acc.length < sizeLine ∧ Nx (upd H4 D (.lst (acc ++ [y]))) else Nx H3)
section
variable {K : PySem.W.Frag} {g : TG} {tt : TT} {te : TE} {vs : List Nat} {σ : St} {H : Hp} {Q : VK}
theorem tLc_rng1 {ta : TA} : tLc (iRng1 ta) g tt te vs σ H Q = ta σ H fun us H1 => ∃ j : Int, us = [.int j] ∧ -(2 ^ 62) ≤ j ∧ j < 2 ^ 62 ∧ ∀ D, H1 D = none → LcJ (Itr 0 j.toNat) g tt te vs D σ H1 (fun H' => Q (.ref D) H') := rfl
theorem tLc_rng2 {ta : TA} : tLc (iRng2 ta) g tt te vs σ H Q = ta σ H fun us H1 => ∃ i j : Int, us = [.int i, .int j] ∧ (-(2 ^ 62) ≤ i ∧ i < 2 ^ 62 ∧ -(2 ^ 62) ≤ j ∧ j < 2 ^ 62) ∧ ∀ D, H1 D = none → LcJ (Itr i (j - i).toNat) g tt te vs D σ H1 (fun H' => Q (.ref D) H') := rfl
theorem tLc_list {tl : TE} : tLc (iList K tl) g tt te vs σ H Q = tl σ H fun x H1 => ∃ a, x = .ref a ∧ (∃ xs, SqL K H1 a xs) ∧ ∀ D, H1 D = none → LcJ (Itl K a) g tt te vs D σ H1 (fun H' => Q (.ref D) H') := rfl
theorem lcR {lo : Int} {n : Nat} {D : Addr} {Qd : Hp → Prop} (Pv : Nat → Hp → Prop) (h0 : Pv 0 (upd H D (.lst [])))
    (hs : ∀ i H, i < n → Pv i H → g (.int (lo + i)) (wipe σ vs) H fun σ2 H2 => wipe σ2 vs = wipe σ vs ∧ tt σ2 H2 fun b H3 =>
      if b = true then te σ2 H3 fun y H4 => ∃ acc, H4 D = some (.lst acc) ∧ acc.length < sizeLine ∧ Pv (i + 1) (upd H4 D (.lst (acc ++ [y]))) else Pv (i + 1) H3) (hd : ∀ H, Pv n H → Qd H) : LcJ (Itr lo n) g tt te vs D σ H Qd := lc_range Pv h0 hs hd
theorem lcL {a : Addr} {xs : List V} {D : Addr} {Qd : Hp → Prop} (Pv : Nat → Hp → Prop) (h0 : Pv 0 (upd H D (.lst []))) (hl : ∀ i H, i ≤ xs.length → Pv i H → SqL K H a xs)
    (hs : ∀ i x H, xs[i]? = some x → Pv i H → g x (wipe σ vs) H fun σ2 H2 => wipe σ2 vs = wipe σ vs ∧ tt σ2 H2 fun b H3 =>
      if b = true then te σ2 H3 fun y H4 => ∃ acc, H4 D = some (.lst acc) ∧ acc.length < sizeLine ∧ Pv (i + 1) (upd H4 D (.lst (acc ++ [y]))) else Pv (i + 1) H3) (hd : ∀ H, Pv xs.length H → Qd H) : LcJ (Itl K a) g tt te vs D σ H Qd := lc_list (K := K) (a := a) (xs := xs) Pv h0 hl hs hd
end
theorem cat_l {H : Hp} {Q : VK} {a b : Addr} {xs ys : List V} (h1 : H a = some (.lst xs)) (h2 : H b = some (.lst ys)) (hl : xs.length + ys.length ≤ sizeLine) (k : ∀ p, H p = none → Q (.ref p) (upd H p (.lst (xs ++ ys)))) : rAddA (.ref a) (.ref b) H Q :=
  .inr ⟨a, b, xs, ys, rfl, rfl, h1, h2, hl, k⟩
theorem cut_len {xs : List V} {n : Nat} (h : xs.length ≤ 63) (lo hi : Option Int) (hn : n ≤ 1000) : n + (cutV xs lo hi).length ≤ sizeLine := by
  have := cutV_length xs lo hi
  have e : 2000 ≤ sizeLine := by decide
  omega
theorem cut_mem {xs : List V} {lo hi : Option Int} {x : V} (h : x ∈ cutV xs lo hi) : x ∈ xs := List.mem_of_mem_drop (List.mem_of_mem_take h)
theorem cells_int {ns : List Int} {lo hi : Option Int} {x : V} (h : x ∈ V.int 0 :: cutV (ns.map V.int) lo hi) : ∃ z, x = V.int z := by
  rcases List.mem_cons.mp h with h | h
  · exact ⟨0, h⟩
  · obtain ⟨z, _, e⟩ := List.mem_map.mp (cut_mem h)
    exact ⟨z, e.symm⟩
end L2
end
section
set_option Elab.async false
set_option linter.all false
set_option maxRecDepth 100000
namespace L2
open PySem PySem.Spec PyProof.Rows
/-! ### any data: none, truths, ints, texts, tuples, lists (not at r) -/
mutual
inductive Rp (r : Addr) (H : Hp) : V → PyData → Prop
  | non : Rp r H .non .none
  | bl (b : Bool) : Rp r H (.bl b) (.bool b)
  | int (i : Int) : Rp r H (.int i) (.int i)
  | str (x : Str) : Rp r H (.str x) (.str x)
  | lst {a : Addr} {xs : List V} {ds : List PyData} : H a = some (.lst xs) → a ≠ r → RpAll r H xs ds → Rp r H (.ref a) (.list ds)
  | tup {a : Addr} {xs : List V} {ds : List PyData} : H a = some (.tup xs) → a ≠ r → RpAll r H xs ds → Rp r H (.ref a) (.tuple ds)
inductive RpAll (r : Addr) (H : Hp) : List V → List PyData → Prop
  | nil : RpAll r H [] []
  | cons {v : V} {vs : List V} {d : PyData} {ds : List PyData} : Rp r H v d → RpAll r H vs ds → RpAll r H (v :: vs) (d :: ds)
end
mutual
theorem Rp.kp {r : Addr} {H H' : Hp} (k : Kp r H H') : ∀ (d : PyData) (v : V), Rp r H v d → Rp r H' v d
  | .none, _, h => by cases h; exact .non
  | .bool b, _, h => by cases h; exact .bl b
  | .int i, _, h => by cases h; exact .int i
  | .str x, _, h => by cases h; exact .str x
  | .list ds, _, h => by
    cases h with
    | lst h1 h2 h3 => exact .lst (k _ _ h1 h2) h2 (RpAll.kp k ds _ h3)
  | .tuple ds, _, h => by
    cases h with
    | tup h1 h2 h3 => exact .tup (k _ _ h1 h2) h2 (RpAll.kp k ds _ h3)
  | .dict _, _, h => by cases h
theorem RpAll.kp {r : Addr} {H H' : Hp} (k : Kp r H H') : ∀ (ds : List PyData) (vs : List V), RpAll r H vs ds → RpAll r H' vs ds
  | [], _, h => by cases h; exact .nil
  | d :: ds, _, h => by
    cases h with
    | cons h1 h2 => exact .cons (Rp.kp k d _ h1) (RpAll.kp k ds _ h2)
end
theorem Rp.up {r : Addr} {H H' : Hp} {v : V} {d : PyData} (k : Kp r H H') (h : Rp r H v d) : Rp r H' v d := Rp.kp k d v h
mutual
theorem Rp.dp {K : PySem.W.Frag} {r : Addr} {H : Hp} : ∀ (d : PyData) (v : V), Rp r H v d → Dp K H v d
  | .none, _, h => by cases h; exact .non
  | .bool b, _, h => by cases h; exact .bl b
  | .int i, _, h => by cases h; exact .int i
  | .str x, _, h => by cases h; exact .str x
  | .list ds, _, h => by
    cases h with
    | lst h1 h2 h3 => exact .lst (SqL.of h1) (RpAll.dp ds _ h3)
  | .tuple ds, _, h => by
    cases h with
    | tup h1 h2 h3 => exact .tup (SqT.of h1) (RpAll.dp ds _ h3)
  | .dict _, _, h => by cases h
theorem RpAll.dp {K : PySem.W.Frag} {r : Addr} {H : Hp} : ∀ (ds : List PyData) (vs : List V), RpAll r H vs ds → DpAll K H vs ds
  | [], _, h => by cases h; exact .nil
  | d :: ds, _, h => by
    cases h with
    | cons h1 h2 => exact .cons (Rp.dp d _ h1) (RpAll.dp ds _ h2)
end
theorem RpAll.len {r : Addr} {H : Hp} : ∀ {vs : List V} {ds : List PyData}, RpAll r H vs ds → vs.length = ds.length
  | _, _, .nil => rfl
  | _, _, .cons _ h => by rw [List.length_cons, List.length_cons, h.len]
def tyN : PyData → String
  | .none => "NoneType" | .bool _ => "bool" | .int _ => "int" | .str _ => "str" | .list _ => "list" | .tuple _ => "tuple" | .dict _ => "dict"
theorem Rp.ty {K : PySem.W.Frag} {r : Addr} {H : Hp} {v : V} {d : PyData} (h : Rp r H v d) : TyOf K H v (.type (tyN d)) := by
  cases h with
  | non => exact .non
  | bl b => exact .bl b
  | int i => exact .int i
  | str x => exact .str x
  | lst h1 h2 h3 => exact .lst h1
  | tup h1 h2 h3 => exact .tup h1
def isInt : PyData → Bool
  | .int _ => true | .bool _ => true | _ => false
def isBool : PyData → Bool
  | .bool _ => true | _ => false
def isTup : PyData → Bool
  | .tuple _ => true | _ => false
def isLst : PyData → Bool
  | .list _ => true | _ => false
/-- a whole number -/
def isWh : PyData → Bool
  | .int _ => true | _ => false
section
variable {K : PySem.W.Frag} {r : Addr} {H : Hp} {v : V} {d : PyData} {Q : VK}
theorem isi_int (h : Rp r H v d) (k : Q (.bl (isInt d)) H) : rIsi K [v, .ty "int"] H Q := by
  refine ⟨v, _, "int", .type (tyN d), isInt d, rfl, rfl, h.ty, ?_, k⟩
  cases h <;> rfl
theorem isi_bool (h : Rp r H v d) (k : Q (.bl (isBool d)) H) : rIsi K [v, .ty "bool"] H Q := by
  refine ⟨v, _, "bool", .type (tyN d), isBool d, rfl, rfl, h.ty, ?_, k⟩
  cases h <;> rfl
theorem isi_tup (h : Rp r H v d) (k : Q (.bl (isTup d)) H) : rIsi K [v, .ty "tuple"] H Q := by
  refine ⟨v, _, "tuple", .type (tyN d), isTup d, rfl, rfl, h.ty, ?_, k⟩
  cases h <;> rfl
theorem isi_lst (h : Rp r H v d) (k : Q (.bl (isLst d)) H) : rIsi K [v, .ty "list"] H Q := by
  refine ⟨v, _, "list", .type (tyN d), isLst d, rfl, rfl, h.ty, ?_, k⟩
  cases h <;> rfl
theorem isi_bl {b : Bool} (k : Q (.bl true) H) : rIsi K [.bl b, .ty "bool"] H Q := isi_bool (r := 0) (.bl b) k
theorem isWh_and : (if isInt d = true then !isBool d else false) = isWh d := by cases d <;> rfl
/-- a fraction is data -/
theorem Fr.rp {m : Nat} {q : Rat} {xs : List V} (hr : H r = some (.lst xs)) (h : Fr m H v q) : Rp r H v (dF q) := by
  obtain ⟨a, rfl, h1⟩ := h.at_
  exact .tup h1 (ne_of h1 hr (by intro z; cases z)) (.cons (.int _) (.cons (.int _) .nil))
/-- items that are data for which P holds -/
def AllG (P : PyData → Prop) (r : Addr) (H : Hp) (xs : List V) : Prop := ∀ x ∈ xs, ∃ d, Rp r H x d ∧ P d
theorem AllG.nil {P : PyData → Prop} : AllG P r H [] := fun _ h => nomatch h
theorem AllG.cons {P : PyData → Prop} {xs : List V} (h : Rp r H v d) (p : P d) (hs : AllG P r H xs) : AllG P r H (v :: xs) := fun x hx => by
  rcases List.mem_cons.mp hx with rfl | hx
  · exact ⟨d, h, p⟩
  · exact hs x hx
theorem AllG.append {P : PyData → Prop} {xs ys : List V} (h : AllG P r H xs) (h' : AllG P r H ys) : AllG P r H (xs ++ ys) := fun x hx => (List.mem_append.mp hx).elim (h x) (h' x)
theorem AllG.kp {P : PyData → Prop} {H' : Hp} {xs : List V} (k : Kp r H H') (h : AllG P r H xs) : AllG P r H' xs := fun x hx => let ⟨d, h1, h2⟩ := h x hx; ⟨d, h1.up k, h2⟩
theorem ix_any {a : Addr} {xs : List V} {i : Int} (h : H a = some (.lst xs)) (i0 : 0 ≤ i) (i1 : i < xs.length) (k : ∀ x ∈ xs, Q x H) : rIx K (.ref a) (.int i) H Q := by
  obtain ⟨j, rfl⟩ := Int.eq_ofNat_of_zero_le i0
  have hj : j < xs.length := by omega
  exact ix_lst h (List.getElem?_eq_getElem hj) (k _ (List.getElem_mem hj))
end
end L2
end
section
set_option Elab.async false
set_option linter.all false
set_option maxRecDepth 100000
namespace L2
open PySem PySem.Spec PyProof.Rows
def NewT (xs : List V) (H : Hp) (Q : VK) : Prop := xs.length ≤ sizeLine ∧ ∀ p, H p = none → Q (.ref p) (upd H p (.tup xs))
def NewL (xs : List V) (H : Hp) (Q : VK) : Prop := xs.length ≤ sizeLine ∧ ∀ p, H p = none → Q (.ref p) (upd H p (.lst xs))
theorem tTup_new {t : TA} {σ : St} {H : Hp} {Q : VK} : tTup t σ H Q = t σ H fun xs H1 => NewT xs H1 Q := rfl
theorem tLst_new {t : TA} {σ : St} {H : Hp} {Q : VK} : tLst t σ H Q = t σ H fun xs H1 => NewL xs H1 Q := rfl
def rLen (K : PySem.W.Frag) : List V → Hp → VK → Prop := fun xs H Q => ∃ p ys, xs = [.ref p] ∧ (SqL K H p ys ∨ SqT K H p ys) ∧ Q (.int ys.length) H
theorem call_lenA {X : Cx} : CallR X (.builtin "len") (rLen X.K) := call_len_seq
section
variable {K : PySem.W.Frag} {r : Addr} {H : Hp} {v : V} {d : PyData} {Q : VK} {n : Nat}
theorem newT {xs : List V} (hl : xs.length ≤ 1000) (k : ∀ p H', Same H H' → H p = none → H' p = some (.tup xs) → Q (.ref p) H') : NewT xs H Q :=
  ⟨Nat.le_of_lt (small1000 hl), fun p hp => k p _ (same_upd hp) hp upd_same⟩
theorem newL {xs : List V} (hl : xs.length ≤ 1000) (k : ∀ p H', Same H H' → H p = none → H' p = some (.lst xs) → Q (.ref p) H') : NewL xs H Q :=
  ⟨Nat.le_of_lt (small1000 hl), fun p hp => k p _ (same_upd hp) hp upd_same⟩
theorem newTR {xs : List V} {ds : List PyData} (hr : Row n H r) (hx : RpAll r H xs ds) (hl : xs.length ≤ 1000) (k : ∀ p H', Same H H' → Row n H' r → Rp r H' (.ref p) (.tuple ds) → Q (.ref p) H') : NewT xs H Q := by
  obtain ⟨_, _, e, _⟩ := hr.ex
  exact newT hl fun p H' s hp e2 => k p H' s (hr.mono s) (.tup e2 (ne_of_none e hp).symm (RpAll.kp s.kp _ _ hx))
theorem newLR {xs : List V} {ds : List PyData} (hr : Row n H r) (hx : RpAll r H xs ds) (hl : xs.length ≤ 1000) (k : ∀ p H', Same H H' → Row n H' r → Rp r H' (.ref p) (.list ds) → Q (.ref p) H') : NewL xs H Q := by
  obtain ⟨_, _, e, _⟩ := hr.ex
  exact newL hl fun p H' s hp e2 => k p H' s (hr.mono s) (.lst e2 (ne_of_none e hp).symm (RpAll.kp s.kp _ _ hx))
theorem RpAll.append : ∀ {xs ys : List V} {ds es : List PyData}, RpAll r H xs ds → RpAll r H ys es → RpAll r H (xs ++ ys) (ds ++ es)
  | _, _, _, _, .nil, h => h
  | _, _, _, _, .cons a t, h => .cons a (RpAll.append t h)
theorem catR {a b : V} {ds es : List PyData} (hr : Row n H r) (h1 : Rp r H a (.list ds)) (h2 : Rp r H b (.list es)) (hl : ds.length + es.length ≤ 1000) (k : ∀ p H', Same H H' → Row n H' r → Rp r H' (.ref p) (.list (ds ++ es)) → Q (.ref p) H') : rAddA a b H Q := by
  obtain ⟨_, _, e, _⟩ := hr.ex
  cases h1 with
  | lst a1 a2 a3 =>
    cases h2 with
    | lst b1 b2 b3 =>
      refine cat_l a1 b1 ?_ fun p hp => k p _ (same_upd hp) (hr.mono (same_upd hp)) (.lst upd_same (ne_of_none e hp).symm (RpAll.kp (same_upd hp).kp _ _ (a3.append b3)))
      have l1 := a3.len
      have l2 := b3.len
      have l3 := small1000 hl
      omega
theorem RpAll.at_ : ∀ {xs : List V} {ds : List PyData} {i : Nat}, RpAll r H xs ds → i < ds.length → ∃ x d, xs[i]? = some x ∧ ds[i]? = some d ∧ Rp r H x d
  | _, _, 0, .cons a _, _ => ⟨_, _, rfl, rfl, a⟩
  | _, _, i + 1, .cons _ t, h => by
    obtain ⟨x, d, h1, h2, h3⟩ := RpAll.at_ (i := i) t (by simpa using h)
    exact ⟨x, d, h1, h2, h3⟩
theorem ixT {a : V} {ds : List PyData} {j : Nat} {d : PyData} (h : Rp r H a (.tuple ds)) (e : ds[j]? = some d) (k : ∀ x, Rp r H x d → Q x H) : rIx K a (.int j) H Q := by
  cases h with
  | tup a1 a2 a3 =>
    obtain ⟨x, d', h1, h2, h3⟩ := a3.at_ (i := j) (List.getElem?_eq_some_iff.mp e).1
    rw [e] at h2
    cases h2
    exact .inr (.inl ⟨_, _, j, _, rfl, rfl, SqT.of a1, atI_nat h1, k x h3⟩)
theorem ixT0 {a : V} {ds : List PyData} (h : Rp r H a (.tuple (d :: ds))) (k : ∀ x, Rp r H x d → Q x H) : rIx K a (.int 0) H Q := ixT (j := 0) h rfl k
theorem ixT1 {a : V} {e : PyData} {ds : List PyData} (h : Rp r H a (.tuple (e :: d :: ds))) (k : ∀ x, Rp r H x d → Q x H) : rIx K a (.int 1) H Q := ixT (j := 1) h rfl k
theorem len_l {a : Addr} {xs : List V} (h : H a = some (.lst xs)) (k : Q (.int xs.length) H) : rLen K [.ref a] H Q := ⟨a, xs, rfl, .inl (SqL.of h), k⟩
theorem len_t {a : Addr} {xs : List V} (h : H a = some (.tup xs)) (k : Q (.int xs.length) H) : rLen K [.ref a] H Q := ⟨a, xs, rfl, .inr (SqT.of h), k⟩
end
end L2
end
section
set_option Elab.async false
set_option linter.all false
set_option maxRecDepth 100000
namespace L2
open PySem PySem.Spec PyProof.Rows
mutual
def noL : PyData → Bool
  | .list _ => false
  | .tuple ds => noLs ds
  | .dict _ => false
  | _ => true
def noLs : List PyData → Bool
  | [] => true
  | d :: ds => noL d && noLs ds
end
mutual
theorem Rp.tk {r : Addr} {H H' : Hp} (k : Tk H H') : ∀ (d : PyData) (v : V), noL d = true → Rp r H v d → Rp r H' v d
  | .none, _, _, h => by cases h; exact .non
  | .bool b, _, _, h => by cases h; exact .bl b
  | .int i, _, _, h => by cases h; exact .int i
  | .str x, _, _, h => by cases h; exact .str x
  | .list ds, _, n, h => by cases n
  | .tuple ds, _, n, h => by
    cases h with
    | tup h1 h2 h3 => exact .tup (k _ _ h1) h2 (RpAll.tk k ds _ n h3)
  | .dict _, _, _, h => by cases h
theorem RpAll.tk {r : Addr} {H H' : Hp} (k : Tk H H') : ∀ (ds : List PyData) (vs : List V), noLs ds = true → RpAll r H vs ds → RpAll r H' vs ds
  | [], _, _, h => by cases h; exact .nil
  | d :: ds, _, n, h => by
    have n' := Bool.and_eq_true_iff.mp n
    cases h with
    | cons h1 h2 => exact .cons (Rp.tk k d _ n'.1 h1) (RpAll.tk k ds _ n'.2 h2)
end
section
variable {K : PySem.W.Frag} {r : Addr} {H : Hp} {Q : VK} {n m : Nat} {x y : V} {a b : Rat} {p : Rat × Rat}
theorem Spt.rp {xs : List V} (hr : H r = some (.lst xs)) (h : Spt m H x p) : Rp r H x (dS p) := by
  obtain ⟨a, x, y, rfl, h1, h2, h3⟩ := h.ex
  exact .tup h1 (ne_of h1 hr (by intro z; cases z)) (.cons (h2.rp hr) (.cons (h3.rp hr) .nil))
theorem Row.at_ (h : Row n H r) : ∃ xs, H r = some (.lst xs) := let ⟨_, _, e, _⟩ := h.ex; ⟨_, e⟩
/-- a new spot out of two fractions -/
theorem newS {a b : Rat} (h1 : Fr m H x a) (h2 : Fr m H y b) (k : ∀ p H', Same H H' → Spt m H' (.ref p) (a, b) → Q (.ref p) H') : NewT [x, y] H Q :=
  newT (Nat.le_of_ble_eq_true rfl) fun p H' s _ e => k p H' s ⟨p, x, y, rfl, e, h1.mono s, h2.mono s⟩
theorem not_b {a b : Bool} (k : Q (.bl (!(a == b))) H) : rNotA (.bl a) (.bl b) H Q := .inr ⟨a, b, rfl, rfl, k⟩
end
end L2
end
section
set_option Elab.async false
set_option linter.all false
set_option maxRecDepth 100000
namespace L2
open PySem PySem.Spec PyProof.Rows
/-- a, b, c = x, y, z with plain local names -/
def tPar3 (i j l : Nat) (ta : TA) : TS := fun D σ H => ta σ H fun vs H1 => ∃ v w z, vs = [v, w, z] ∧ D.nx (((σ.set i (some v)).set j (some w)).set l (some z)) H1
theorem ps_par3 {X : Cx} {pos : Pos} {i j l : Nat} {x y z : Str} {a b c : Expr} {ta : TA} {px py pz pt : Pos} {kt k2 pt2} (hc : X.calm = true) (hN : X.N.Nodup) (hi : X.N[i]? = some x) (hj : X.N[j]? = some y) (hl : X.N[l]? = some z) (hij : i ≠ j) (hil : i ≠ l) (hjl : j ≠ l)
    (hx : X.env.scope.names.lookup x = some .local) (hy : X.env.scope.names.lookup y = some .local) (hz : X.env.scope.names.lookup z = some .local) (ha : PA X [a, b, c] ta)
    (hw : swappedStores [.Tuple [.Name x px, .Name y py, .Name z pz] kt pt] (.Tuple [a, b, c] k2 pt2) X.env = pure (some [x, y, z]))
    (hs : swapsWithSole [.Tuple [.Name x px, .Name y py, .Name z pz] kt pt] (.Tuple [a, b, c] k2 pt2) pos.line X.env = pure false := by rfl) :
    PS X (.Assign [.Tuple [.Name x px, .Name y py, .Name z pz] kt pt] (.Tuple [a, b, c] k2 pt2) pos) (tPar3 i j l ta) := by
  intro pins s σ H D I h
  rw [exec_Assign_arm]
  refine wpAny_bind (wpAny_standAt ?_)
  rw [hs]
  refine wpAny_bind (wpAny_pure ?_)
  rw [if_neg (by decide)]
  refine wpAny_bind (Tuple_ (thn (ha _ pins s σ H _ I h) fun us s1 ⟨vs, H1, I1, r1, q1⟩ => ?_))
  obtain ⟨v, w, w3, e1, q1⟩ := q1
  subst e1
  obtain ⟨u1, u2, u3, rfl, rv, rw', r3⟩ : ∃ u1 u2 u3, us = [u1, u2, u3] ∧ RelV v u1 ∧ RelV w u2 ∧ RelV w3 u3 := by
    cases r1 with
    | cons p q =>
      cases q with
      | cons p' q' =>
        cases q' with
        | cons p'' q'' =>
          cases q''
          exact ⟨_, _, _, rfl, p, p', p''⟩
  refine wpAny_newObj_type ?_ (by show 3 ≤ sizeLine; decide)
  have I2 : Inv X pins σ H1 { s1 with heap := s1.heap.push { cls := .type "tuple", data := .seq [u1, u2, u3].toArray } } := I1.kept (t' := s1.toks) fun b o e => Heap.get?_push_of_some _ e
  rw [hw]
  refine wpAny_bind (wpAny_pure ?_)
  show wpAny (model X.prog X.w) X.A (do rule "assign.swapped-stores"; let items ← unpackItems (.ref s1.heap.objs.size) 3 none; assignInOrder [fun v => bindName X.env z v, fun v => bindName X.env y v, fun v => bindName X.env x v] items.reverse; pure Flow.next) _ _ _
  refine wpAny_bind (wpAny_rule (wpAny_bind (unpackItems_tuple (items := #[u1, u2, u3]) (I.ok.hd hc) (IsTup.new s1.heap _) fun h' hx' => ?_)))
  have I3 := I2.kept (h' := h') (t' := s1.toks) fun b o e => hx' b o (Nat.ne_of_lt (Heap.lt_size e)) e
  show wpAny _ _ (assignInOrder [fun v => bindName X.env z v, fun v => bindName X.env y v, fun v => bindName X.env x v] [u3, u2, u1] >>= fun _ => pure Flow.next) _ _ _
  refine wpAny_bind (assignInOrder_cons (wpAny_bindName (store_ok I3 hN hl (.inl hz) r3 (fun s2 I4 => ?_) (.inr hz))))
  refine assignInOrder_cons (wpAny_bindName (store_ok I4 hN hj (.inl hy) rw' (fun s2' I4' => ?_) (.inr hy)))
  refine assignInOrder_cons (wpAny_bindName (store_ok I4' hN hi (.inl hx) rv (fun s3 I5 => assignInOrder_nil (wpAny_pure ?_)) (.inr hx)))
  have e : (((σ.set l (some w3)).set j (some w)).set i (some v)) = (((σ.set i (some v)).set j (some w)).set l (some w3)) := by
    rw [List.set_comm (i := l) (j := j) _ _ (Ne.symm hjl), List.set_comm (i := l) (j := i) _ _ (Ne.symm hil), List.set_comm (i := j) (j := i) _ _ (Ne.symm hij)]
  rw [e] at I5
  exact ⟨_, H1, I5, q1⟩
/-- a tuple of two ints -/
structure TupI (H : Hp) (v : V) (n d : Int) : Prop where
  ex : ∃ a, v = .ref a ∧ H a = some (.tup [.int n, .int d])
theorem TupI.tk {H H' : Hp} {v : V} {n d : Int} (t : Tk H H') (h : TupI H v n d) : TupI H' v n d := let ⟨a, e, h1⟩ := h.ex; ⟨a, e, t _ _ h1⟩
section
variable {K : PySem.W.Frag} {H : Hp} {Q : VK} {x : V} {n d : Int} {σ : St} {t : TGs} {Qs : St → Hp → Prop}
theorem ix_ti0 (h : TupI H x n d) (k : Q (.int n) H) : rIx K x (.int 0) H Q := by
  obtain ⟨a, rfl, h1⟩ := h.ex
  exact .inr (.inl ⟨a, _, 0, _, rfl, rfl, SqT.of h1, rfl, k⟩)
theorem ix_ti1 (h : TupI H x n d) (k : Q (.int d) H) : rIx K x (.int 1) H Q := by
  obtain ⟨a, rfl, h1⟩ := h.ex
  exact .inr (.inl ⟨a, _, 1, _, rfl, rfl, SqT.of h1, rfl, k⟩)
theorem seq_ti (h : TupI H x n d) (k : t [.int n, .int d] σ H Qs) : gSeq K 2 t x σ H Qs := by
  obtain ⟨a, rfl, h1⟩ := h.ex
  exact seq_t h1 rfl k
end
theorem se_BinOp {a b c d} {rest : List Expr} {env : Env} : starEach (.BinOp a b c d :: rest) env = (false, eval (.BinOp a b c d) env) :: starEach rest env := rfl
theorem se_ListComp {a b c d} {rest : List Expr} {env : Env} : starEach (.ListComp a b c d :: rest) env = (false, eval (.ListComp a b c d) env) :: starEach rest env := rfl
theorem se_Compare {a b c d} {rest : List Expr} {env : Env} : starEach (.Compare a b c d :: rest) env = (false, eval (.Compare a b c d) env) :: starEach rest env := rfl
theorem se_Call {a b c d} {rest : List Expr} {env : Env} : starEach (.Call a b c d :: rest) env = (false, eval (.Call a b c d) env) :: starEach rest env := rfl
theorem se_Constant {a b c} {rest : List Expr} {env : Env} : starEach (.Constant a b c :: rest) env = (false, eval (.Constant a b c) env) :: starEach rest env := rfl
theorem se_Subscript {a b c} {rest : List Expr} {env : Env} : starEach (.Subscript a b c :: rest) env = (false, eval (.Subscript a b c) env) :: starEach rest env := rfl
theorem se_Name {a b} {rest : List Expr} {env : Env} : starEach (.Name a b :: rest) env = (false, eval (.Name a b) env) :: starEach rest env := rfl
theorem se_List {a b} {rest : List Expr} {env : Env} : starEach (.List a b :: rest) env = (false, eval (.List a b) env) :: starEach rest env := rfl
theorem se_Tuple {a b c} {rest : List Expr} {env : Env} : starEach (.Tuple a b c :: rest) env = (false, eval (.Tuple a b c) env) :: starEach rest env := rfl
def notStar : Expr → Bool
  | .Starred .. => false
  | _ => true
theorem se_any {env : Env} {pos : Pos} : ∀ {es : List Expr}, es.all notStar = true → (backTo pos (starEach es env)).any (·.1) = false
  | [], _ => rfl
  | e :: es, h => by
    rw [List.all_cons, Bool.and_eq_true] at h
    have ih := se_any (env := env) (pos := pos) h.2
    have : starEach (e :: es) env = (false, eval e env) :: starEach es env := by
      cases e <;> first | rfl | (cases h.1)
    rw [this]
    show (false || (backTo pos (starEach es env)).any (·.1)) = false
    rw [ih]; rfl
theorem se_of {e : Expr} {rest : List Expr} {env : Env} (h : notStar e = true) : starEach (e :: rest) env = (false, eval e env) :: starEach rest env := by
  cases e <;> first | rfl | (cases h)
theorem pa_c {X : Cx} {e : Expr} {es : List Expr} {te : TE} {t : TA} (ha : PE X e te) (hr : PA X es t) (hn : notStar e = true) : PA X (e :: es) (tCons te t) := pa_cons ha hr (se_of hn)
theorem pe_ci2 {X : Cx} {i j : Int} {a b d : Nat} {p1 p2 p4 : Pos} : PE X (.Tuple [.Constant (.int i) a p1, .Constant (.int j) b p2] d p4) (tTup (tCons (tC (.int i)) (tCons (tC (.int j)) tNil))) :=
  pe_tup (pa_cons pe_int (pa_cons pe_int pa_nil se_Constant) se_Constant)
/-! ### statements and blocks under a lid of my own: the elaborator does not look below it -/
structure WS (X : Cx) (st : Stmt) (t : TS) : Prop where
  h : PS X st t
structure WSs (X : Cx) (st : List Stmt) (t : TS) : Prop where
  h : PSs X st t
section
variable {X : Cx} {st : Stmt} {rest : List Stmt} {t u : TS} {pos : Pos}
theorem wss_nil : WSs X [] tNext := ⟨pss_nil⟩
theorem wss_cons (h1 : WS X st t) (h2 : WSs X rest u) : WSs X (st :: rest) (tSeq t u) := ⟨pss_cons h1.h h2.h⟩
theorem wss_one (h1 : WS X st t) : WSs X [st] t := ⟨pss_one h1.h⟩
theorem ws_never : WS X st tNever := ⟨ps_never⟩
theorem ws_if {c : Expr} {a b : List Stmt} {tc : TT} (hc : PT X c tc) (ha : WSs X a t) (hb : WSs X b u) : WS X (.If c a b pos) (tIfS tc t u) := ⟨ps_if hc ha.h hb.h⟩
theorem ws_while {c : Expr} {body : List Stmt} {tc : TT} {tb : TS} (hp : PassesOwn (model X.prog X.w) X.A X.env X.xe) (hc : PT X c tc) (hb : WSs X body tb) : WS X (.While c body [] pos) (tWhile tc tb) := ⟨ps_while hp hc hb.h⟩
structure WE (X : Cx) (e : Expr) (t : TE) : Prop where
  h : PE X e t
structure WA (X : Cx) (es : List Expr) (t : TA) : Prop where
  h : PA X es t
structure WI (X : Cx) (tg iter : Expr) (wi : TI) : Prop where
  h : PI X tg iter wi
theorem wa_nil : WA X [] tNil := ⟨pa_nil⟩
theorem wa_cons {e : Expr} {es : List Expr} {te : TE} {t : TA} (ha : WE X e te) (hr : WA X es t) (hn : notStar e = true) : WA X (e :: es) (tCons te t) := ⟨pa_c ha.h hr.h hn⟩
theorem we_lst {es : List Expr} {t : TA} (h : WA X es t) : WE X (.List es pos) (tLst t) := ⟨pe_lst h.h⟩
theorem we_tup {es : List Expr} {t : TA} {x1 : Nat} (h : WA X es t) : WE X (.Tuple es x1 pos) (tTup t) := ⟨pe_tup h.h⟩
theorem wi_list {tg l : Expr} {tl : TE} (hl : WE X l tl) : WI X tg l (iList X.K tl) := ⟨pi_list hl.h⟩
theorem ws_for {tg iter : Expr} {body : List Stmt} {wi : TI} {g : TG} {tb : TS} (hp : PassesOwn (model X.prog X.w) X.A X.env X.xe) (hc : X.calm = true) (hi : WI X tg iter wi) (hg : PG X tg g) (hb : WSs X body tb)
    (hs : ∀ x, foldedSetIterable iter X.env x = pure x := by intro _; rfl) : WS X (.For tg iter body [] pos) (tFor wi g tb) := ⟨ps_for hp hc hi.h hg hb.h hs⟩
end
theorem cal_ofW {P : Program} {w : World} {K : PySem.W.Frag} {mg : Str → Option Value} {base : Heap} {x qual : Str} {st : Stmt} {f : Addr} {fd : FuncData} {N ps : List Str} {k : Nat} {sp : Sp} (F : Fun K x qual st f fd) (S : FnScope N ps (defScope st)) (m : mg x = some (.ref f)) (b : Binds K fd ps [])
    (len : ∀ vs H Q E, sp vs H Q E → vs.length = ps.length)
    (hbody : ∀ (cdv : Value) (A : Around) (outer : List Env) (s : Shared) (H : Hp) (vs : List V) (Q : VK) (E : XK), Room k (A.deeper (envOfC qual (defScope st) s.heap.objs.size f cdv)) → sp vs H Q E →
      ∃ t, WSs (cxOf CX0 P w K mg base N qual (defScope st) f cdv A outer s H E).nox (defBody st) t ∧ t { nx := fun _ H' => Q .non H', rt := Q } (start N vs) H) : Cal P w K mg base (k + 1) x ps sp :=
  cal_of F S m b len fun cdv A outer s H vs Q E hr h => let ⟨t, h1, h2⟩ := hbody cdv A outer s H vs Q E hr h; ⟨t, h1.h, h2⟩
theorem okW {P : Program} {w : World} {K : PySem.W.Frag} {mg : Str → Option Value} {base : Heap} {x qual : Str} {st : Stmt} {f : Addr} {fd : FuncData} {N ps : List Str} {k : Nat} {sp : Sp} (F : Fun K x qual st f fd) (S : FnScope N ps (defScope st))
    (len : ∀ vs H Q E, sp vs H Q E → vs.length = ps.length)
    (hbody : ∀ (cdv : Value) (A : Around) (outer : List Env) (s : Shared) (H : Hp) (vs : List V) (Q : VK) (E : XK), Room k (A.deeper (envOfC qual (defScope st) s.heap.objs.size f cdv)) → sp vs H Q E →
      ∃ t, WSs (cxOf CX0 P w K mg base N qual (defScope st) f cdv A outer s H E).nox (defBody st) t ∧ t { nx := fun _ H' => Q .non H', rt := Q } (start N vs) H) : FnOk P w K mg base CX0 (k + 1) f fd ps sp :=
  F.ok S len fun cdv A outer s H vs Q E hr h => let ⟨t, h1, h2⟩ := hbody cdv A outer s H vs Q E hr h; ⟨t, h1.h, h2⟩
end L2
end
section
set_option Elab.async false
set_option linter.all false
set_option maxRecDepth 100000
namespace L2
open PySem PySem.Spec PyProof.Rows
/-! ### an exception in flight behind a call -/
structure FlyAt (P : Program) (w : World) (outer : List Env) (H : Hp) (s : Shared) (H' : Hp) (x C : Addr) (s' : Shared) : Prop where
  os : s'.os = s.os
  bare : AllBare s'.gens
  un : Un (frs outer) [] H H' s.heap s'.heap
  hok : HOk P w H' s'.heap
  free : H' x = none
  fly : ∃ (t : Addr) (vs : List Value) (B : Heap), Heap.FlyingW B outer x (.ref C) (.ref t) s'.heap ∧ s'.heap.TupAt t vs ∧ B.get? t = none ∧
    (∀ b u o, H' b = some u → s'.heap.get? b = some o → B.get? b = some o) ∧
    (∀ b o, s.heap.get? b = some o → H b = none → b ∉ frs outer → B.get? b = some o) ∧
    (∀ b o, s.heap.get? b = some o → b ∉ frs outer → ∃ o', B.get? b = some o')
def CX1 (P : Program) (w : World) : CXT := fun outer H s E e s' => ∃ x C H', e = .ref x ∧ FlyAt P w outer H s H' x C s' ∧ E (.ref C) (some x) H'
theorem HOk.trk {P : Program} {w : World} {H : Hp} {h h' : Heap} (x : HOk P w H h) (k : ∀ b u o, H b = some u → h.get? b = some o → h'.get? b = some o) : HOk P w H h' := fun a o e =>
  (x a o e).stay (fun b u hb q => by
    rcases hb with rfl | hb
    · exact k _ _ _ e q
    · exact k _ _ _ hb q) (fun _ q => q) fun _ _ q => q
theorem ObjOk.there {P : Program} {w : World} {H : Hp} {h : Heap} {a : Addr} {o : HO} (x : ObjOk P w H h a o) : ∃ ob, h.get? a = some ob := by
  cases o with
  | lst xs => obtain ⟨_, _, _, _, e⟩ := x; exact ⟨_, e⟩
  | tup xs => obtain ⟨_, _, _, ob, e, _⟩ := x; exact ⟨_, e⟩
  | dK kvs => obtain ⟨_, _, _, _, o, _, _, e, _⟩ := x; exact ⟨_, e⟩
  | dT kvs => obtain ⟨_, _, _, _, o, _, _, e, _⟩ := x; exact ⟨_, e⟩
  | set S n => obtain ⟨o, _, _, _, e, _⟩ := x; exact ⟨_, e⟩
  | ins C dx fs => obtain ⟨_, _, _, e, _⟩ := x; exact ⟨_, e⟩
  | own y => exact x
  | xd fs => obtain ⟨_, ⟨_, _, _, e, _⟩, _⟩ := x; exact ⟨_, e⟩
  | rng lo hi => obtain ⟨_, _, _, e⟩ := x; exact ⟨_, e⟩
  | frz ob u => obtain ⟨e, _⟩ := x; exact ⟨_, e⟩
  | tbl ps => exact ⟨_, x⟩
  | met f y => exact ⟨_, x⟩
  | ext φ => obtain ⟨_, e, _⟩ := x; exact e
section
variable {P : Program} {w : World} {K : PySem.W.Frag} {mg : Str → Option Value} {base : Heap} {N : List Str} {qual : Str} {scope : Scope} {f : Addr} {cdv : Value} {A : Around} {outer : List Env} {s : Shared} {H : Hp} {E : XK} {CX : CXT}
variable {pins : List (Addr × Obj)} {σ : St} {H1 : Hp} {s1 : Shared}
theorem not_frame {X : Cx} (hX : X = cxOf CX P w K mg base N qual scope f cdv A outer s H E) (I : Inv X pins σ H1 s1) {b : Addr} {o : Obj} (e : s.heap.get? b = some o) (n : b ∉ frs outer) : b ∉ frs (X.env :: outer) := by
  subst hX
  intro hb
  rcases List.mem_filterMap.mp hb with ⟨env, hm, hf⟩
  rcases List.mem_cons.mp hm with rfl | hm
  · have h1 := Heap.lt_size e
    have h2 := I.ok.above
    have z : (cxOf CX P w K mg base N qual scope f cdv A outer s H E).env.locals = b := Option.some.inj hf
    rw [← z] at h1
    exact absurd (Nat.lt_of_lt_of_le h1 h2) (Nat.lt_irrefl _)
  · exact n (List.mem_filterMap.mpr ⟨env, hm, hf⟩)
/-- behind the last step of a frame: from the body's state to the caller's -/
theorem fly_out {X : Cx} (hX : X = cxOf CX P w K mg base N qual scope f cdv A outer s H E) (I : Inv X pins σ H1 s1) {x C t : Addr} {vs : List Value} {B h'' : Heap} {s2 : Shared} (hs2 : s2.os = s1.os) (hb : AllBare s2.gens) (he2 : s2.heap = h'')
    (fl : Heap.FlyingW B outer x (.ref C) (.ref t) h'') (ht : h''.TupAt t vs) (hBt : B.get? t = none) (up : s1.heap.UpToSlots h'') (hfree : H1 x = none)
    (trk : ∀ b u o, H1 b = some u → s1.heap.get? b = some o → B.get? b = some o)
    (keep : ∀ b o, s.heap.get? b = some o → H b = none → b ∉ frs outer → B.get? b = some o)
    (here : ∀ b o, s.heap.get? b = some o → b ∉ frs outer → ∃ o', B.get? b = some o') :
    FlyAt P w outer H s H1 x C s2 := by
  subst hX
  subst he2
  have st := fl.1
  refine ⟨hs2.trans I.os, hb, ⟨?_, ?_, ?_, ?_, I.base.tups, I.base.frzs, I.base.tbls⟩, I.hok.trk fun b u o e q => st b o (trk b u o e q), hfree, t, vs, B, fl, ht, hBt, ?_, keep, here⟩
  · exact fun b o e n hb _ => st b o (keep b o e n hb)
  · intro b o e n hb hx
    obtain ⟨sl, h1⟩ := I.base.slot b o e n hb hx
    obtain ⟨_, o2, h2, h3⟩ := I.ok.funs.mem hb
    have e2 : o2 = o := Option.some.inj (h2.symm.trans e)
    subst e2
    obtain ⟨sl2, h4⟩ := up b _ h1 h3
    exact ⟨sl2, h4⟩
  · exact fun b o e n hx => I.base.free b o e n hx
  · intro b o e hx
    by_cases hb : b ∈ frs outer
    · obtain ⟨_, o2, h2, h3⟩ := I.ok.funs.mem hb
      have e2 : o2 = o := Option.some.inj (h2.symm.trans e)
      subst e2
      obtain ⟨sl, h1⟩ := I.base.slot b o2 e (I.ok.frf b hb) hb hx
      obtain ⟨sl2, h4⟩ := up b _ h1 h3
      exact ⟨_, h4⟩
    · obtain ⟨o', h1⟩ := here b o e hb
      exact ⟨o', st b o' h1⟩
  · exact fun b u o e q => by
      cases h1 : s1.heap.get? b with
      | some o1 =>
        have h2 := trk b u o1 e h1
        have h3 := st b o1 h2
        rw [q] at h3
        cases h3
        exact h2
      | none =>
        obtain ⟨o2, h2⟩ := (I.hok b u e).there
        rw [h1] at h2
        cases h2
/-- the built-in bases of an own refusal -/
abbrev bmV : List Value := [.type "ValueError", .type "Exception", .type "BaseException", .type "object"]
abbrev newV : String := "ValueError.__new__"
def tRaise (te : TE) (E : XK) (C : Addr) : TS := fun _ σ H => tCons te tNil σ H fun us H1 => us.length = 1 ∧ ∀ x, H1 x = none → E (.ref C) (some x) H1
end
end L2
end
section
set_option Elab.async false
set_option linter.all false
set_option maxRecDepth 100000
namespace L2
open PySem PySem.Spec PyProof.Rows
/-! ### isinstance of an exception of a class of one's own -/
/-- what the fragment tells of an exception's class -/
structure XCls (K : PySem.W.Frag) (D : Addr) : Prop where
  ga : PySem.W.findIn K (.ref D) "__getattribute__" = some (some (.builtin "BaseException.__getattribute__"))
  gt : PySem.W.findIn K (.ref D) "__getattr__" = some none
  cl : PySem.W.findIn K (.ref D) "__class__" = some (some (.builtin "object.__class__"))
  mb : PySem.W.mroIn K D (.type "BaseException") = some true
  mo : PySem.W.mroIn K D (.type "object") = some true
def ExcAt (x D : Addr) (h : Heap) : Prop := ∃ o, h.get? x = some o ∧ o.cls = .ref D
theorem ExcAt.ty {x D : Addr} {h : Heap} (M : Model) (p : ExcAt x D h) : PySem.W.Looks M h (typeOf (.ref x)) (.ref D) := by
  obtain ⟨o, e1, e2⟩ := p
  exact e2 ▸ (PySem.W.Looks.ld e1).andThen .now
section
variable {K : PySem.W.Frag} {x D : Addr} {prog : Program} {w : World} {A : Around} {E : Value → Shared → Prop} {h : Heap} {g : Array GenState} {d : Drawn} {t : Nat} {os : OsState}
theorem xcls_get {R : Result → Shared → Prop} (c : XCls K D) (X : K.In h) (p : ExcAt x D h) (k : R (.ok (.ret (.ref D))) ⟨h, g, d, t, os⟩) :
    codeAny (model prog w) A (.call (.builtin "getset_descriptor.__get__") ⟨[.builtin "object.__class__", .ref x, .ref D], []⟩) R ⟨h, g, d, t, os⟩ := by
  have q5 : (⟨h, g, d, t, os⟩ : Shared).TypeIs (.builtin "object.__class__") "getset_descriptor" := F.typeOf_object_class
  have l1 := p.ty (model prog w)
  have l2 : PySem.W.Looks (model prog w) h (isSubtype (.ref D) (.type (".".intercalate ("object.__class__".cutAt '.').dropLast))) true := by
    rw [F.owner_object_class]; exact PySem.W.looks_mroIn X c.mo
  obtain ⟨o, e1, e2⟩ := p
  refine codeAny_call_builtin F.slot_gs_get.plain F.entry_gs_get (F.slot_gs_get.check _ _ _ _ _ _ _ _ q5 (F.args_gs_get _ _ _) ?_)
  repeat (any_goals (first | assumption | (with_reducible refine wpAny_loadPart_at e1 ?_; rw [e2]) | with_reducible refine l2.at ?_ | wp_step))
  refine ⟨Code.quiet_builtin _ (by decide +kernel), codeAny_builtin F.entry_object_class ?_⟩
  repeat (any_goals (first | assumption | (with_reducible refine wpAny_loadPart_at e1 ?_; rw [e2]) | wp_step))
theorem xcls_entry {tk : Tok} {Q : Fin → Shared → Prop} (c : XCls K D) (X : K.In h) (p : ExcAt x D h) (k : Q (.done (.ret (.ref D))) ⟨h, g, d, t, os⟩) :
    wpAny (model prog w) A (Builtin.«object.__getattribute__» ⟨[.ref x, .str "__class__" tk], []⟩) Q E ⟨h, g, d, t, os⟩ := by
  have q5 : (⟨h, g, d, t, os⟩ : Shared).TypeIs (.builtin "object.__class__") "getset_descriptor" := F.typeOf_object_class
  have l3 := PySem.W.looks_findIn (M := model prog w) X c.cl
  have j5 := F.typeOf_object_class
  have j6 := F.slot_gs_get.lookup
  have j7 := F.slot_gs_set.lookup
  have p' := p
  obtain ⟨o, e1, e2⟩ := p
  repeat (any_goals (first | assumption | (with_reducible refine wpAny_loadPart_at e1 ?_; rw [e2]) | with_reducible refine l3.at ?_ | wp_step))
  refine xcls_get c X p' ?_
  repeat (any_goals (first | assumption | wp_step))
theorem xcls_check {M : Model} {v : Value} {Q : Unit → Shared → Prop} (c : XCls K D) (X : K.In h) (p : ExcAt x D h) (k : Q () ⟨h, g, d, t, os⟩) : wpAny M A (checkBuiltinCall "BaseException.__getattribute__" ⟨[.ref x, v], []⟩) Q E ⟨h, g, d, t, os⟩ := by
  have j1 : builtinKind "BaseException.__getattribute__" = some .slot := by decide +kernel
  have j2 : splitId "BaseException.__getattribute__" = some ("BaseException", "__getattribute__") := by decide +kernel
  have l1 := PySem.W.looks_mroIn (M := M) X c.mb
  have j3 := F.args_bexc_ga (.ref x) v
  obtain ⟨o, e1, e2⟩ := p
  simp only [checkBuiltinCall, j1, j2]
  refine wpAny_bind ?_
  unfold isInstance
  repeat (first | (with_reducible refine wpAny_loadPart_at e1 ?_; rw [e2]) | with_reducible refine l1.at ?_ | wp_step)
  exact k
theorem xcls_by {tk : Tok} {Q : Value → Shared → Prop} (c : XCls K D) (X : K.In h) (p : ExcAt x D h) (k : Q (.ref D) ⟨h, g, d, t, os⟩) :
    wpAny (model prog w) A (getAttrBy (.ref x) (.str "__class__" tk) false) Q E ⟨h, g, d, t, os⟩ := by
  have j3 := F.attr_ValueError.ga.bind (.ref x)
  have j2 : (Value.builtin "BaseException.__getattribute__" == Value.builtin "object.__getattribute__") = false := by decide +kernel
  have j1 : (onTheHeap (Value.ref D) && Value.builtin "BaseException.__getattribute__" == Value.builtin "object.__getattribute__") = false := by rw [j2]; rfl
  have l1 := PySem.W.looks_findIn (M := model prog w) X c.ga
  have l2 := PySem.W.looks_findIn (M := model prog w) X c.gt
  have p' := p
  obtain ⟨o, e1, e2⟩ := p
  repeat (any_goals (first | assumption | (with_reducible refine wpAny_loadPart_at e1 ?_; rw [e2]) | with_reducible refine l1.at ?_ | with_reducible refine l2.at ?_ | wp_step))
  refine codeAny_call_builtin F.attr_ValueError.ga.plain F.entry_bexc_ga (xcls_check c X p' (xcls_entry c X p' ?_))
  repeat (any_goals (first | assumption | wp_step))
theorem xcls_attr {Q : Option Value → Shared → Prop} (c : XCls K D) (X : K.In h) (p : ExcAt x D h) (k : Q (some (.ref D)) ⟨h, g, d, t + 1, os⟩) : wpAny (model prog w) A (getAttr? (.ref x) "__class__") Q E ⟨h, g, d, t, os⟩ := by
  unfold getAttr? getAttrBy?
  repeat (any_goals (first | assumption | with_reducible apply xcls_by c X p | wp_step))
end
theorem xcls_cls {K : PySem.W.Frag} {D : Addr} (c : XCls K D) : ∃ c' d' cd sl, K.lookup D = some ⟨c', d', .cls cd, sl⟩ := by
  have e := c.mo
  unfold PySem.W.mroIn PySem.W.clsIn at e
  split at e
  · rename_i ho; exact ⟨_, _, _, _, ho⟩
  · cases e
theorem kitx_exc {K : PySem.W.Frag} {x D : Addr} (c : XCls K D) : PySem.W.KitX K (.ref x) (.ref D) (ExcAt x D) where
  ty := fun M _ _ p => p.ty M
  it := fun _ _ X _ => by
    obtain ⟨_, _, _, _, ho⟩ := xcls_cls c
    intro A' Q' E' s' k q
    unfold isType loadHead
    exact wpAny_bind (wpAny_loadPart (k _ _ (X _ _ ho)) (wpAny_pure q))
  ne := fun h tp dd its n sl X htp => by
    obtain ⟨_, _, _, _, ho⟩ := xcls_cls c
    refine Bool.eq_false_iff.mpr fun q => ?_
    have e : D = tp := Value.ref.inj (beq_iff_eq.mp q)
    subst e
    have z := (X _ _ ho).symm.trans htp
    cases z
  ca := fun {_ _ _ _ _ s} X p k => by
    obtain ⟨h, g, d, t, os⟩ := s
    exact xcls_attr c X p k
end L2
end
section
set_option Elab.async false
set_option linter.all false
set_option maxRecDepth 100000
namespace L2
open PySem PySem.Spec PyProof.Rows
/-! ### defs from which an exception may come -/
structure Cal1 (P : Program) (w : World) (K : PySem.W.Frag) (mg : Str → Option Value) (base : Heap) (k : Nat) (x : Str) (ps : List Str) (sp : Sp) : Prop where
  ex : ∃ f fd, FnOk P w K mg base (CX1 P w) k f fd ps sp ∧ mg x = some (.ref f) ∧ PySem.W.keepIn K (.ref f) = true ∧ Binds K fd ps []
section
variable {P : Program} {w : World} {K : PySem.W.Frag} {mg : Str → Option Value} {base : Heap}
end
theorem PS.nox {X : Cx} {st : Stmt} {t : TS} (h : PS X.nox st t) : PS X st t := fun pins s σ H D I hw =>
  wpAny_mono (h pins s σ H D (I.wish _) hw) (fun _ _ q => q.unwish) fun _ _ z => False.elim z
theorem ws_nox {X : Cx} {st : Stmt} {t : TS} (h : WS X.nox st t) : WS X st t := ⟨h.h.nox⟩
section
variable {P : Program} {w : World} {K : PySem.W.Frag} {mg : Str → Option Value} {base : Heap} {N : List Str} {qual : Str} {scope : Scope} {f : Addr} {cdv : Value} {A : Around} {outer : List Env} {s : Shared} {H : Hp} {E : XK}
end
/-! ### try -/
abbrev Cx.pinned (X : Cx) (pins : List (Addr × Obj)) : Cx := { X with pn := X.pn ++ pins }
theorem Cx.Ok.pinned {X : Cx} (ok : X.Ok) (pins : List (Addr × Obj)) : (X.pinned pins).Ok :=
  ⟨ok.mod, ok.kind, ok.glob, ok.blt, ok.above, ok.inj, ok.has, ok.cab, ok.hd, ok.frames, ok.stk, ok.exf, ok.bs, ok.bsz, ok.noex, ok.exfs, ok.funs, ok.frf⟩
theorem Cx.Ok.unpinned {X : Cx} {pins : List (Addr × Obj)} (ok : (X.pinned pins).Ok) : X.Ok :=
  ⟨ok.mod, ok.kind, ok.glob, ok.blt, ok.above, ok.inj, ok.has, ok.cab, ok.hd, ok.frames, ok.stk, ok.exf, ok.bs, ok.bsz, ok.noex, ok.exfs, ok.funs, ok.frf⟩
section
variable {X : Cx} {pins ps : List (Addr × Obj)} {σ : St} {H : Hp} {s : Shared}
theorem Inv.pnd (I : Inv X pins σ H s) : Inv (X.pinned pins) [] σ H s :=
  ⟨I.ok.pinned pins, I.os, I.bare, I.base, I.loc, I.cell, I.free, I.freeC, fun p hp => I.pin p (by rw [List.append_nil] at hp; exact hp), I.hok, I.len⟩
theorem Inv.unpnd (I : Inv (X.pinned pins) ps σ H s) : Inv X pins σ H s :=
  ⟨I.ok.unpinned, I.os, I.bare, I.base, I.loc, I.cell, I.free, I.freeC, fun p hp => I.pin p (List.mem_append_left _ hp), I.hok, I.len⟩
end
def tCallT (sp : Sp) (Eσ : St → XK) (t : TA) : TE := fun σ H Q => t σ H fun vs H1 => sp vs H1 Q (Eσ σ)
section
variable {X : Cx} {pins : List (Addr × Obj)} {Eσ : St → XK}
end
/-- the suite of a handler -/
abbrev markX (X : Cx) (e : Addr) : Cx := { X with A := X.A.mark (some (.ref e)), calm := false, xe := fun _ _ => False }
theorem Inv.mark {X : Cx} {pins : List (Addr × Obj)} {σ : St} {H : Hp} {s : Shared} (I : Inv X pins σ H s) (e : Addr) : Inv (markX X e) pins σ H s :=
  ⟨⟨I.ok.mod, I.ok.kind, I.ok.glob, I.ok.blt, I.ok.above, I.ok.inj, I.ok.has, I.ok.cab, (fun z => by cases z), I.ok.frames, I.ok.stk, I.ok.exf, I.ok.bs, I.ok.bsz, I.ok.noex, I.ok.exfs, I.ok.funs, I.ok.frf⟩, I.os, I.bare, I.base, I.loc, I.cell, I.free, I.freeC, I.pin, I.hok, I.len⟩
theorem Inv.unmark {X : Cx} {pins : List (Addr × Obj)} {σ : St} {H : Hp} {s : Shared} {e : Addr} (ok : X.Ok) (I : Inv (markX X e) pins σ H s) : Inv X pins σ H s :=
  ⟨ok, I.os, I.bare, I.base, I.loc, I.cell, I.free, I.freeC, I.pin, I.hok, I.len⟩
/-- the classes that a handler lets in, by the fragment -/
structure XHnd (K : PySem.W.Frag) (S : Addr) : Prop where
  ty : PySem.W.typeIn K (.ref S) = some (.type "type")
  mb : PySem.W.mroIn K S (.type "BaseException") = some true
section
variable {K : PySem.W.Frag} {M : Model} {A : Around} {E : Value → Shared → Prop} {h : Heap} {g : Array GenState} {d : Drawn} {t : Nat} {os : OsState} {e C S : Addr} {r : Bool} {Q : Bool → Shared → Prop}
theorem excMatches_K (X : K.In h) (p : ExcAt e C h) (hS : XHnd K S) (hm : PySem.W.mroIn K C (.ref S) = some r) (k : Q r ⟨h, g, d, t, os⟩) : wpAny M A (excMatches (.ref e) (.ref S)) Q E ⟨h, g, d, t, os⟩ := by
  have l1 := p.ty M
  have l2 := PySem.W.looks_typeIn (M := M) X hS.ty
  have l3 := PySem.W.looks_mroIn (M := M) X hS.mb
  have l4 := PySem.W.looks_mroIn (M := M) X hm
  have f := tc_notTuple
  obtain ⟨_, _, cd, _, hlk⟩ : ∃ c' d' cd sl, K.lookup S = some ⟨c', d', .cls cd, sl⟩ := by
    have z := hS.mb
    unfold PySem.W.mroIn PySem.W.clsIn at z
    split at z
    · rename_i ho; exact ⟨_, _, _, _, ho⟩
    · cases z
  have hSo := X _ _ hlk
  cases r <;> unfold excMatches
  all_goals repeat (first | with_reducible refine l1.at ?_ | with_reducible refine l2.at ?_ | with_reducible refine l3.at ?_ | with_reducible refine l4.at ?_ | with_reducible refine wpAny_loadPart_at hSo ?_ | wp_step)
  all_goals exact k
end
end L2
end
section
set_option Elab.async false
set_option linter.all false
set_option maxRecDepth 100000
namespace L2
open PySem PySem.Spec PyProof.Rows
section
variable {X : Cx} {pins : List (Addr × Obj)} {σ : St} {H H1 H2 : Hp} {s s0 s1 : Shared}
/-- an exception has landed: its object is tracked by its class -/
theorem land (I : Inv X pins σ H1 s0) {x C t : Addr} {B h6 : Heap} (F : FlyAt X.prog X.w X.stack H1 s0 H2 x C s1) (fl : Heap.FlyingW B X.stack x (.ref C) (.ref t) h6) (up : s1.heap.UpToSlots h6)
    (trk : ∀ b u o, H2 b = some u → s1.heap.get? b = some o → B.get? b = some o)
    (old : ∀ b o, s0.heap.get? b = some o → H1 b = none → b ∉ frs X.stack → B.get? b = some o)
    (here : ∀ b o, s0.heap.get? b = some o → b ∉ frs X.stack → ∃ o', B.get? b = some o') : Inv X pins σ (upd H2 x (.ext (ExcAt x C))) { s1 with heap := h6 } := by
  have st := fl.1
  have hth := fl.there
  obtain ⟨oe, vs, T, oT, ts, he, hc, hd, _⟩ := fl.2.2.2
  have nx : s0.heap.get? x = none := by
    cases e : s0.heap.get? x with
    | none => rfl
    | some o =>
      by_cases hb : x ∈ frs X.stack
      · obtain ⟨_, o', e', n'⟩ := fl.2.2.1.mem hb
        rw [he] at e'
        cases e'
        exact absurd hd (n' vs)
      · obtain ⟨o', e'⟩ := here x o e hb
        rw [fl.2.1] at e'
        cases e'
  have nex : ∀ b o, s0.heap.get? b = some o → b ≠ x := fun b o e z => by rw [z, nx] at e; cases e
  have nH : ∀ b u, H2 b = some u → b ≠ x := fun b u e z => by rw [z, F.free] at e; cases e
  have slot : ∀ b o, s0.heap.get? b = some o → b ∈ frs X.stack → ∃ sl, h6.get? b = some { o with slots := sl } := fun b o e hb => by
    obtain ⟨sl, h1⟩ := F.un.slot b o e (I.stkFree b hb) hb (by simp)
    obtain ⟨_, o2, h2, h3⟩ := I.stack.mem hb
    have e2 : o2 = o := Option.some.inj (h2.symm.trans e)
    subst e2
    obtain ⟨sl2, h4⟩ := up b _ h1 h3
    exact ⟨sl2, h4⟩
  refine I.call' (s' := { s1 with heap := h6 }) (ch := []) F.os ⟨?_, ?_, ?_, ?_, ?_, ?_, ?_⟩ ?_ F.bare (fun b z => absurd z (by simp))
  · exact fun b o e n hb _ => st b o (old b o e n hb)
  · exact fun b o e n hb _ => slot b o e hb
  · exact fun b o e n hx => by rw [upd_ne (nex b o e)]; exact F.un.free b o e n hx
  · intro b o e _
    by_cases hb : b ∈ frs X.stack
    · obtain ⟨sl, z⟩ := slot b o e hb
      exact ⟨_, z⟩
    · obtain ⟨o', z⟩ := here b o e hb
      exact ⟨o', st b o' z⟩
  · exact fun b xs e => by have z := F.un.tups b xs e; rw [upd_ne (nH b _ z)]; exact z
  · exact fun b o xs e => by have z := F.un.frzs b o xs e; rw [upd_ne (nH b _ z)]; exact z
  · exact fun b xs e => by obtain ⟨m, z⟩ := F.un.tbls b xs e; exact ⟨m, by rw [upd_ne (nH b _ z)]; exact z⟩
  · intro b u e
    by_cases hb : b = x
    · subst hb
      rw [upd_same] at e
      cases e
      refine ⟨hth, ⟨oe, he⟩, ?_⟩
      rintro g1 g2 ⟨o, q1, q2⟩ k
      exact ⟨o, k o q1, q2⟩
    · rw [upd_ne hb] at e
      refine (F.hok b u e).stay (fun c o hcc q => ?_) (fun c q => by rw [upd_ne (nH c _ q)]; exact q) fun c xs q => by rw [upd_ne (nH c _ q)]; exact q
      rcases hcc with rfl | hcc
      · exact st _ _ (trk _ _ _ e q)
      · exact st _ _ (trk _ _ _ hcc q)
/-- a name is unbound -/
theorem Inv.drop {n : Str} {i : Nat} {m : Str → Option Value} {u : Option Value} {h' : Heap} (I : Inv X pins σ H s) (hN : X.N.Nodup) (hi : X.N[i]? = some n) (hl : X.env.scope.names.lookup n = some .local)
    (hm : ∀ (j : Nat) (x : Str) (v : V), X.N[j]? = some x → σ[j]? = some (some v) → Vis X.env.scope x → ∃ u, RelV v u ∧ Look X.env s.heap m x u)
    (hn' : h'.Ns X.env.locals (fun x => if x = n then u else m x)) (hs : Heap.SameBut X.env.locals s.heap h') : Inv X pins (σ.set i none) H { s with heap := h' } := by
  have cne := I.cne
  have keep : ∀ b o, b ≠ X.env.locals → s.heap.get? b = some o → h'.get? b = some o := fun b o z e => (hs.2 b z).trans e
  have nel : ∀ b o, X.s_0.heap.get? b = some o → b ≠ X.env.locals := fun b o e => Nat.ne_of_lt (Nat.lt_of_lt_of_le (Heap.lt_size e) I.ok.above)
  refine ⟨I.ok, I.os, I.bare, ⟨fun b o e z hb hx => ?_, fun b o e z hb hx => ?_, I.base.free, fun b o e hx => ?_, I.base.tups, I.base.frzs, I.base.tbls⟩, ⟨_, hn', fun j y v' e1 e2 e3 => ?_⟩, fun y c e => ?_, I.free, I.freeC, fun p hp => ?_, fun b o e => ?_, by simpa using I.len⟩
  · exact keep b o (nel b o e) (I.base.keep b o e z hb hx)
  · obtain ⟨sl, e1⟩ := I.base.slot b o e z hb hx
    exact ⟨sl, keep b _ (nel b o e) e1⟩
  · obtain ⟨o', e1⟩ := I.base.there b o e hx
    exact ⟨o', keep b _ (nel b o e) e1⟩
  · by_cases hj : j = i
    · subst hj
      have hiσ : j < σ.length := by rw [I.len]; exact (List.getElem?_eq_some_iff.mp hi).1
      rw [List.getElem?_set_self hiσ] at e2
      cases e2
    · rw [List.getElem?_set_ne (Ne.symm hj)] at e2
      obtain ⟨u', r', q⟩ := hm j y v' e1 e2 e3
      refine ⟨u', r', ?_⟩
      rcases q with ⟨k, e⟩ | ⟨k, c, e, z⟩
      · refine .inl ⟨k, ?_⟩
        have : y ≠ n := fun e => hj (nodup_ix hN e1 (e ▸ hi))
        simp [this, e]
      · exact .inr ⟨k, c, e, z.sameBut hs (cne y c e)⟩
  · obtain ⟨w', z⟩ := I.cell y c e
    exact ⟨w', z.sameBut hs (cne y c e)⟩
  · obtain ⟨e, z, ne, nf, d⟩ := I.pin p hp
    exact ⟨keep _ _ ne e, z, ne, nf, d⟩
  · refine (I.hok b o e).stay (fun c w' hc q => keep c _ ?_ q) (fun _ q => q) fun _ _ q => q
    intro z
    have hf := I.free
    rcases hc with rfl | hc
    · rw [z, hf] at e; cases e
    · rw [z, hf] at hc; cases hc
end
def tTry (K : PySem.W.Frag) (S : Addr) (i : Nat) (tb : (St → XK) → TS) (th : TS) : TS := fun D σ H =>
  tb (fun σ' Cv ox H' => ∃ C x, Cv = .ref C ∧ ox = some x ∧ PySem.W.mroIn K C (.ref S) = some true ∧ th { nx := fun σ2 H2 => D.nx (σ2.set i none) H2, rt := D.rt } (σ'.set i (some (.ref x))) (upd H' x (.ext (ExcAt x C)))) D σ H
section
variable {X : Cx} {nm n : Str} {S : Addr} {i : Nat} {body : List Stmt} {b0 : Stmt} {suite : List Stmt} {np hp pos : Pos} {tb : (St → XK) → TS} {th : TS}
theorem SP.unpnd {pins ps : List (Addr × Obj)} {E : Value → Shared → Prop} {D : Ends} {f : Flow} {s' : Shared} (h : SP ((X.pinned pins).wish E) ps D f s') : SP X pins D f s' := by
  have h := h.unwish
  cases f with
  | next => obtain ⟨σ', H', I, q⟩ := h; exact ⟨σ', H', I.unpnd, q⟩
  | brk => obtain ⟨σ', H', I, q⟩ := h; exact ⟨σ', H', I.unpnd, q⟩
  | cont => obtain ⟨σ', H', I, q⟩ := h; exact ⟨σ', H', I.unpnd, q⟩
  | ret u => obtain ⟨v, σ', H', I, r, q⟩ := h; exact ⟨v, σ', H', I.unpnd, r, q⟩
/-- the handler's name is taken back -/
theorem taken_back {pins : List (Addr × Obj)} {σ : St} {H : Hp} {s : Shared} {E : Value → Shared → Prop} {Q : Unit → Shared → Prop} (I : Inv X pins σ H s) (hN : X.N.Nodup) (hi : X.N[i]? = some n) (hl : X.env.scope.names.lookup n = some .local)
    (k : ∀ s', Inv X pins (σ.set i none) H s' → Q () s') : wpAny (model X.prog X.w) X.A (do bindName X.env n .none; unbindBehindTheSuite X.env n hp) Q E s := by
  refine wpAny_bind (wpAny_bindName (store_ok I hN hi (.inl hl) (v := .non) rfl (fun s2 I2 => ?_) (.inr hl)))
  obtain ⟨m, hn, hm⟩ := I2.loc
  have hiσ : i < σ.length := by rw [I.len]; exact (List.getElem?_eq_some_iff.mp hi).1
  obtain ⟨u, _, hv⟩ := hm i n .non hi (List.getElem?_set_self hiσ) (.inl hl)
  have hv' : m n = some u := by
    rcases hv with ⟨_, z⟩ | ⟨z | z, _⟩
    · exact z
    · have z : X.env.scope.names.lookup n = some .cell := z
      rw [hl] at z; cases z
    · have z : X.env.scope.names.lookup n = some .free := z
      rw [hl] at z; cases z
  unfold unbindBehindTheSuite
  refine wpAny_onRaise (wpAny_mono (wpAny_unbindName_local (E := fun _ _ => False) hl hn hv' (by rw [I.ok.kind]; rfl) fun h' u' hn' hs => ?_) (fun _ _ z => z) fun _ _ z => z.elim)
  have I3 := Inv.drop I2 hN hi hl hm hn' hs
  rw [List.set_set] at I3
  exact k _ I3
end
end L2
end
section
set_option Elab.async false
set_option linter.all false
set_option maxRecDepth 100000
namespace L2
open PySem PySem.Spec PyProof.Rows
/-! ### a class of one's own, by the fragment -/
theorem ownCls_of {K : PySem.W.Frag} {h : Heap} {mg : Str → Option Value} {x : Str} {C : Addr} {bmB : List Value} {newId : String} (X : K.In h) (m : mg x = some (.ref C)) (q : PySem.W.excIn K C bmB newId = true) : OwnCls x C bmB newId mg h := by
  refine ⟨m, ?_⟩
  unfold PySem.W.excIn at q
  split at q
  · rename_i d0 cd sl ho
    split at q
    · rename_i C0 tl a0 a1 a2 a3 n a5 hm hs
      simp only [Bool.and_eq_true, beq_iff_eq, Bool.not_eq_true'] at q
      obtain ⟨⟨⟨⟨⟨e1, e2⟩, e3⟩, e4⟩, e5⟩, e6⟩ := q
      subst e1; subst e2
      obtain ⟨nm, bs, mro, ns, qn, hd, sn, sub, ab, col, del⟩ := cd
      dsimp only at hm e3 e5 e6
      subst hm; subst e3
      have es : sl = #[a0, a1, a2, a3, some (.builtin n), a5] := by
        obtain ⟨l⟩ := sl
        simp only at hs
        rw [hs]
      subst es
      exact ⟨tl, ns, nm, qn, bs, hd, sn, sub, ab, col, d0, a0, a1, a2, a3, a5, _, X _ _ ho, .of_isNs (PySem.W.isNs_of_in X e5), PySem.W.nsMap_none_of_in X e5 e6, PySem.W.tail_of_in X e4⟩
    · cases q
  · cases q
/-- all that is wanted of a refusal's class -/
structure XC (K : PySem.W.Frag) (mg : Str → Option Value) (base : Heap) (x : Str) (C S : Addr) : Prop where
  own : OwnCls x C bmV newV mg base
  cls : XCls K C
  sub : PySem.W.mroIn K C (.ref S) = some true
/-! ### isinstance of what was caught -/
def CAns (K : PySem.W.Frag) (H : Hp) (t : Value) (y : V) (b : Bool) : Prop :=
  (∃ D, y = .ref D ∧ PySem.W.kitOne K t (.ref D) = some b) ∨ (∃ n, y = .ty n ∧ PySem.W.kitOne K t (.type n) = some b) ∨ ∃ a ds, y = .ref a ∧ H a = some (.tup (List.map V.ref ds)) ∧ PySem.W.kitAny K t (List.map Value.ref ds) = some b
section
variable {X : Cx} {pins : List (Addr × Obj)} {σ : St} {H : Hp} {s : Shared} {A : Around} {E : Value → Shared → Prop} {Q : Value → Shared → Prop} {c : Value} {b : Bool}
theorem vals_refs : ∀ {ds : List Addr} {us : List Value}, Vals (List.map V.ref ds) us → us = List.map Value.ref ds
  | [], _, .nil => rfl
  | d :: ds, _, .cons r t => by
    have r : _ = Value.ref d := r
    rw [r, vals_refs t]
    rfl
end
end L2
end
section
set_option Elab.async false
set_option linter.all false
set_option maxRecDepth 100000
namespace L2
open PySem PySem.Spec PyProof.Rows
theorem xc_mk {K : PySem.W.Frag} {mg : Str → Option Value} {base : Heap} {x : Str} {C S : Addr} (X : K.In base) (m : mg x = some (.ref C)) (q : PySem.W.excIn K C bmV newV = true)
    (a1 : PySem.W.findIn K (.ref C) "__getattribute__" = some (some (.builtin "BaseException.__getattribute__"))) (a2 : PySem.W.findIn K (.ref C) "__getattr__" = some none)
    (a3 : PySem.W.findIn K (.ref C) "__class__" = some (some (.builtin "object.__class__"))) (a4 : PySem.W.mroIn K C (.type "BaseException") = some true) (a5 : PySem.W.mroIn K C (.type "object") = some true)
    (a6 : PySem.W.mroIn K C (.ref S) = some true) : XC K mg base x C S := ⟨ownCls_of X m q, ⟨a1, a2, a3, a4, a5⟩, a6⟩
end L2
end
section
set_option Elab.async false
set_option linter.all false
set_option maxRecDepth 100000
namespace L2
open PySem PySem.Spec PyProof.Rows
/-! ### x in a list or tuple of data -/
section
variable {X : Cx}
end
end L2
end
section
set_option Elab.async false
set_option linter.all false
set_option maxRecDepth 100000
namespace L2
open PySem PySem.Spec PyProof.Rows
/-! ### ways that join again -/
theorem same_of_kp {p : Addr} {H H' : Hp} (k : Kp p H H') (h : H p = none) : Same H H' := fun b o e => k b o e (ne_of_none e h)
theorem none_of {p : Addr} {H H' : Hp} (s : Same H H') (h : H' p = none) : H p = none := by
  cases z : H p with
  | none => rfl
  | some o => rw [s _ _ z] at h; cases h
theorem bdle {a : Int} {m n : Nat} (h : a.natAbs < 2 ^ m) (l : m ≤ n) : a.natAbs < 2 ^ n := Nat.lt_of_lt_of_le h (Nat.pow_le_pow_right (by decide) l)
/-! ### shapes of data -/
def ShN (n : Nat) (d : PyData) : Prop := d.canLay0 = true ∧ d.depth ≤ n
theorem ShN.sh {n : Nat} {d : PyData} (h : ShN n d) (hn : n ≤ 64) : SeqAt.shaped d = true := by
  unfold SeqAt.shaped
  rw [h.1, decide_eq_true (Nat.le_trans h.2 hn)]
  rfl
theorem ShN.le {m n : Nat} {d : PyData} (h : ShN m d) (l : m ≤ n) : ShN n d := ⟨h.1, Nat.le_trans h.2 l⟩
theorem ShN.all {n : Nat} : ∀ {ds : List PyData}, (∀ d ∈ ds, ShN n d) → PyData.canLayAll0 ds = true ∧ PyData.depthAll ds ≤ n
  | [], _ => ⟨rfl, by simp [PyData.depthAll]⟩
  | d :: ds, h => by
    have h1 := h d List.mem_cons_self
    have h2 := ShN.all fun e he => h e (List.mem_cons_of_mem _ he)
    have h3 := h1.2
    have h4 := h2.2
    refine ⟨by rw [PyData.canLayAll0, h1.1, h2.1]; rfl, ?_⟩
    simp only [PyData.depthAll]
    omega
theorem ShN.list {n : Nat} {ds : List PyData} (h : ∀ d ∈ ds, ShN n d) : ShN (n + 1) (.list ds) := by
  obtain ⟨h1, h2⟩ := ShN.all h
  refine ⟨by rw [PyData.canLay0]; exact h1, ?_⟩
  simp only [PyData.depth]
  omega
theorem ShN.tuple {n : Nat} {ds : List PyData} (h : ∀ d ∈ ds, ShN n d) : ShN (n + 1) (.tuple ds) := by
  obtain ⟨h1, h2⟩ := ShN.all h
  refine ⟨by rw [PyData.canLay0]; exact h1, ?_⟩
  simp only [PyData.depth]
  omega
theorem ShN.dF (q : Rat) : ShN 2 (dF q) := ⟨rfl, Nat.le_of_ble_eq_true rfl⟩
theorem ShN.dS (p : Rat × Rat) : ShN 3 (dS p) := ⟨rfl, Nat.le_of_ble_eq_true rfl⟩
theorem ne_d {K : PySem.W.Frag} {H : Hp} {Q : VK} {x y : V} {d e : PyData} (h1 : Dp K H x d) (h2 : Dp K H y e) (s1 : SeqAt.shaped d = true) (s2 : SeqAt.shaped e = true) (k : Q (.bl (!PyData.eqv d e)) H) : rNeA K x y H Q := .inr ⟨d, e, h1, h2, s1, s2, k⟩
theorem ne_same {K : PySem.W.Frag} {H : Hp} {Q : VK} {x y : V} {d : PyData} (h1 : Dp K H x d) (h2 : Dp K H y d) (s1 : SeqAt.shaped d = true) (k : Q (.bl false) H) : rNeA K x y H Q := ne_d h1 h2 s1 s1 (by rw [SeqAt.eqv_refl d (SeqAt.canLay_of_shaped s1)]; exact k)
end L2
end
section
set_option linter.all false
namespace My
/-! ### powers of a prime -/
def Pr (p : Nat) : Prop := 2 ≤ p ∧ ∀ d, d ∣ p → d = 1 ∨ d = p
def vp (p n : Nat) : Nat := if h : 2 ≤ p ∧ 0 < n ∧ n % p = 0 then 1 + vp p (n / p) else 0
termination_by n
decreasing_by exact Nat.div_lt_self h.2.1 h.1
theorem vp_step {p n : Nat} (hp : 2 ≤ p) (hn : 0 < n) (h : n % p = 0) : vp p n = 1 + vp p (n / p) := by
  rw [vp, dif_pos ⟨hp, hn, h⟩]
theorem vp_stop {p n : Nat} (h : n % p ≠ 0) : vp p n = 0 := by
  rw [vp, dif_neg (fun z => h z.2.2)]
theorem vp_eq {p : Nat} (hp : 2 ≤ p) : ∀ n, 0 < n → ∃ m, n = p ^ vp p n * m ∧ m % p ≠ 0 ∧ 0 < m := by
  intro n
  induction n using Nat.strongRecOn with
  | ind n ih =>
    intro hn
    by_cases h : n % p = 0
    · have hq : 0 < n / p := Nat.div_pos (Nat.le_of_dvd hn (Nat.dvd_of_mod_eq_zero h)) (by omega)
      obtain ⟨m, h1, h2, h3⟩ := ih (n / p) (Nat.div_lt_self hn hp) hq
      refine ⟨m, ?_, h2, h3⟩
      rw [vp_step hp hn h, Nat.add_comm, Nat.pow_succ, Nat.mul_assoc, Nat.mul_comm p m, ← Nat.mul_assoc, ← h1]
      exact (Nat.div_mul_cancel (Nat.dvd_of_mod_eq_zero h)).symm
    · exact ⟨n, by rw [vp_stop h]; simp, h, hn⟩
theorem vp_uniq {p : Nat} (hp : 2 ≤ p) : ∀ (k l m m' : Nat), m % p ≠ 0 → m' % p ≠ 0 → p ^ k * m = p ^ l * m' → k = l
  | 0, 0, _, _, _, _, _ => rfl
  | 0, l + 1, m, m', h, _, e => by
    exfalso; apply h
    rw [Nat.pow_zero, Nat.one_mul] at e
    rw [e, Nat.pow_succ, Nat.mul_assoc, Nat.mul_left_comm]
    exact Nat.mul_mod_right _ _
  | k + 1, 0, m, m', _, h, e => by
    exfalso; apply h
    rw [Nat.pow_zero, Nat.one_mul] at e
    rw [← e, Nat.pow_succ, Nat.mul_assoc, Nat.mul_left_comm]
    exact Nat.mul_mod_right _ _
  | k + 1, l + 1, m, m', h, h', e => by
    have e2 : p ^ k * m = p ^ l * m' := by
      rw [Nat.pow_succ, Nat.pow_succ, Nat.mul_assoc, Nat.mul_left_comm, Nat.mul_assoc (p ^ l), Nat.mul_left_comm (p ^ l)] at e
      exact Nat.eq_of_mul_eq_mul_left (by omega) e
    rw [vp_uniq hp k l m m' h h' e2]
theorem vp_of {p k m : Nat} (hp : 2 ≤ p) (hm : m % p ≠ 0) : vp p (p ^ k * m) = k := by
  have hm0 : 0 < m := by
    rcases Nat.eq_zero_or_pos m with z | z
    · subst z; exact absurd (Nat.zero_mod p) hm
    · exact z
  have hpos : 0 < p ^ k * m := Nat.mul_pos (Nat.pow_pos (by omega)) hm0
  obtain ⟨m', h1, h2, h3⟩ := vp_eq hp _ hpos
  exact (vp_uniq hp k _ m m' hm h2 h1).symm
theorem euclid {p a b : Nat} (hp : Pr p) (ha : a % p ≠ 0) (hb : b % p ≠ 0) : (a * b) % p ≠ 0 := by
  intro h
  have hd : p ∣ a * b := Nat.dvd_of_mod_eq_zero h
  rcases hp.2 _ (Nat.gcd_dvd_left p a) with g | g
  · have : p ∣ b := Nat.Coprime.dvd_of_dvd_mul_left (show Nat.Coprime p a from g) hd
    exact hb (Nat.mod_eq_zero_of_dvd this)
  · exact ha (Nat.mod_eq_zero_of_dvd (g ▸ Nat.gcd_dvd_right p a))
theorem vp_mul {p a b : Nat} (hp : Pr p) (ha : 0 < a) (hb : 0 < b) : vp p (a * b) = vp p a + vp p b := by
  obtain ⟨m, h1, h2, h3⟩ := vp_eq hp.1 a ha
  obtain ⟨n, k1, k2, k3⟩ := vp_eq hp.1 b hb
  have e : a * b = p ^ (vp p a + vp p b) * (m * n) := by
    rw [Nat.pow_add]
    calc a * b = (p ^ vp p a * m) * (p ^ vp p b * n) := by rw [← h1, ← k1]
      _ = p ^ vp p a * p ^ vp p b * (m * n) := by ac_rfl
  calc vp p (a * b) = vp p (p ^ (vp p a + vp p b) * (m * n)) := by rw [← e]
    _ = vp p a + vp p b := vp_of hp.1 (euclid hp h2 k2)
theorem vp_dvd {p k n : Nat} (hp : 2 ≤ p) (hn : 0 < n) : p ^ k ∣ n ↔ k ≤ vp p n := by
  obtain ⟨m, h1, h2, h3⟩ := vp_eq hp n hn
  constructor
  · rintro ⟨c, hc⟩
    have hc0 : 0 < c := by
      rcases Nat.eq_zero_or_pos c with z | z
      · subst z; omega
      · exact z
    obtain ⟨d, g1, g2, g3⟩ := vp_eq hp c hc0
    have e : n = p ^ (k + vp p c) * d := by rw [Nat.pow_add, Nat.mul_assoc, ← g1, hc]
    have e2 : vp p n = k + vp p c := by
      conv => lhs; rw [e]
      exact vp_of hp g2
    omega
  · intro h
    refine Nat.dvd_trans (Nat.pow_dvd_pow p h) ?_
    exact ⟨m, h1⟩
/-! ### of an int -/
def vi (p : Nat) (z : Int) : Nat := vp p z.natAbs
theorem vi_mul {p : Nat} {a b : Int} (hp : Pr p) (ha : a ≠ 0) (hb : b ≠ 0) : vi p (a * b) = vi p a + vi p b := by
  unfold vi
  rw [Int.natAbs_mul]
  exact vp_mul hp (by omega) (by omega)
theorem vi_dvd {p k : Nat} {z : Int} (hp : 2 ≤ p) (hz : z ≠ 0) : ((p ^ k : Nat) : Int) ∣ z ↔ k ≤ vi p z := by
  rw [Int.ofNat_dvd_left]
  exact vp_dvd hp (by omega)
theorem vi_neg {p : Nat} {z : Int} : vi p (-z) = vi p z := by unfold vi; rw [Int.natAbs_neg]
theorem vi_add {p : Nat} {a b : Int} (hp : 2 ≤ p) (ha : a ≠ 0) (hb : b ≠ 0) (h : a + b ≠ 0) : min (vi p a) (vi p b) ≤ vi p (a + b) := by
  refine (vi_dvd hp h).mp (Int.dvd_add ((vi_dvd hp ha).mpr (Nat.min_le_left _ _)) ((vi_dvd hp hb).mpr (Nat.min_le_right _ _)))
/-! ### of a fraction -/
def vq (p : Nat) (q : Rat) : Int := (vi p q.num : Int) - (vp p q.den : Int)
theorem vq_div {p : Nat} {a b : Int} (hp : Pr p) (ha : a ≠ 0) (hb : b ≠ 0) : vq p (Rat.divInt a b) = (vi p a : Int) - vi p b := by
  have hc : (Rat.divInt a b).num * b = a * (Rat.divInt a b).den := by
    have h := Rat.num_divInt_den (Rat.divInt a b)
    exact (Rat.divInt_eq_divInt_iff (by have := (Rat.divInt a b).den_nz; omega) hb).mp h
  have hd := (Rat.divInt a b).den_nz
  have hn : (Rat.divInt a b).num ≠ 0 := by
    intro z
    rw [z, Int.zero_mul] at hc
    rcases Int.mul_eq_zero.mp hc.symm with z | z
    · exact ha z
    · omega
  have e1 := vi_mul hp hn hb
  have e2 := vi_mul (a := a) (b := ((Rat.divInt a b).den : Int)) hp ha (by omega)
  rw [hc] at e1
  unfold vq
  have e3 : vi p ((Rat.divInt a b).den : Int) = vp p (Rat.divInt a b).den := by unfold vi; rw [Int.natAbs_natCast]
  rw [e3] at e2
  omega
theorem num_ne {q : Rat} (h : q ≠ 0) : q.num ≠ 0 := fun z => h (Rat.num_eq_zero.mp z)
theorem vq_neg {p : Nat} {q : Rat} : vq p (-q) = vq p q := by
  unfold vq
  rw [Rat.neg_num, Rat.neg_den, vi_neg]
theorem q_sum (q r : Rat) : Rat.divInt (q.num * r.den + r.num * q.den) (q.den * r.den) = q + r := by
  have h1 := q.den_nz
  have h2 := r.den_nz
  rw [← Rat.divInt_add_divInt _ _ (by omega) (by omega), Rat.num_divInt_den, Rat.num_divInt_den]
/-- the sum, as ints over one bottom -/
theorem vq_parts {p : Nat} {q r : Rat} (hp : Pr p) (hq : q ≠ 0) (hr : r ≠ 0) : ∃ (a b : Int) (d : Int), a ≠ 0 ∧ b ≠ 0 ∧ d ≠ 0 ∧ q + r = Rat.divInt (a + b) d ∧ vq p q = (vi p a : Int) - vi p d ∧ vq p r = (vi p b : Int) - vi p d := by
  have h1 := q.den_nz
  have h2 := r.den_nz
  refine ⟨q.num * r.den, r.num * q.den, q.den * r.den, Int.mul_ne_zero (num_ne hq) (by omega), Int.mul_ne_zero (num_ne hr) (by omega), Int.mul_ne_zero (by omega) (by omega), (q_sum q r).symm, ?_, ?_⟩
  · rw [vi_mul hp (num_ne hq) (by omega), vi_mul hp (by omega) (by omega)]
    unfold vq vi
    rw [Int.natAbs_natCast, Int.natAbs_natCast]
    omega
  · rw [vi_mul hp (num_ne hr) (by omega), vi_mul hp (by omega) (by omega)]
    unfold vq vi
    rw [Int.natAbs_natCast, Int.natAbs_natCast]
    omega
theorem divInt_ne {a d : Int} (hd : d ≠ 0) (h : Rat.divInt a d ≠ 0) : a ≠ 0 := fun z => h (by rw [z, Rat.zero_divInt])
theorem vq_add {p : Nat} {q r : Rat} (hp : Pr p) (hq : q ≠ 0) (hr : r ≠ 0) (h : q + r ≠ 0) : min (vq p q) (vq p r) ≤ vq p (q + r) := by
  obtain ⟨a, b, d, ha, hb, hd, e, e1, e2⟩ := vq_parts hp hq hr
  rw [e] at h ⊢
  have hab := divInt_ne hd h
  rw [vq_div hp hab hd, e1, e2]
  have := vi_add hp.1 ha hb hab
  omega
/-! ### the primes below 100 -/
end My
end
section
set_option Elab.async false
set_option linter.all false
set_option maxRecDepth 100000
namespace L2
open PySem PySem.Spec PyProof.Rows
/-! ### a module's tuple of ints -/
theorem pe_globI {X : Cx} {x : Str} {n : Int} {pos : Pos} (hg : Gl X x) (hm : ∃ t, X.mg x = some (.int n t)) (hd : (x == ("__debug__" : Str)) = false := by decide) : PE X (.Name x pos) (tC (.int n)) := by
  obtain ⟨t, hm⟩ := hm
  exact pe_glob hg hm ⟨t, rfl⟩ hd
/-! ### the same rules with the fragment by its name: for blocks within blocks -/
section
variable {X : Cx} {K : PySem.W.Frag}
theorem op_eqK (hu : X.A.units + 64 < cLine) (e : X.K = K) : OpR X (compareOp .Eq) (rEqA K) := e ▸ op_eqA hu
theorem op_neK (hu : X.A.units + 64 < cLine) (e : X.K = K) : OpR X (compareOp .NotEq) (rNeA K) := e ▸ op_neA hu
theorem ix_seqK (e : X.K = K) : IxR X (rIx K) := e ▸ ix_seq
theorem call_lenK (e : X.K = K) : CallR X (.builtin "len") (rLen K) := e ▸ call_lenA
end
/-! ### the primes -/
end L2
end
section
set_option Elab.async false
set_option linter.all false
set_option maxRecDepth 100000
namespace L2
open PySem PySem.Spec PyProof.Rows
/-! ### generators are never fewer -/
theorem runs_gens {M : Model} {Γ : PySem.Ctx} {p : Pos} {t : Sem Fin} {fs : List Frame} {s s' : Shared} {e : End} (h : Runs M Γ p t fs s e s') : s.gens.size ≤ s'.gens.size := by
  induction h <;> (try simp only [Shared.setGen, Array.size_setIfInBounds, Array.size_push] at *) <;> omega
theorem wakes_gens {M : Model} {Γ : PySem.Ctx} {p : Pos} {g : Nat} {r : Resume} {s s' : Shared} {res : GenResult} (h : Wakes M Γ p g r s res s') : s.gens.size ≤ s'.gens.size := by
  have sz : ∀ (s : Shared) x, (s.setGen g x).gens.size = s.gens.size := fun s x => by simp [Shared.setGen]
  unfold Wakes at h
  split at h
  · exact h.elim
  · split at h
    · obtain ⟨e₁, s₁, hr, _, _, rfl⟩ := h
      have := runs_gens hr
      rw [sz] at this
      rw [sz]; exact this
    · rw [h.2]; first | exact Nat.le_refl _ | (rw [sz]; exact Nat.le_refl _)
    · rw [h.2]; first | exact Nat.le_refl _ | (rw [sz]; exact Nat.le_refl _)
  · obtain ⟨e₁, s₁, hr, _, _, rfl⟩ := h
    have := runs_gens hr
    rw [sz] at this
    rw [sz]; exact this
  · rw [h.2]; exact Nat.le_refl _
  · rw [h.2]; exact Nat.le_refl _
theorem wp_gens {α : Type} (M : Model) (Γ : PySem.Ctx) (n : Nat) (t : Sem α) : ∀ (Q : α → Pos → Shared → Prop) (E : Value → Pos → Shared → Prop) (p : Pos) (s : Shared), n ≤ s.gens.size → Sem.wp M Γ t Q E p s →
    Sem.wp M Γ t (fun a p' s' => n ≤ s'.gens.size ∧ Q a p' s') (fun e p' s' => n ≤ s'.gens.size ∧ E e p' s') p s := by
  induction t with
  | pure a => intro Q E p s hn h; exact ⟨hn, h⟩
  | raise e => intro Q E p s hn h; exact ⟨hn, h⟩
  | unsupported _ => intro Q E p s _ h; exact h
  | finish _ => intro Q E p s _ h; exact h
  | rule _ k ih => intro Q E p s hn h; exact ih () Q E p s hn h
  | «at» p' k ih => intro Q E p s hn h; exact ih () Q E p' s hn h
  | load a _ k ih => intro Q E p s hn h; obtain ⟨o, ho, h⟩ := h; exact ⟨o, ho, ih o Q E p s hn h⟩
  | update a _ f k ih => intro Q E p s hn h; exact ⟨h.1, ih () Q E p _ hn h.2⟩
  | loadIfAlive a k ih => intro Q E p s hn h; exact ih _ Q E p s hn h
  | point _ k ih => intro Q E p s hn h; exact ih () Q E p s hn h
  | register _ _ => intro Q E p s _ h; exact h
  | alloc o k ih => intro Q E p s hn h; exact ih _ Q E p _ hn h
  | fresh k ih => intro Q E p s hn h; exact ih _ Q E p _ hn h
  | ask k ih => intro Q E p s hn h; exact ih _ Q E p s hn h
  | choose src m k ih => intro Q E p s hn h; exact ⟨h.1, ih _ Q E p _ hn h.2⟩
  | os q _ k ih => intro Q E p s hn h; exact ih _ Q E p _ hn h
  | call c hd _ _ k ih => intro Q E p s hn h; obtain ⟨r, s', hr, h⟩ := h; exact ⟨r, s', hr, ih r Q E p s' (Nat.le_trans hn (runs_gens hr)) h⟩
  | handled own k ih => intro Q E p s hn h; exact ih _ Q E p s hn h
  | genState g k ih => intro Q E p s hn h; obtain ⟨st, hs, h⟩ := h; exact ⟨st, hs, ih _ Q E p s hn h⟩
  | newGen c k ih => intro Q E p s hn h; exact ih _ Q E p _ (Nat.le_trans hn (by simp)) h
  | resume g r _ k ih => intro Q E p s hn h; obtain ⟨res, s', hw, h⟩ := h; exact ⟨res, s', hw, ih res Q E p s' (Nat.le_trans hn (wakes_gens hw)) h⟩
  | yield _ _ _ _ => intro Q E p s _ h; exact h
  | stack k ih => intro Q E p s hn h; exact ih _ Q E p s hn h
  | fork _ _ => intro Q E p s _ h; exact h
  | thread k ih => intro Q E p s hn h; exact ih _ Q E p s hn h
  | await _ _ _ _ _ => intro Q E p s _ h; exact h
theorem wpAny_gens {α : Type} {M : Model} {A : Around} {s : Shared} {t : Sem α} {Q : α → Shared → Prop} {E : Value → Shared → Prop} {n : Nat} (hn : n ≤ s.gens.size)
    (h : wpAny M A t (fun a s' => n ≤ s'.gens.size → Q a s') (fun e s' => n ≤ s'.gens.size → E e s') s) : wpAny M A t Q E s :=
  wpAny_mono (Q := fun a s' => n ≤ s'.gens.size ∧ (n ≤ s'.gens.size → Q a s')) (E := fun e s' => n ≤ s'.gens.size ∧ (n ≤ s'.gens.size → E e s'))
    (fun Γ p hΓ => wp_gens M Γ n t _ _ p s hn (h Γ p hΓ)) (fun _ _ x => x.2 x.1) (fun _ _ x => x.2 x.1)

/-! ### a code object's table, which grows -/
def Tbl (P : Addr) : Heap → Prop := fun h => ∃ ps : Array Value, h.get? P = some { cls := .none, data := .fields ps } ∧ TriplesOk ps.toList
theorem tbl_ok {P' : Program} {w : World} {H : Hp} {h : Heap} {P : Addr} (t : Tbl P h) : ObjOk P' w H h P (.ext (Tbl P)) := by
  obtain ⟨ps, e, tr⟩ := t
  exact ⟨⟨ps, e, tr⟩, ⟨_, e⟩, fun h1 h2 ⟨ps, e, tr⟩ k => ⟨ps, k _ e, tr⟩⟩
/-- the code object of a def, by the fragment -/
structure CodeK (K : PySem.W.Frag) (cdv : Value) (c P : Addr) : Prop where
  eq : cdv = .ref c
  lk : ∃ o vs file tf flags tg inF text tt, K.lookup c = some o ∧ o.cls = .type "code" ∧ o.data = .fields vs ∧ vs.getD 11 .none = .ref P ∧ vs[11]? = some (.ref P) ∧ vs.getD 18 .none = .str file tf ∧ vs.getD 7 .none = .int flags tg ∧ vs.getD 9 .none = .bool inF ∧ vs.getD 10 .none = .int text tt
  ne : c ≠ P
theorem CodeK.at_ {K : PySem.W.Frag} {cdv : Value} {c P : Addr} {h : Heap} {ps : Array Value} (x : CodeK K cdv c P) (X : K.In h) (e : h.get? P = some { cls := .none, data := .fields ps }) (tr : TriplesOk ps.toList) : h.IsCode c P ps ∧ h.TableAt c P ps := by
  obtain ⟨o, vs, file, tf, flags, tg, inF, text, tt, h1, h2, h3, h4, h4', h5, h6, h7, h8⟩ := x.lk
  exact ⟨⟨o, vs, file, tf, flags, tg, inF, text, tt, _, X _ _ h1, h3, h4, h5, h6, h7, h8, e, rfl, tr, x.ne⟩, ⟨o, vs, X _ _ h1, h2, h3, h4'⟩, e⟩
theorem upd_id {H : Hp} {a : Addr} {o : HO} (h : H a = some o) : upd H a o = H := by
  funext b
  by_cases e : b = a
  · subst e; rw [upd_same, h]
  · rw [upd_ne e]
section
variable {X : Cx} {pins : List (Addr × Obj)} {σ : St} {H : Hp} {s : Shared}
theorem Inv.regen (I : Inv X pins σ H s) {g : Array GenState} (hg : AllBare g) : Inv X pins σ H { s with gens := g } :=
  ⟨I.ok, I.os, hg, I.base, I.loc, I.cell, I.free, I.freeC, I.pin, I.hok, I.len⟩
theorem gencode_ok {c P : Addr} {pos : Pos} {qual : Str} {scope : Scope} {Q : Value → Shared → Prop} {E : Value → Shared → Prop} {A : Around} (I : Inv X pins σ H s) (ck : CodeK X.K X.env.code c P) (hP : H P = some (.ext (Tbl P)))
    (k : ∀ code h' tk, Inv X pins σ H { s with heap := h', toks := tk } → (∀ b o, b ≠ P → s.heap.get? b = some o → h'.get? b = some o) → Q code { s with heap := h', toks := tk }) : wpAny (model X.prog X.w) A (genexprCode X.env pos qual scope) Q E s := by
  obtain ⟨⟨ps, e, tr⟩, _, _⟩ := (show ObjOk X.prog X.w H s.heap P (.ext (Tbl P)) from I.hok P _ hP)
  obtain ⟨ic, ta⟩ := ck.at_ I.kIn e tr
  cases hf : codeAmong pos ps.toList with
  | some c' =>
    refine wpAny_genexprCode_hit ck.eq ic hf ?_
    exact k c' s.heap s.toks I (fun _ _ _ e => e)
  | none =>
    refine wpAny_genexprCodeX ck.eq ic ta hf fun c' h' tk x1 x2 x3 x4 x5 x6 x7 => ?_
    refine k (.ref c') h' tk ?_ (fun b o hb e => x1 b o hb e)
    have tb : Tbl P h' := ⟨_, x6.2, by obtain ⟨_, _, _, _, _, _, _, _, _, op, _, _, _, _, _, _, _, _, _, tr', _⟩ := x4; exact tr'⟩
    have := I.write (x := P) (e := P) (o := .ext (Tbl P)) (t' := tk) (by rw [hP]; trivial) (.inl rfl) (fun b u hb q => x1 b u hb q) ⟨_, x6.2⟩ (tbl_ok tb)
    rw [upd_id hP] at this
    exact this
end
/-! ### the block of a generator expression -/
abbrev Cx.gen (X : Cx) (A' : Around) (s : Shared) (H : Hp) (cenv : Env) (fp : List Addr) : Cx :=
  { X with A := A', s_0 := s, H_0 := H, env := cenv, outer := X.stack, stack := cenv :: X.stack, ex := fp, fn := fun _ => false, calm := true, pn := [], xe := fun _ _ => False }
section
variable {X : Cx} {pins : List (Addr × Obj)} {σ : St} {H : Hp} {s : Shared}
theorem gen_start {scope : Scope} {own : List (Str × Nat)} {fp : List Addr} {A' : Around} {code it : Value} {h' : Heap} {gs : GenState} {tk : Nat} {og : Obj} (I : Inv X pins σ H s) (ok : BlkOk X.N X.env.scope scope own) (hN : X.N.Nodup) (hcell : ∀ y ∈ scope.names, y.2 ≠ .cell)
    (hfp : ∀ b ∈ fp, FpOk X pins H b ∧ b < s.heap.objs.size) (hA1 : A'.frames = some (genEnv scope (cloFrom X.env.cells scope.names []) s.heap.objs.size code builtinsNs X.env :: X.stack)) (hA2 : A'.handled = none)
    (hns : h'.Ns s.heap.objs.size (fun y => if y = ".0" then some it else none)) (hk : ∀ b o, s.heap.get? b = some o → h'.get? b = some o) (hz : h'.objs.size = s.heap.objs.size + 1) (hog : og.isFreed = false) (hoc : ∀ v, og.data ≠ .cell v) (hb : gs.bare = true) :
    Inv (X.gen A' s H (genEnv scope (cloFrom X.env.cells scope.names []) s.heap.objs.size code builtinsNs X.env) fp) [(h'.objs.size, og)] (wipe σ (own.map (·.2))) H { s with gens := s.gens.push gs, toks := tk, heap := h'.push og } := by
  have hfree : ∀ y ∈ scope.names, y.2 = .free → ∃ c, X.env.cells.lookup y.1 = some c := fun y hy e => by
    rcases ok.free y hy e with k | k
    · exact I.ok.has _ (.inl k)
    · exact I.ok.has _ (.inr k)
  generalize hcenv : genEnv scope (cloFrom X.env.cells scope.names []) s.heap.objs.size code builtinsNs X.env = cenv at hA1 ⊢
  have kp : ∀ b o, s.heap.get? b = some o → (h'.push og).get? b = some o := fun b o e => Heap.get?_push_of_some _ (hk b o e)
  have hL : cenv.locals = s.heap.objs.size := by rw [← hcenv]; rfl
  have hcl : cenv.cells = cloFrom X.env.cells scope.names [] := by rw [← hcenv]; rfl
  have hsc : cenv.scope = scope := by rw [← hcenv]; rfl
  have cm : ∀ {y c}, (y, c) ∈ cloFrom X.env.cells scope.names [] → X.env.cells.lookup y = some c ∧ c < s.heap.objs.size := fun {y c} hm => by
    rcases cloFrom_mem hm with hm | ⟨h1, rfl⟩
    · cases hm
    · obtain ⟨c, hc⟩ := hfree _ h1 rfl
      rw [hc]
      obtain ⟨w, z⟩ := I.cell _ _ hc
      exact ⟨rfl, z.lt⟩
  have mem : ∀ {y c}, cenv.cells.lookup y = some c → X.env.cells.lookup y = some c ∧ c < s.heap.objs.size := fun {y c} e => by
    rw [hcl] at e
    exact cm (PySem.mem_of_lookup e)
  have look : ∀ {y}, scope.names.lookup y = some .free → ∃ c, cenv.cells.lookup y = some c ∧ X.env.cells.lookup y = some c := fun {y} hl => by
    have hy : (y, NameKind.free) ∈ scope.names := PySem.mem_of_lookup hl
    obtain ⟨c', e'⟩ := mem_lookup (cloFrom_has (cells := X.env.cells) (acc := []) hy)
    rw [← hcl] at e'
    exact ⟨c', e', (mem e').1⟩
  have key : ∀ y k, cenv.kindOf y = some k → scope.names.lookup y = some k := fun y k hk => by
    unfold Env.kindOf at hk
    rw [hsc] at hk
    exact hk
  have okG : (X.gen A' s H cenv fp).Ok := by
    refine ⟨I.ok.mod, by show cenv.scope.kind = _; rw [hsc]; exact ok.kind, by show cenv.globals = _; rw [← hcenv]; exact I.ok.glob, by show cenv.builtins = _; rw [← hcenv]; rfl, by show s.heap.objs.size ≤ cenv.locals; rw [hL]; exact Nat.le_refl _,
      fun y z c e1 e2 => I.ok.inj y z c (mem e1).1 (mem e2).1, fun y hy => ?_, fun y c z e => absurd (show false = true from z) (by decide), fun _ => hA2, hA1, .inr ⟨rfl, ?_⟩, fun b hb => ⟨?_, fun y c e z => ?_⟩, I.bs, Nat.le_trans I.ok.bsz I.sz, fun b o e hb => ?_, fun b hb z => ?_, I.stack, I.stkFree⟩
    · rcases hy with hy | hy
      · exact absurd rfl (hcell _ (PySem.mem_of_lookup (key _ _ hy)))
      · obtain ⟨c, h1, _⟩ := look (key _ _ hy)
        exact ⟨c, h1⟩
    · show cenv.frame = some cenv.locals
      rw [← hcenv]
      rfl
    · show b ≠ cenv.locals
      rw [hL]; exact Nat.ne_of_lt (hfp b hb).2
    · exact (hfp b hb).1.2.2.2.2.1 y c (mem e).1 z
    · rcases (hfp b hb).1.2.2.2.1 with z | z
      · exact I.ok.noex b o e z
      · exact absurd (Nat.lt_of_lt_of_le (Heap.lt_size e) (Nat.le_trans I.ok.bsz z)) (Nat.lt_irrefl _)
    · rcases List.mem_cons.mp (I.stkSub b z) with z | z
      · exact (hfp b hb).1.2.1 z
      · exact (hfp b hb).1.2.2.1 z
  refine ⟨okG, rfl, I.bare.push hb, Un.kept kp, ⟨fun y => if y = ".0" then some it else none, ?_, fun i y av e1 e2 e3 => ?_⟩, fun y c e => ?_, ?_, fun y c e => ?_, fun p hp => ?_, I.hok.kept kp, by rw [wipe_length]; exact I.len⟩
  · show Heap.Ns _ cenv.locals _
    rw [hL]
    exact hns.push og
  · obtain ⟨e2, hne⟩ := wipe_some e2
    have e3 : Vis cenv.scope y := e3
    rw [hsc] at e3
    have hfr : scope.names.lookup y = some .free := by
      rcases e3 with e3 | e3 | e3
      · exfalso
        rcases ok.own _ (PySem.mem_of_lookup e3) (.inl rfl) with e' | e'
        · obtain ⟨p, hp, hpy⟩ := List.mem_map.mp e'
          have e4 := ok.ix p hp
          have : p.1 = y := hpy
          rw [this] at e4
          exact hne (List.mem_map.mpr ⟨p, hp, nodup_ix hN e4 e1⟩)
        · exact e' (List.mem_of_getElem? e1)
      · exact absurd rfl (hcell _ (PySem.mem_of_lookup e3))
      · exact e3
    obtain ⟨m, hn, hl⟩ := I.loc
    have hvis : Vis X.env.scope y := (ok.free _ (PySem.mem_of_lookup hfr) rfl).elim (fun k => .inr (.inl k)) (fun k => .inr (.inr k))
    obtain ⟨w, r, q⟩ := hl i y av e1 e2 hvis
    have kf : cenv.kindOf y = some .free := by unfold Env.kindOf; rw [hsc]; exact hfr
    refine ⟨w, r, .inr ⟨.inr kf, ?_⟩⟩
    obtain ⟨c, h1, h2⟩ := look hfr
    rcases q with ⟨k, _⟩ | ⟨_, c', e', z⟩
    · have k : X.env.scope.names.lookup y = some .local := k
      rcases ok.free _ (PySem.mem_of_lookup hfr) rfl with k' | k' <;> rw [show X.env.scope.names.lookup y = _ from k'] at k <;> cases k
    · rw [h2] at e'; cases e'
      exact ⟨c, h1, z.keeps kp⟩
  · obtain ⟨w, z⟩ := I.cell y c (mem e).1
    exact ⟨w, z.keeps kp⟩
  · show H cenv.locals = none
    rw [hL]; exact I.hok.fresh (Nat.le_refl _)
  · exact I.freeC y c (mem e).1
  · have e : p = (h'.objs.size, og) := by simpa using hp
    subst e
    refine ⟨Heap.get?_push_size _ hog, I.hok.fresh (by rw [hz]; exact Nat.le_succ _), ?_, fun z => ?_, hoc⟩
    · show h'.objs.size ≠ cenv.locals
      rw [hz, hL]
      exact Nat.succ_ne_self _
    · obtain ⟨_, o2, h2, _⟩ := I.stack.mem (show h'.objs.size ∈ frs X.stack from z)
      have := Heap.lt_size h2
      rw [hz] at this
      exact absurd this (Nat.not_lt.mpr (Nat.le_succ _))
end
end L2
end
section
set_option Elab.async false
set_option linter.all false
set_option maxRecDepth 100000
namespace L2
open PySem PySem.Spec PyProof.Rows
/-! ### the loop of a generator expression that all, any pull -/
def GInv (Y : Cx) (fp : List Addr) (tn : Nat → Heap → Prop) (pins : List (Addr × Obj)) (σw : St) (W : Nat → Nat → Hp → Prop) (i m : Nat) (s : Shared) : Prop :=
  ∃ H', Inv Y pins σw H' s ∧ tn i s.heap ∧ (∀ b ∈ fp, H' b = none) ∧ W i m H'
theorem Inv.asHeap {X : Cx} {pins : List (Addr × Obj)} {σ : St} {H : Hp} {s s' : Shared} (I : Inv X pins σ H s) (h1 : s'.heap = s.heap) (h2 : s'.os = s.os) (h3 : AllBare s'.gens) : Inv X pins σ H s' := by
  obtain ⟨h, g, d, t, o⟩ := s'
  dsimp only at h1 h2 h3
  subst h1; subst h2
  exact ⟨I.ok, I.os, h3, I.base, I.loc, I.cell, I.free, I.freeC, I.pin, I.hok, I.len⟩
theorem GInv.asHeap {Y : Cx} {fp : List Addr} {tn : Nat → Heap → Prop} {pins : List (Addr × Obj)} {σw : St} {W : Nat → Nat → Hp → Prop} {i m : Nat} {s s' : Shared} (x : GInv Y fp tn pins σw W i m s) (h1 : s'.heap = s.heap) (h2 : s'.os = s.os) (h3 : AllBare s'.gens) : GInv Y fp tn pins σw W i m s' := by
  obtain ⟨H', a, b, c, d⟩ := x
  exact ⟨H', a.asHeap h1 h2 h3, by rw [h1]; exact b, c, d⟩
/-- what a pulled item is -/
def GY (Y : Cx) (fp : List Addr) (tn : Nat → Heap → Prop) (pins : List (Addr × Obj)) (σw : St) (W : Nat → Nat → Hp → Prop) (stop : Bool) (QS : Hp → Prop) : Protocol := fun m s₀ v s kap =>
  ∃ c, v = .bool c ∧ AllBare s.gens ∧ (c = stop → ∃ σ' H', Inv Y pins σ' H' s ∧ QS H') ∧
    (c ≠ stop → ∃ i m', m' < m ∧ GInv Y fp tn pins σw W i m' s ∧ ∀ s'' : Shared, s''.heap = s.heap → s''.os = s.os → AllBare s''.gens → kap (.send .none) s'')
def GE (Y : Cx) (pins : List (Addr × Obj)) (σw : St) (QE : Hp → Prop) : Nat → Shared → Shared → Prop := fun _ _ s₁ => ∃ H', Inv Y pins σw H' s₁ ∧ QE H'
section
variable {Y : Cx} {A : Around} {tg iter elt : Expr} {ifs : List Expr} {scope : Scope} {pos : Pos} {it : Addr} {J : It} {fp : List Addr} {tn : Nat → Heap → Prop} {g : TG} {tt : TT} {te : TE} {vs : List Nat} {σ : St}
  {pins : List (Addr × Obj)} {W : Nat → Nat → Hp → Prop} {stop : Bool} {QS QE : Hp → Prop} {sel : Bool → Hp → (Hp → Prop) → Prop}
theorem gen_loop (hYA : Y.A = A.over (.compLoop (.GeneratorExp elt [⟨tg, iter, ifs, 0⟩] scope pos) 0 (.ref it) .none Y.env) []) (hcalm : Y.calm = true) (hco : Y.env.scope.isCoroutine = false) (hxe : Y.xe = fun _ _ => False) (hpn : Y.pn = []) (hex : Y.ex = fp)
    (T : Turn Y.prog Y.w Y.K tg J fp it tn) (pg : PG Y tg g) (pt : PTs Y ifs tt) (pe : PE Y elt te) (hap : ∀ p ∈ pins, ∀ b ∈ fp, p.1 ≠ b)
    (hsel : ∀ c H Nx, sel c H Nx → (c = stop → QS H) ∧ (c ≠ stop → Nx H))
    (turn : ∀ i m H, W i m H → (J.stop i H ∧ QE H) ∨ (J.go i H ∧ ∃ Nx : Hp → Prop, (∀ H', Nx H' → ∃ m', m' < m ∧ W (i + 1) m' H') ∧ ∀ x H', J.yld i H x H' → g x (wipe σ vs) H' fun σ2 H2 => wipe σ2 vs = wipe σ vs ∧ tt σ2 H2 fun b H3 =>
      if b = true then te σ2 H3 fun y H4 => ∃ c, y = .bl c ∧ sel c H4 Nx else Nx H3)) :
    ∀ (m n i : Nat) (s₀ s : Shared), m < n → GInv Y fp tn pins (wipe σ vs) W i m s →
      Seg (model Y.prog Y.w) A (fun n s₀ r s₁ => r = .ok .next ∧ GE Y pins (wipe σ vs) QE n s₀ s₁) (GY Y fp tn pins (wipe σ vs) W stop QS) n s₀ (.compLoop (.GeneratorExp elt [⟨tg, iter, ifs, 0⟩] scope pos) 0 (.ref it) .none Y.env)
        ((model Y.prog Y.w).den (.compLoop (.GeneratorExp elt [⟨tg, iter, ifs, 0⟩] scope pos) 0 (.ref it) .none Y.env)) [] s := by
  have stat : ∀ {σ' : St} {H' : Hp} {s' : Shared}, Inv Y pins σ' H' s' → (∀ b ∈ fp, H' b = none) → ∀ b ∈ fp, FpOk Y pins H' b := fun {σ' H' s'} I' hn b hb =>
    ⟨hn b hb, (I'.ok.exf b (by rw [hex]; exact hb)).1, I'.ok.exfs b (by rw [hex]; exact hb), .inl (by rw [hex]; exact hb), fun x c e => (I'.ok.exf b (by rw [hex]; exact hb)).2 x c e, fun p hp => by
      rw [hpn, List.nil_append] at hp
      exact hap p hp b hb⟩
  intro m
  induction m using Nat.strongRecOn with
  | ind m ih =>
    intro n i s₀ s hmn hG
    obtain ⟨H5, I5, st5, n5, w5⟩ := hG
    show Seg _ A _ _ _ s₀ _ ((compTurn (.GeneratorExp elt [⟨tg, iter, ifs, 0⟩] scope pos) 0 (.ref it) .none Y.env).onRaise (leaving Y.env)) [] s
    rw [compTurn_gen, Sem.onRaise_eq_wrap]
    refine seg_bind_wrap (wpAny_standAt ?_)
    rcases turn i m H5 w5 with ⟨hstop, qq⟩ | ⟨go, Nx, hNx, step⟩
    · have td := T.done Y rfl rfl rfl hcalm i pins s _ H5 (fun _ _ => False) I5 (stat I5 n5) st5 hstop
      rw [hYA] at td
      refine seg_bind_wrap (thnF td fun r s6 ⟨hr, I6⟩ => ?_)
      subst hr
      exact seg_end (.ok .next) ⟨rfl, H5, I6, qq⟩
    · have ti := T.item Y rfl rfl rfl hcalm i pins s _ H5 (fun _ _ => False) I5 (stat I5 n5) st5 go
      rw [hYA] at ti
      refine seg_bind_wrap (thnF ti fun r s6 ⟨u, hr, h6⟩ => ?_)
      subst hr
      refine seg_bind_wrap (thnF h6 fun _ s7 ⟨x, H7, I7, r7, y7, st7, n7⟩ => ?_)
      have I7' := I7.pinned (stat I7 n7) (T.obj _ _ st7)
      have h7 := pg _ s7 _ H7 x u _ I7' r7 (step x H7 y7)
      rw [hYA, hxe] at h7
      refine seg_bind_wrap (thnF h7 fun _ s8 ⟨σ8, H8, I8, hw8, q8⟩ => ?_)
      have h8 := pt _ s8 σ8 H8 _ I8 q8
      rw [hYA, hxe] at h8
      refine seg_bind_wrap (thnF h8 fun b s9 ⟨H9, I9, q9⟩ => ?_)
      have fin : ∀ {s' : Shared} {H' : Hp}, Inv Y (pins ++ pinsAt fp s7.heap) σ8 H' s' → Nx H' → ∃ m', m' < m ∧ GInv Y fp tn pins (wipe σ vs) W (i + 1) m' s' := fun {s' H'} I' nx => by
        obtain ⟨m', hm, w'⟩ := hNx H' nx
        have pin' : ∀ b ∈ fp, ∀ o, s7.heap.get? b = some o → s'.heap.get? b = some o ∧ H' b = none := fun b hb o e =>
          let z := I'.pin (b, o) (List.mem_append_right _ (List.mem_append_right _ (mem_pinsAt hb e)))
          ⟨z.1, z.2.1⟩
        have hl : (wipe σ vs).length = σ8.length := by rw [← hw8, wipe_length]
        refine ⟨m', hm, H', (I'.unpinned (pins := pins)).weak hl (fun j v e => ?_), T.keep _ _ _ st7 fun b hb o e => (pin' b hb o e).1, fun b hb => ?_, w'⟩
        · rw [← hw8] at e
          exact (wipe_some e).1
        · obtain ⟨o, e, _⟩ := T.obj _ _ st7 b hb
          exact (pin' b hb o e).2
      cases b with
      | false =>
        simp only [Bool.false_eq_true, if_false] at q9 ⊢
        obtain ⟨m', hm, G'⟩ := fin I9 q9
        exact seg_again rfl (ih m' hm n (i + 1) s₀ _ (by omega) G')
      | true =>
        simp only [if_true] at q9 ⊢
        have hy : ∀ v, yieldOut Y.env v = yieldValue v := fun v => by simp only [yieldOut, hco, Bool.false_eq_true, if_false]
        simp only [hy]
        rw [Sem.bind_eq_wrap', Sem.bind_eq_wrap', Sem.wrap_wrap, Sem.wrap_wrap]
        have h9 := pe _ s9 σ8 H9 _ I9 q9
        rw [hYA, hxe] at h9
        refine seg_wrap (thnF h9 fun z s10 ⟨yv, H10, I10, r10, c, hyv, hs⟩ => ?_)
        subst hyv
        have ez : z = .bool c := r10
        subst ez
        obtain ⟨hs1, hs2⟩ := hsel c H10 Nx hs
        obtain ⟨n', rfl⟩ : ∃ n', n = n' + 1 := ⟨n - 1, by omega⟩
        refine seg_at (seg_yield rfl rfl rfl ⟨c, rfl, I10.bare, fun hc => ⟨σ8, H10, I10.unpinned, hs1 hc⟩, fun hc => ?_⟩)
        obtain ⟨m', hm2, G'⟩ := fin I10 (hs2 hc)
        have hm1 : m' < n' := by omega
        exact ⟨i + 1, m', hm1, G', fun s'' e1 e2 e3 => seg_again rfl (ih m' hm2 n' (i + 1) s'' s'' hm1 (G'.asHeap e1 e2 e3))⟩

theorem gen_begin (hYA : Y.A = A.over (.compLoop (.GeneratorExp elt [⟨tg, iter, ifs, 0⟩] scope pos) 0 (.ref it) .none Y.env) []) (T : Turn Y.prog Y.w Y.K tg J fp it tn) {n i m : Nat} {s₀ s : Shared} (hst : tn i s.heap) {R : GenEnd} {Z : Protocol}
    (loop : Seg (model Y.prog Y.w) A R Z n s₀ (.compLoop (.GeneratorExp elt [⟨tg, iter, ifs, 0⟩] scope pos) 0 (.ref it) .none Y.env) ((model Y.prog Y.w).den (.compLoop (.GeneratorExp elt [⟨tg, iter, ifs, 0⟩] scope pos) 0 (.ref it) .none Y.env)) [] s) :
    Seg (model Y.prog Y.w) A R Z n s₀ (.compStart (.GeneratorExp elt [⟨tg, iter, ifs, 0⟩] scope pos) 0 (.ref it) .none Y.env) ((model Y.prog Y.w).den (.compStart (.GeneratorExp elt [⟨tg, iter, ifs, 0⟩] scope pos) 0 (.ref it) .none Y.env)) [] s := by
  show Seg _ A _ _ _ s₀ _ ((compStart (.GeneratorExp elt [⟨tg, iter, ifs, 0⟩] scope pos) 0 (.ref it) .none Y.env).onRaise (leaving Y.env)) [] s
  unfold compStart
  rw [Sem.onRaise_eq_wrap]
  show Seg _ A _ _ _ s₀ _ ((ask >>= _).wrap _ _ _ _) [] s
  refine seg_bind_wrap (wpAny_askSetting ?_)
  split
  · exact seg_again rfl loop
  · first
      | exact seg_bind_wrap (wpAny_rule (seg_bind_wrap (wpAny_standAt (seg_bind_wrap (T.self _ i s _ _ hst (seg_again rfl loop))))))
      | (refine seg_bind_wrap (wpAny_rule ?_); show Seg _ A _ _ _ s₀ _ ((standAt iter.pos >>= _).wrap _ _ _ _) [] s; exact seg_bind_wrap (wpAny_standAt (seg_bind_wrap (T.self _ i s _ _ hst (seg_again rfl loop)))))
end
/-! ### one pull -/
theorem mem_setGen {s : Shared} {g : Nat} {x : GenState} (h : AllBare s.gens) (hx : x.bare = true) : AllBare (s.setGen g x).gens := by
  intro y hy
  have hy : y ∈ s.gens.setIfInBounds g x := hy
  obtain ⟨j, hj, e⟩ := Array.mem_iff_getElem.mp hy
  have hj' : j < s.gens.size := by simpa using hj
  rw [Array.getElem_setIfInBounds (by exact hj')] at e
  split at e
  · rw [← e]; exact hx
  · rw [← e]; exact h _ (Array.getElem_mem _)
section
variable {Y : Cx} {A : Around} {fp : List Addr} {tn : Nat → Heap → Prop} {pins : List (Addr × Obj)} {σw : St} {W : Nat → Nat → Hp → Prop} {stop : Bool} {QS QE : Hp → Prop} {a : Addr} {g n : Nat} {s : Shared}
/-- between two pulls -/
def GNext (Y : Cx) (A : Around) (fp : List Addr) (tn : Nat → Heap → Prop) (pins : List (Addr × Obj)) (σw : St) (W : Nat → Nat → Hp → Prop) (stop : Bool) (QS QE : Hp → Prop) (a : Addr) (g n : Nat) (s : Shared) : Prop :=
  (∃ i m, m < n ∧ GInv Y fp tn pins σw W i m s) ∧ s.heap.IsGen a g ∧ AllBare s.gens ∧ ∃ gs, s.gens[g]? = some gs ∧ gs.Goes (model Y.prog Y.w) A.in1 (fun n s₀ r s₁ => r = .ok .next ∧ GE Y pins σw QE n s₀ s₁) (GY Y fp tn pins σw W stop QS) n (.send .none) (s.setGen g .running)
theorem gen_pull {E : Value → Shared → Prop} {Q : Option Value → Shared → Prop} (hh : A.handled = none) (hroom : A.depth < recursionLimit) (hx : GNext Y A fp tn pins σw W stop QS QE a g n s) (hog : ∀ h : Heap, (∀ p ∈ pins, h.get? p.1 = some p.2) → h.IsGen a g)
    (h0 : ∀ s' H', Inv Y pins σw H' s' → QE H' → Q none s')
    (h1 : ∀ s' σ' H', Inv Y pins σ' H' s' → QS H' → Q (some (.bool stop)) s')
    (h2 : ∀ s' n', n' < n → GNext Y A fp tn pins σw W stop QS QE a g n' s' → Q (some (.bool (!stop))) s') : wpAny (model Y.prog Y.w) A (pyNext (.ref a)) Q E s := by
  obtain ⟨⟨i, m, hm, H5, I5, _, _, _⟩, hg, hb, gs, hgs, hgo⟩ := hx
  have hlt : g < s.gens.size := by
    rcases Nat.lt_or_ge g s.gens.size with h | h
    · exact h
    · rw [Array.getElem?_eq_none h] at hgs; cases hgs
  have hl : s.heap.NoLimit := I5.mod.nolimit.keeps fun b o e => I5.bk b o e
  refine wpAny_gens (n := g + 1) hlt ?_
  refine wpAny_pyNext_genexpQ (P := GE Y pins σw QE) hh hl hroom hg hgs hgo (fun v s₁ gs' hbare hv hsz => ?_) (fun s₁ hp h' hk _ => ?_)
  · obtain ⟨c, rfl, hb1, v1, v2⟩ := hv
    have hb2 : AllBare (s₁.setGen g gs').gens := mem_setGen hb1 hbare
    by_cases hc : c = stop
    · subst hc
      obtain ⟨σ', H', I', q⟩ := v1 rfl
      exact h1 _ σ' H' (I'.asHeap rfl rfl hb2) q
    · have e : c = !stop := by cases c <;> cases stop <;> simp_all
      obtain ⟨i', m', hm', G', kap⟩ := v2 hc
      have hsz' : (s₁.setGen g gs').gens.size = s₁.gens.size := by simp [Shared.setGen]
      have hlt1 : g < s₁.gens.size := by rw [hsz'] at hsz; exact hsz
      have hget : (s₁.setGen g gs').gens[g]? = some gs' := by simp [Shared.setGen, hlt1]
      cases n with
      | zero => exact absurd hm (Nat.not_lt_zero _)
      | succ n' =>
        have key := kap ((s₁.setGen g gs').setGen g .running) rfl rfl (mem_setGen hb2 rfl)
        obtain ⟨H6, I6, _⟩ := G'
        rw [e]
        refine h2 _ n' (Nat.lt_succ_self _) ⟨⟨i', m', hm', GInv.asHeap (s := s₁) ⟨H6, I6, ‹_›⟩ rfl rfl hb2⟩, ?_, hb2, gs', hget, key⟩
        exact hog _ fun p hp => (I6.pin p (List.mem_append_right _ hp)).1
  · obtain ⟨H', I', q⟩ := hp
    have hb2 : AllBare (s₁.setGen g .finished).gens := mem_setGen I'.bare rfl
    exact h0 _ H' (((I'.regen hb2).kept (t' := s₁.toks) (h' := h') fun b o e => hk b o e)) q
end
end L2
end
section
set_option Elab.async false
set_option linter.all false
set_option maxRecDepth 100000
namespace L2
open PySem PySem.Spec PyProof.Rows
theorem bt_all : bootBuiltins "all" = some (.builtin "all") := by decide +kernel
section
variable {Y : Cx} {A : Around} {fp : List Addr} {tn : Nat → Heap → Prop} {pins : List (Addr × Obj)} {σw : St} {W : Nat → Nat → Hp → Prop} {QS QE : Hp → Prop} {a : Addr} {g : Nat} {R : Result → Shared → Prop}
theorem all_loopG (hh : A.handled = none) (hroom : A.depth < recursionLimit) (hog : ∀ h : Heap, (∀ p ∈ pins, h.get? p.1 = some p.2) → h.IsGen a g)
    (k0 : ∀ s' H', Inv Y pins σw H' s' → QE H' → R (.ok (.ret (.bool true))) s') (k1 : ∀ s' σ' H', Inv Y pins σ' H' s' → QS H' → R (.ok (.ret (.bool false))) s') :
    ∀ (n : Nat) (s : Shared), GNext Y A.in1 fp tn pins σw W false QS QE a g n s → codeAny (model Y.prog Y.w) A (.builtin "all.loop" ⟨[.ref a], []⟩) R s := by
  intro n
  induction n using Nat.strongRecOn with
  | ind n ih =>
    intro s hx
    refine codeAny_builtin F.entry_all_loop ?_
    rw [Around.under_plainId F.plain_all_loop _]
    show wpAny _ A.in1 (pyNext (.ref a) >>= _) _ _ s
    refine wpAny_bind (gen_pull (A := A.in1) hh hroom hx hog (fun s' H' I' q => ?_) (fun s' σ' H' I' q => ?_) (fun s' n' hn' hx' => ?_))
    · exact wpAny_bind (wpAny_rule (wpAny_pure (k0 s' H' I' q)))
    · refine wpAny_bind (wpAny_holding (wpAny_truthy_bool ?_))
      refine wpAny_bind (wpAny_letGo ?_)
      simp only [Bool.false_eq_true, if_false]
      exact wpAny_bind (wpAny_rule (wpAny_pure (k1 s' σ' H' I' q)))
    · refine wpAny_bind (wpAny_holding (wpAny_truthy_bool ?_))
      refine wpAny_bind (wpAny_letGo ?_)
      simp only [Bool.not_false, if_true]
      exact wpAny_pure ⟨plainId_quiet F.plain_all_loop _, ih n' hn' s' hx'⟩
variable {E : Value → Shared → Prop} {Q : Value → Shared → Prop} {n : Nat} {s : Shared}
theorem call_allG (hh : A.handled = none) (hroom : A.depth < recursionLimit) (hog : ∀ h : Heap, (∀ p ∈ pins, h.get? p.1 = some p.2) → h.IsGen a g) (hx : GNext Y A.in1 fp tn pins σw W false QS QE a g n s)
    (k0 : ∀ s' H', Inv Y pins σw H' s' → QE H' → Q (.bool true) s') (k1 : ∀ s' σ' H', Inv Y pins σ' H' s' → QS H' → Q (.bool false) s') : wpAny (model Y.prog Y.w) A (call (.builtin "all") [.ref a]) Q E s := by
  refine call_function_tree F.kind_all F.plain_all F.entry_all (F.args_all1 _) ?_
  unfold Builtin.«all»
  refine wpAny_bind (m := oneArg "all" _) (wpAny_pure ?_)
  refine wpAny_bind (wpAny_pyIter_gen hx.2.1 ?_)
  exact wpAny_pure ⟨plainId_quiet F.plain_all_loop _, all_loopG hh hroom hog k0 k1 n s hx⟩
end

/-! ### all(.. for ..), any(.. for ..) -/
theorem Room.gen {k : Nat} {A : Around} {c : Code} (r : Room (k + 1) A) (hw : c.weight = 1) (hu : c.cUnits = 3) : Room k (A.in1.in1.over c []) :=
  ⟨r.hd, by
    have := r.dp
    show A.depth + 0 + c.weight + 3 * k + 5 < _
    omega, by
    have := r.un
    show A.units + 1 + 1 + 0 + c.cUnits + 16 * k + 200 < _
    omega⟩
def tGen (stop : Bool) (P : Addr) (wi : TI) (g : TG) (tt : TT) (te : TE) (vs : List Nat) (sel : VK → Bool → Hp → (Hp → Prop) → Prop) : TE := fun σ H Q => wi σ H fun J H1 => H1 P = some (.ext (Tbl P)) ∧ ∃ W : Nat → Nat → Hp → Prop, (∃ m, W 0 m H1) ∧ ∀ i m H, W i m H →
  (J.stop i H ∧ Q (.bl (!stop)) H) ∨ (J.go i H ∧ ∃ Nx : Hp → Prop, (∀ H', Nx H' → ∃ m', m' < m ∧ W (i + 1) m' H') ∧ ∀ x H', J.yld i H x H' → g x (wipe σ vs) H' fun σ2 H2 => wipe σ2 vs = wipe σ vs ∧ tt σ2 H2 fun b H3 =>
    if b = true then te σ2 H3 fun y H4 => ∃ c, y = .bl c ∧ sel Q c H4 Nx else Nx H3)
section
variable {X : Cx}
theorem gen_core {pins : List (Addr × Obj)} {s : Shared} {σ : St} {H : Hp} {Q : VK} {stop : Bool} {sel : VK → Bool → Hp → (Hp → Prop) → Prop} {elt tg iter : Expr} {ifs : List Expr} {scope : Scope} {own : List (Str × Nat)} {pos : Pos} {wi : TI} {g : TG} {tt : TT} {te : TE} {c P : Addr} {k : Nat} {Qv : Value → Shared → Prop}
    (hc : X.calm = true) (hN : X.N.Nodup) (I : Inv X pins σ H s) (hi : PI X tg iter wi) (ok : BlkOk X.N X.env.scope scope own) (hcell : ∀ y ∈ scope.names, y.2 ≠ .cell) (h0 : scope.names.lookup (".0" : Str) = some .local) (hco : scope.isCoroutine = false)
    (ck : CodeK X.K X.env.code c P) (hbm : ∃ bm ob, BMod X.base mainGlobals X.mg bm ob) (hr : Room (k + 1) X.A)
    (hg : ∀ (A' : Around) (s : Shared) (H : Hp) (C : Addr) (cl : List (Str × Addr)) (code : Value) (fp : List Addr), Room k A' → PG (X.gen A' s H (genEnv scope cl C code builtinsNs X.env) fp) tg g)
    (ht : ∀ (A' : Around) (s : Shared) (H : Hp) (C : Addr) (cl : List (Str × Addr)) (code : Value) (fp : List Addr), Room k A' → PTs (X.gen A' s H (genEnv scope cl C code builtinsNs X.env) fp) ifs tt)
    (he : ∀ (A' : Around) (s : Shared) (H : Hp) (C : Addr) (cl : List (Str × Addr)) (code : Value) (fp : List Addr), Room k A' → PE (X.gen A' s H (genEnv scope cl C code builtinsNs X.env) fp) elt te)
    (hs : ∀ x, genFold iter X.env x = pure x) (hsel : ∀ c H Nx, sel Q c H Nx → (c = stop → Q (.bl stop) H) ∧ (c ≠ stop → Nx H))
    (h : tGen stop P wi g tt te (own.map (·.2)) sel σ H Q)
    (fin : ∀ (Y : Cx) (fp : List Addr) (tn : Nat → Heap → Prop) (pn : List (Addr × Obj)) (W : Nat → Nat → Hp → Prop) (a : Addr) (gn n : Nat) (s' : Shared), Y.prog = X.prog → Y.w = X.w → (∀ h : Heap, (∀ p ∈ pn, h.get? p.1 = some p.2) → h.IsGen a gn) →
      GNext Y X.A.in1 fp tn pn (wipe σ (own.map (·.2))) W stop (fun H => Q (.bl stop) H) (fun H => Q (.bl (!stop)) H) a gn n s' → (∀ s'' σ'' H'', Inv Y pn σ'' H'' s'' → Inv X pins σ H'' s'') → Qv (.ref a) s') :
    wpAny (model X.prog X.w) X.A (eval (.GeneratorExp elt [⟨tg, iter, ifs, 0⟩] scope pos) X.env) Qv X.xe s := by
  have hfree : ∀ y ∈ scope.names, y.2 = .free → ∃ c, X.env.cells.lookup y.1 = some c := fun y hy e => by
    rcases ok.free y hy e with k | k
    · exact I.ok.has _ (.inl k)
    · exact I.ok.has _ (.inr k)
  refine wpAny_GeneratorExp_make hco (closure_ok hfree) hcell h0 ok.kind hr.depth (thn (hi pins s σ H _ I h) fun xv s1 hx => thn hx fun itv s2 h2 => ?_) hs
  obtain ⟨it, fp, tn, J, H2, e, I2, T, st2, f2, hP, W, ⟨m0, w0⟩, turn⟩ := h2
  subst e
  refine ⟨I2.mod.nolimit.keeps fun b o e => I2.bk b o e, gencode_ok I2 ck hP fun code h3 tk I3 k3 => ?_⟩
  obtain ⟨bm, ob, B⟩ := hbm
  have B3 := B.keeps fun b o e => I3.bk b o e
  refine wpAny_builtinsFor (by rw [I.ok.glob]; exact B3.ns) B3.name B3.ne B3.obj B3.cls B3.dict B3.data ?_
  intro h' hns hsm
  generalize hs3 : ({ s2 with heap := h3, toks := tk } : Shared) = s3 at I3 hns hsm ⊢
  have nP : ∀ b ∈ fp, b ≠ P := fun b hb z => by
    have := (f2 b hb).1
    rw [z, hP] at this
    cases this
  have st3 : tn 0 s3.heap := T.keep _ _ _ st2 fun b hb o e => by rw [← hs3]; exact k3 b o (nP b hb) e
  have f3 : ∀ b ∈ fp, FpOk X pins H2 b ∧ b < s3.heap.objs.size := fun b hb => by
    obtain ⟨o, e, _⟩ := T.obj _ _ st3 b hb
    exact ⟨f2 b hb, Heap.lt_size e⟩
  have hz : h'.objs.size = s3.heap.objs.size + 1 := by rw [hsm.1, Heap.size_push]
  have hk : ∀ b o, s3.heap.get? b = some o → h'.get? b = some o := fun b o e => hsm.extBut b o (Nat.ne_of_lt (Heap.lt_size e)) (Heap.get?_push_of_some _ e)
  generalize hce : genEnv scope (cloFrom X.env.cells scope.names []) s3.heap.objs.size code builtinsNs X.env = ce
  generalize hA : X.A.in1.in1.over (.compLoop (.GeneratorExp elt [⟨tg, iter, ifs, 0⟩] scope pos) 0 (.ref it) .none ce) [] = AL
  have hA1 : AL.frames = some (ce :: X.stack) := by
    rw [← hA]
    show pushEnvs [ce] X.A.frames = _
    rw [I.ok.frames]
    rfl
  have hA2 : AL.handled = none := by rw [← hA]; exact I.ok.hd hc
  have hRA : Room k AL := by rw [← hA]; exact hr.gen rfl rfl
  have I5 := gen_start (A' := AL) (gs := .fresh (.compStart (.GeneratorExp elt [⟨tg, iter, ifs, 0⟩] scope pos) 0 (.ref it) .none ce)) (tk := s3.toks + 1 + 1 + 1)
    (og := { cls := .type "generator", data := .fields #[.int s3.gens.size 0, .str "<genexpr>" (s3.toks + 1), .str (X.env.qual ++ "<genexpr>") (s3.toks + 1 + 1)] }) I3 ok hN hcell f3 (by rw [hce]; exact hA1) hA2 hns hk hz rfl (fun v z => by cases z) rfl
  have pg := hg AL s3 H2 s3.heap.objs.size (cloFrom X.env.cells scope.names []) code fp hRA
  have pt := ht AL s3 H2 s3.heap.objs.size (cloFrom X.env.cells scope.names []) code fp hRA
  have pe := he AL s3 H2 s3.heap.objs.size (cloFrom X.env.cells scope.names []) code fp hRA
  rw [hce] at I5 pg pt pe
  have hcs : ce.scope.isCoroutine = false := by rw [← hce]; exact hco
  have hog : ∀ h : Heap, (∀ p ∈ [(h'.objs.size, ({ cls := .type "generator", data := .fields #[.int s3.gens.size 0, .str "<genexpr>" (s3.toks + 1), .str (X.env.qual ++ "<genexpr>") (s3.toks + 1 + 1)] } : Obj))], h.get? p.1 = some p.2) → h.IsGen h'.objs.size s3.gens.size := fun h hp =>
    ⟨_, _, _, hp _ List.mem_cons_self, rfl, rfl, rfl⟩
  have hap : ∀ p ∈ [(h'.objs.size, ({ cls := .type "generator", data := .fields #[.int s3.gens.size 0, .str "<genexpr>" (s3.toks + 1), .str (X.env.qual ++ "<genexpr>") (s3.toks + 1 + 1)] } : Obj))], ∀ b ∈ fp, p.1 ≠ b := fun p hp b hb z => by
    have e := List.mem_singleton.mp hp
    subst e
    have h1 := (f3 b hb).2
    have h2 : h'.objs.size = b := z
    rw [← h2, hz] at h1
    exact absurd h1 (Nat.not_lt.mpr (Nat.le_succ _))
  have st5 : tn 0 (h'.push { cls := .type "generator", data := .fields #[.int s3.gens.size 0, .str "<genexpr>" (s3.toks + 1), .str (X.env.qual ++ "<genexpr>") (s3.toks + 1 + 1)] }) := T.keep _ _ _ st3 fun b _ o e => Heap.get?_push_of_some _ (hk b o e)
  have G5 : GInv (X.gen AL s3 H2 ce fp) fp tn [(h'.objs.size, ({ cls := .type "generator", data := .fields #[.int s3.gens.size 0, .str "<genexpr>" (s3.toks + 1), .str (X.env.qual ++ "<genexpr>") (s3.toks + 1 + 1)] } : Obj))] (wipe σ (own.map (·.2))) W 0 m0
      { s3 with gens := s3.gens.push (.fresh (.compStart (.GeneratorExp elt [⟨tg, iter, ifs, 0⟩] scope pos) 0 (.ref it) .none ce)), toks := s3.toks + 1 + 1 + 1, heap := h'.push { cls := .type "generator", data := .fields #[.int s3.gens.size 0, .str "<genexpr>" (s3.toks + 1), .str (X.env.qual ++ "<genexpr>") (s3.toks + 1 + 1)] } } :=
    ⟨H2, I5, st5, fun b hb => (f3 b hb).1.1, w0⟩
  have T' : Turn (X.gen AL s3 H2 ce fp).prog (X.gen AL s3 H2 ce fp).w (X.gen AL s3 H2 ce fp).K tg J fp it tn := T
  have hYA : (X.gen AL s3 H2 ce fp).A = X.A.in1.in1.over (.compLoop (.GeneratorExp elt [⟨tg, iter, ifs, 0⟩] scope pos) 0 (.ref it) .none (X.gen AL s3 H2 ce fp).env) [] := hA.symm
  refine fin (X.gen AL s3 H2 ce fp) fp tn _ W _ s3.gens.size (m0 + 1) _ rfl rfl hog ⟨⟨0, m0, Nat.lt_succ_self _, G5⟩, hog _ fun p hp => ?_, I5.bare, _, Array.getElem?_push_size .., rfl, ?_⟩ fun s'' σ'' H'' I'' => ?_
  · have e := List.mem_singleton.mp hp
    subst e
    exact Heap.get?_push_size _ rfl
  · refine gen_begin (Y := X.gen AL s3 H2 ce fp) (A := X.A.in1.in1) (m := m0) hYA T' st5 ?_
    refine gen_loop (Y := X.gen AL s3 H2 ce fp) (A := X.A.in1.in1) (σ := σ) (sel := sel Q) hYA rfl hcs rfl rfl rfl T' pg pt pe hap hsel (fun i m H' w => ?_) m0 (m0 + 1) 0 _ _ (Nat.lt_succ_self _) (G5.asHeap rfl rfl (mem_setGen I5.bare rfl))
    exact turn i m H' w
  · exact I3.call' (ch := fp) I''.os I''.base I''.hok I''.bare fun b hb => ⟨(f3 b hb).1.2.2.2.1, (f3 b hb).1.2.1, (f3 b hb).1.2.2.2.2.1, (f3 b hb).1.2.2.2.2.2⟩
def selAll : VK → Bool → Hp → (Hp → Prop) → Prop := fun Q c H Nx => if c = true then Nx H else Q (.bl false) H
theorem pe_allG {elt tg iter : Expr} {ifs : List Expr} {scope : Scope} {own : List (Str × Nat)} {gpos p pos : Pos} {wi : TI} {g : TG} {tt : TT} {te : TE} {c P : Addr} {k : Nat}
    (hc : X.calm = true) (hN : X.N.Nodup) (ck : CodeK X.K X.env.code c P) (hbm : ∃ bm ob, BMod X.base mainGlobals X.mg bm ob) (hr : Room (k + 1) X.A) (hgl : Gl X "all") (hm : X.mg "all" = none) (hi : PI X tg iter wi) (ok : BlkOk X.N X.env.scope scope own)
    (hcell : scope.names.all (fun y => y.2 != .cell) = true) (h0 : scope.names.lookup (".0" : Str) = some .local) (hco : scope.isCoroutine = false)
    (hg : ∀ (A' : Around) (s : Shared) (H : Hp) (C : Addr) (cl : List (Str × Addr)) (code : Value) (fp : List Addr), Room k A' → PG (X.gen A' s H (genEnv scope cl C code builtinsNs X.env) fp) tg g)
    (ht : ∀ (A' : Around) (s : Shared) (H : Hp) (C : Addr) (cl : List (Str × Addr)) (code : Value) (fp : List Addr), Room k A' → PTs (X.gen A' s H (genEnv scope cl C code builtinsNs X.env) fp) ifs tt)
    (he : ∀ (A' : Around) (s : Shared) (H : Hp) (C : Addr) (cl : List (Str × Addr)) (code : Value) (fp : List Addr), Room k A' → PE (X.gen A' s H (genEnv scope cl C code builtinsNs X.env) fp) elt te)
    (hs : ∀ x, genFold iter X.env x = pure x := by intro _; rfl) :
    PE X (.Call (.Name "all" p) [.GeneratorExp elt [⟨tg, iter, ifs, 0⟩] scope gpos] [] pos) (tGen false P wi g tt te (own.map (·.2)) selAll) := by
  intro pins s σ H Q I h
  have hcell' : ∀ y ∈ scope.names, y.2 ≠ .cell := fun y hy z => by
    have := List.all_eq_true.mp hcell y hy
    rw [z] at this
    exact absurd this (by decide)
  refine wpAny_Call_Name_kw (ld_blt I hgl hm bt_all ?_)
  refine PyProof.Rows.callWith_builtin1 ?_ rfl rfl
  show wpAny _ _ (spliced ((false, eval (.GeneratorExp elt [⟨tg, iter, ifs, 0⟩] scope gpos) X.env) :: backTo pos (starEach [] X.env))) _ _ s
  refine Calls.spliced_cons ?_
  refine gen_core (Q := Q) (stop := false) (sel := selAll) hc hN I hi ok hcell' h0 hco ck hbm hr hg ht he hs (fun c H Nx z => ?_) h fun Y fp tn pn W a gn n s' e1 e2 hog G back => ?_
  · unfold selAll at z
    cases c with
    | true => exact ⟨fun e => (by cases e), fun _ => (by simpa using z)⟩
    | false => exact ⟨fun _ => (by simpa using z), fun e => absurd rfl e⟩
  · refine Calls.spliced_nil ?_
    rw [← e1, ← e2]
    exact call_allG (I.ok.hd hc) hr.depth hog G (fun s'' H'' I'' q => ⟨.bl true, H'', back _ _ _ I'', rfl, q⟩) (fun s'' σ'' H'' I'' q => ⟨.bl false, H'', back _ _ _ I'', rfl, q⟩)
end
end L2
end
section
set_option Elab.async false
set_option linter.all false
set_option maxRecDepth 100000
namespace L2
open PySem PySem.Spec PyProof.Rows
/-! ### the head, where tables are tracked -/
def Tbs (T : List Addr) (H : Hp) : Prop := ∀ P ∈ T, H P = some (.ext (Tbl P))
theorem Tbs.mono {T : List Addr} {H H' : Hp} (s : Same H H') (h : Tbs T H) : Tbs T H' := fun P hP => s _ _ (h P hP)
theorem Tbs.kp {T : List Addr} {r : Addr} {xs : List V} {H H' : Hp} (hr : H r = some (.lst xs)) (k : Kp r H H') (h : Tbs T H) : Tbs T H' := fun P hP => k _ _ (h P hP) (ne_of (h P hP) hr (by intro z; cases z))
theorem Tbs.upd {T : List Addr} {r : Addr} {xs : List V} {o : HO} {H : Hp} (hr : H r = some (.lst xs)) (h : Tbs T H) : Tbs T (upd H r o) := h.kp hr kp_upd
/-- what is true of the tables behind the top -/
structure TabsAt (K : PySem.W.Frag) (T : List Addr) (h : Heap) : Prop where
  get : ∀ P ∈ T, h.get? P = some { cls := .none, data := .fields #[] } ∧ isCodeTable h P
  out : ∀ P ∈ T, K.lookup P = none
theorem law_callT {P : Program} {w : World} {K : PySem.W.Frag} {mg mb : Str → Option Value} {CX : CXT} {k : Nat} {fa a : Addr} {fd : FuncData} {x : Str} {sp : Sp} {s₁ : Shared} {vs : List Value} {ns : List Int} {T : List Addr}
    (KX : K.In s₁.heap) (hns : s₁.heap.Ns mainGlobals mg) (hb : s₁.heap.Ns builtinsNs mb) (hbb : ∀ x : Str, x ≠ "__name__" → mb x = bootBuiltins x) (hlim : s₁.heap.NoLimit) (hg : s₁.gens = #[])
    (ha : s₁.heap.get? a = some { cls := .type "list", data := .seq vs.toArray }) (hi : IntsAre vs ns) (hl : ns.length ≤ sizeLine) (hr : Room k callerA) (tb : TabsAt K T s₁.heap) (hbm : ∃ bm ob, BMod s₁.heap mainGlobals mg bm ob)
    (F : ∀ base : Heap, K.In base → base.Ns mainGlobals mg → (∃ bm ob, BMod base mainGlobals mg bm ob) → FnOk P w K mg base CX k fa fd [x] sp) (hbind : ∀ (s : Shared) (u : Value), BindsTo s fd ⟨[u], []⟩ [(x, u)])
    (hsp : ∀ H : Hp, Tbs T H → SqL K H a (ns.map V.int) → sp [.ref a] H (fun v H' => v = .bl true ∧ Tbs T H') fun _ _ _ => False)
    (hCX : ∀ H e s', CX [] H s₁ (fun _ _ _ => False) e s' → False) :
    codeAny (model P w) callerA (.call (.ref fa) ⟨[.ref a], []⟩) (fun r s' => r = .ok (.ret (.bool true)) ∧ OldK s₁.heap s'.heap ∧ s'.os = s₁.os ∧ AllBare s'.gens) s₁ := by
  have rv := vals_ints hi
  have lenV := hi.length
  have naT : a ∉ T := fun z => by
    have h1 := (tb.get a z).1
    rw [ha] at h1
    cases h1
  -- from an abstract heap in which the script and the tables are tracked
  have core : ∀ H : Hp, (∀ b, b ∈ T → H b = some (.ext (Tbl b))) → (∀ b, b ∉ T → H b = none ∨ (b = a ∧ ∃ o xs, H b = some (.frz o (.lst xs)))) → SqL K H a (ns.map V.int) → HOk P w H s₁.heap → (H a ≠ none → K.lookup a = none) →
      codeAny (model P w) callerA (.call (.ref fa) ⟨[.ref a], []⟩) (fun r s' => r = .ok (.ret (.bool true)) ∧ OldK s₁.heap s'.heap ∧ s'.os = s₁.os ∧ AllBare s'.gens) s₁ := by
    intro H hT hO hS hok hK
    have base_of : ∀ {b : Addr} {o : Obj}, s₁.heap.get? b = some o → H b = none → (hidT s₁.heap H).get? b = some o := fun e n => hidT_get e n
    have free_of : ∀ {b : Addr} {o : Obj}, s₁.heap.get? b = some o → o ≠ { cls := .none, data := .fields #[] } → o ≠ { cls := .type "list", data := .seq vs.toArray } → H b = none := fun {b o} e n1 n2 => by
      by_cases hbT : b ∈ T
      · have := (tb.get b hbT).1
        rw [e] at this
        exact absurd (Option.some.inj this) n1
      · rcases hO b hbT with z | ⟨rfl, _⟩
        · exact z
        · rw [ha] at e
          exact absurd (Option.some.inj e).symm n2
    have noA : ∀ {b : Addr} {o : Obj} {es : Array DictEntry} {ep : Nat}, s₁.heap.get? b = some o → o.data = .dict es ep → H b = none := fun {b o es ep} e d =>
      free_of e (fun z => by rw [z] at d; cases d) (fun z => by rw [z] at d; cases d)
    have nsK : ∀ {b : Addr} {m : Str → Option Value}, s₁.heap.Ns b m → (hidT s₁.heap H).Ns b m := fun {b m} ⟨o, es, ep, e, d, r⟩ => ⟨o, es, ep, base_of e (noA e d), d, r⟩
    have hKb : K.In (hidT s₁.heap H) := fun b o e => base_of (KX b o e) (by
      by_cases hbT : b ∈ T
      · rw [tb.out b hbT] at e; cases e
      · rcases hO b hbT with z | ⟨rfl, o', xs, z⟩
        · exact z
        · rw [hK (by rw [z]; simp)] at e; cases e)
    have hbm' : ∃ bm ob, BMod (hidT s₁.heap H) mainGlobals mg bm ob := by
      obtain ⟨bm, ob, B⟩ := hbm
      refine ⟨bm, ob, nsK B.ns, B.name, B.ne, base_of B.obj (free_of B.obj (fun z => ?_) (fun z => ?_)), B.cls, B.dict, B.data⟩
      · have := B.cls; rw [z] at this; cases this
      · have := B.cls
        rw [z] at this
        injection this with this
        exact absurd this (by decide)
    have hM : Mod K mg (hidT s₁.heap H) := ⟨hKb, nsK hns, ⟨mb, nsK hb, hbb⟩, let ⟨mc, h1, h2⟩ := hlim; ⟨mc, nsK h1, h2⟩⟩
    have e0 : Env0 P w K mg (hidT s₁.heap H) callerA [] s₁ H := ⟨rfl, hM, fun b o e => of_hidT e, Nat.le_of_eq (hidT_size _ _), trivial, fun b hb => absurd (show b ∈ ([] : List Addr) from hb) (by simp), hok, .of_eq hg⟩
    refine codeAny_mono ((F _ hKb (nsK hns) hbm').run callerA [] s₁ H ⟨[.ref a], []⟩ [.ref a] [.ref a] _ _ hr e0 (hbind s₁ (.ref a)) (.cons rfl .nil) (hsp H hT hS)) fun r s' h => ?_
    cases r with
    | error e => exact (hCX H e s' h).elim
    | ok fl =>
      cases fl with
      | next => exact False.elim h
      | brk => exact False.elim h
      | cont => exact False.elim h
      | ret u =>
        obtain ⟨v, H', os, bare, un, hok', r', q, hT'⟩ := h
        have q' : v = .bl true := q
        subst q'
        obtain rfl : u = Value.bool true := r'
        have tabs : ∀ b ∈ T, ∃ ps : Array Value, s'.heap.get? b = some { cls := .none, data := .fields ps } := fun b hbT => by
          obtain ⟨⟨ps, e, _⟩, _, _⟩ := (show ObjOk P w H' s'.heap b (.ext (Tbl b)) from hok' b _ (hT' b hbT))
          exact ⟨ps, e⟩
        have keep : ∀ b o, s₁.heap.get? b = some o → b ∉ T → s'.heap.get? b = some o := fun b o e hbT => by
          rcases hO b hbT with z | ⟨rfl, ob, xs, z⟩
          · exact un.keep b o e z (by intro z; exact absurd (show b ∈ ([] : List Addr) from z) (by simp)) (by simp)
          · have z2 := un.frzs b ob _ z
            obtain ⟨e1, _⟩ := hok b _ z
            obtain ⟨e2, _⟩ := hok' b _ z2
            rw [e] at e1; cases e1
            exact e2
        refine ⟨rfl, ⟨fun b o e => ?_, fun b o e => ?_⟩, os, bare⟩
        · by_cases hbT : b ∈ T
          · obtain ⟨ps, e2⟩ := tabs b hbT
            have e1 := (tb.get b hbT).1
            rw [e] at e1
            cases e1
            exact .inr (.inl ⟨(tb.get b hbT).2, rfl, #[], ps, rfl, by simpa using e2⟩)
          · exact .inl (keep b o e hbT)
        · by_cases hbT : b ∈ T
          · obtain ⟨ps, e2⟩ := tabs b hbT
            exact ⟨_, e2⟩
          · exact ⟨o, keep b o e hbT⟩
  have tOk : ∀ (H : Hp) (b : Addr), b ∈ T → ObjOk P w H s₁.heap b (.ext (Tbl b)) := fun H b hbT => tbl_ok ⟨#[], (tb.get b hbT).1, trivial⟩
  cases hk : K.lookup a with
  | some o =>
    have e := KX a o hk
    rw [ha] at e
    cases e
    refine core (fun b => if b ∈ T then some (.ext (Tbl b)) else none) (fun b hbT => if_pos hbT) (fun b hbT => .inl (if_neg hbT)) (.inr ⟨_, vs.toArray, _, hk, rfl, rfl, rfl, by rw [List.size_toArray, lenV]; exact hl, by simpa using rv⟩) (fun b u z => ?_) fun z => absurd (if_neg naT) z
    by_cases hbT : b ∈ T
    · have z' := (if_pos hbT).symm.trans z
      cases z'
      exact tOk _ b hbT
    · have z' := (if_neg hbT).symm.trans z
      cases z'
  | none =>
    refine core (fun b => if b ∈ T then some (.ext (Tbl b)) else if b = a then some (.frz { cls := .type "list", data := .seq vs.toArray } (.lst (ns.map V.int))) else none) (fun b hbT => if_pos hbT) (fun b hbT => ?_) (.inl (.inr ⟨{ cls := .type "list", data := .seq vs.toArray }, (if_neg naT).trans (if_pos rfl)⟩)) (fun b u z => ?_) fun _ => hk
    · by_cases hb' : b = a
      · exact .inr ⟨hb', _, _, (if_neg hbT).trans (if_pos hb')⟩
      · exact .inl ((if_neg hbT).trans (if_neg hb'))
    · by_cases hbT : b ∈ T
      · have z' := (if_pos hbT).symm.trans z
        cases z'
        exact tOk _ b hbT
      · have z := (if_neg hbT).symm.trans z
        by_cases hb' : b = a
        · have z' := (if_pos hb').symm.trans z
          cases z'
          subst hb'
          exact ⟨ha, by rw [List.length_map]; exact hl, vs, _, rv, ha⟩
        · have z' := (if_neg hb').symm.trans z
          cases z'
theorem tab_of {q : Program} {loose : List Str} {mean : ExcName → Option Value} {mg mb : Str → Option Value} {h : Heap} {K : PySem.W.Frag} {name : Str} {d : DefRec} {f c P : Addr} {oc : Value} {od odc : Option Addr} {fd : FuncData} {sl slc : Array (Option Value)} {vs : Array Value}
    (T : Top q loose mean mg mb h) (X : K.In h) (hf : (recsOf q).find? (fun e => e.name == name) = some d) (hm : PySem.W.nsIn K mainGlobals name = some (some (.ref f))) (lf : K.lookup f = some ⟨oc, od, .func fd, sl⟩) (hc : fd.code = .ref c) (lc : K.lookup c = some ⟨.type "code", odc, .fields vs, slc⟩) (hv : vs[11]? = some (.ref P)) :
    h.get? P = some { cls := .none, data := .fields #[] } ∧ isCodeTable h P := by
  obtain ⟨c', P', e1, B⟩ := PySem.W.based_of_top T hf (PySem.W.mg_of X T.g hm) (X _ _ lf) rfl
  rw [hc] at e1
  cases e1
  obtain ⟨⟨o, vs', h1, h2, h3, h4⟩, h5⟩ := B.tab
  rw [X _ _ lc] at h1
  cases h1
  cases h3
  rw [hv] at h4
  cases h4
  exact ⟨h5, B.tab.isCodeTable⟩
theorem walk_ofT {l : PySem.W.OpenLaw} {n k : Nat} {q : Program} {loose : List Str} {XP : (Str → Option Value) → Heap → Prop} {YP : World → Heap → Prop} {d : DefRec} {K : Params → PySem.W.Frag} {CX : World → CXT} {sp : World → Sp} {x : Str} {T : List Addr}
    (hn : l.most = some n) (hn2 : n ≤ sizeLine) (hdf : d.params.defaults = []) (hr : Room k callerA)
    (hY : ∀ (w : World) (h : Heap), YP w h → (K w.params).In h)
    (hTab : ∀ (w : World) (mg mb : Str → Option Value) (h : Heap) (mean : ExcName → Option Value), Top q (PySem.W.looseW q loose) mean mg mb h → (K w.params).In h → TabsAt (K w.params) T h)
    (F : ∀ (w : World) (mg : Str → Option Value) (fa : Addr) (h : Heap), (K w.params).In h → h.Ns mainGlobals mg → mg d.name = some (.ref fa) →
      ∃ fd : FuncData, (∀ (s : Shared) (u : Value), BindsTo s fd ⟨[u], []⟩ [(x, u)]) ∧
        ∀ base : Heap, (K w.params).In base → base.Ns mainGlobals mg → (∃ bm ob, BMod base mainGlobals mg bm ob) → FnOk l.prog w (K w.params) mg base (CX w) k fa fd [x] (sp w))
    (hsp : ∀ (w : World) (H : Hp) (a : Addr) (ns : List Int), ns.length ≤ n → Tbs T H → SqL (K w.params) H a (ns.map V.int) → sp w [.ref a] H (fun v H' => v = .bl true ∧ Tbs T H') fun _ _ _ => False)
    (hCX : ∀ (w : World) (H : Hp) (s : Shared) (e : Value) (s' : Shared), CX w [] H s (fun _ _ _ => False) e s' → False) :
    PySem.W.WalkO q loose XP YP l.row.toRowW d [] (fun f vs => PySem.call f vs) := by
  refine Att.attach_call hn hdf fun w s₀ s₁ mg mb fa o pm cd doc a vs ns G Y ho hd hcd hmg hobj hints hlen hg => ?_
  have KX := hY w _ Y
  obtain ⟨fd, hb, hF⟩ := F w mg fa _ KX G.T.g hmg
  exact law_callT KX G.T.g G.T.b G.T.builtins G.T.nolimit hg hobj hints (Nat.le_trans hlen hn2) hr (hTab w mg mb _ _ G.T KX) (PySem.W.bmod_of_top G.T) hF hb (fun H hT hS => hsp w H a ns hlen hT hS) fun H e s' => hCX w H s₁ e s'
end L2
end
section
set_option Elab.async false
set_option linter.all false
set_option maxRecDepth 100000
namespace L2
open PySem PySem.Spec PyProof.Rows
/-! ### generators, folded -/
def GnJ (stop : Bool) (J : It) (g : TG) (tt : TT) (te : TE) (vs : List Nat) (sel : VK → Bool → Hp → (Hp → Prop) → Prop) (σ : St) (H1 : Hp) (Q : VK) : Prop := ∃ W : Nat → Nat → Hp → Prop, (∃ m, W 0 m H1) ∧ ∀ i m H, W i m H →
  (J.stop i H ∧ Q (.bl (!stop)) H) ∨ (J.go i H ∧ ∃ Nx : Hp → Prop, (∀ H', Nx H' → ∃ m', m' < m ∧ W (i + 1) m' H') ∧ ∀ x H', J.yld i H x H' → g x (wipe σ vs) H' fun σ2 H2 => wipe σ2 vs = wipe σ vs ∧ tt σ2 H2 fun b H3 =>
    if b = true then te σ2 H3 fun y H4 => ∃ c, y = .bl c ∧ sel Q c H4 Nx else Nx H3)
section
variable {K : PySem.W.Frag} {stop : Bool} {P : Addr} {g : TG} {tt : TT} {te : TE} {vs : List Nat} {sel : VK → Bool → Hp → (Hp → Prop) → Prop} {σ : St} {H : Hp} {Q : VK}
theorem tGen_rng1 {ta : TA} : tGen stop P (iRng1 ta) g tt te vs sel σ H Q = ta σ H fun us H1 => ∃ j : Int, us = [.int j] ∧ -(2 ^ 62) ≤ j ∧ j < 2 ^ 62 ∧ H1 P = some (.ext (Tbl P)) ∧ GnJ stop (Itr 0 j.toNat) g tt te vs sel σ H1 Q := rfl
theorem tGen_rng2 {ta : TA} : tGen stop P (iRng2 ta) g tt te vs sel σ H Q = ta σ H fun us H1 => ∃ i j : Int, us = [.int i, .int j] ∧ (-(2 ^ 62) ≤ i ∧ i < 2 ^ 62 ∧ -(2 ^ 62) ≤ j ∧ j < 2 ^ 62) ∧ H1 P = some (.ext (Tbl P)) ∧ GnJ stop (Itr i (j - i).toNat) g tt te vs sel σ H1 Q := rfl
theorem tGen_list {tl : TE} : tGen stop P (iList K tl) g tt te vs sel σ H Q = tl σ H fun x H1 => ∃ a, x = .ref a ∧ (∃ xs, SqL K H1 a xs) ∧ H1 P = some (.ext (Tbl P)) ∧ GnJ stop (Itl K a) g tt te vs sel σ H1 Q := rfl
theorem tGen_tup {tl : TE} : tGen stop P (iTup K tl) g tt te vs sel σ H Q = tl σ H fun x H1 => ∃ a, x = .ref a ∧ (∃ xs, SqT K H1 a xs) ∧ H1 P = some (.ext (Tbl P)) ∧ GnJ stop (Itt K a) g tt te vs sel σ H1 Q := rfl
theorem gnR {lo : Int} {n : Nat} (Pv : Nat → Hp → Prop) (h0 : Pv 0 H)
    (hs : ∀ i H, i < n → Pv i H → g (.int (lo + i)) (wipe σ vs) H fun σ2 H2 => wipe σ2 vs = wipe σ vs ∧ tt σ2 H2 fun b H3 => if b = true then te σ2 H3 fun y H4 => ∃ c, y = .bl c ∧ sel Q c H4 (Pv (i + 1)) else Pv (i + 1) H3)
    (hd : ∀ H, Pv n H → Q (.bl (!stop)) H) : GnJ stop (Itr lo n) g tt te vs sel σ H Q := by
  refine ⟨fun i m H => m = n - i ∧ i ≤ n ∧ Pv i H, ⟨n, by simp, Nat.zero_le _, h0⟩, ?_⟩
  rintro i m H ⟨rfl, hi, p⟩
  by_cases hlt : i < n
  · refine .inr ⟨hlt, Pv (i + 1), fun H' p' => ⟨n - (i + 1), by omega, rfl, hlt, p'⟩, fun x H' y => ?_⟩
    obtain ⟨e, y⟩ := y
    subst e
    subst y
    exact hs i _ hlt p
  · have e : i = n := by omega
    subst e
    exact .inl ⟨Nat.le_refl _, hd H p⟩
theorem gnT {a : Addr} {xs : List V} (Pv : Nat → Hp → Prop) (h0 : Pv 0 H) (hl : ∀ i H, i ≤ xs.length → Pv i H → SqT K H a xs)
    (hs : ∀ i x H, xs[i]? = some x → Pv i H → g x (wipe σ vs) H fun σ2 H2 => wipe σ2 vs = wipe σ vs ∧ tt σ2 H2 fun b H3 => if b = true then te σ2 H3 fun y H4 => ∃ c, y = .bl c ∧ sel Q c H4 (Pv (i + 1)) else Pv (i + 1) H3)
    (hd : ∀ H, Pv xs.length H → Q (.bl (!stop)) H) : GnJ stop (Itt K a) g tt te vs sel σ H Q := by
  refine ⟨fun i m H => m = xs.length - i ∧ i ≤ xs.length ∧ Pv i H, ⟨xs.length, by simp, Nat.zero_le _, h0⟩, ?_⟩
  rintro i m H ⟨rfl, hi, p⟩
  have q := hl i H hi p
  by_cases hlt : i < xs.length
  · refine .inr ⟨⟨xs, xs[i], q, by simp [hlt]⟩, Pv (i + 1), fun H' p' => ⟨xs.length - (i + 1), by omega, rfl, hlt, p'⟩, fun x H' y => ?_⟩
    obtain ⟨e, y⟩ := y
    subst e
    exact hs i x _ (y xs q) p
  · have e : i = xs.length := by omega
    subst e
    exact .inl ⟨⟨xs, q, Nat.le_refl _⟩, hd H p⟩
end
/-! all, any of what leaves the heap as it is: f tells each item's truth -/
section
variable {K : PySem.W.Frag} {g : TG} {tt : TT} {te : TE} {vs : List Nat} {σ : St} {H : Hp} {Q : VK}
theorem all_take {f : Nat → Bool} {i n : Nat} (hi : i < n) (h : f i = false) : (List.range n).all f = false := by
  rw [List.all_eq_false]
  exact ⟨i, List.mem_range.mpr hi, by rw [h]; decide⟩
theorem allR {lo : Int} {n : Nat} (f : Nat → Bool) (hs : ∀ i H2 Nx, i < n → Same H H2 → (f i = true → ∀ H', Same H H' → Nx H') → (f i = false → ∀ H', Same H H' → Q (.bl false) H') →
      g (.int (lo + i)) (wipe σ vs) H2 fun σ2 H2 => wipe σ2 vs = wipe σ vs ∧ tt σ2 H2 fun b H3 => if b = true then te σ2 H3 fun y H4 => ∃ c, y = .bl c ∧ selAll Q c H4 Nx else Nx H3)
    (hd : ∀ H', Same H H' → Q (.bl ((List.range n).all f)) H') : GnJ false (Itr lo n) g tt te vs selAll σ H Q := by
  refine gnR (fun i H' => Same H H' ∧ ∀ j < i, f j = true) ⟨Same.refl _, fun j h => absurd h (Nat.not_lt_zero _)⟩ (fun i H' hi ⟨s, p⟩ => ?_) (fun H' ⟨s, p⟩ => ?_)
  · refine hs i H' _ hi s (fun e H2 s2 => ⟨s2, fun j hj => ?_⟩) (fun e H2 s2 => ?_)
    · rcases Nat.lt_succ_iff_lt_or_eq.mp hj with h | h
      · exact p j h
      · rw [h]; exact e
    · have := hd H2 s2
      rw [all_take hi e] at this
      exact this
  · have := hd H' s
    rw [List.all_eq_true.mpr fun j hj => p j (List.mem_range.mp hj)] at this
    exact this
theorem allT {a : Addr} {xs : List V} (f : Nat → Bool) (ha : SqT K H a xs) (hk : ∀ H', Same H H' → SqT K H' a xs) (hs : ∀ i x H2 Nx, xs[i]? = some x → Same H H2 → (f i = true → ∀ H', Same H H' → Nx H') → (f i = false → ∀ H', Same H H' → Q (.bl false) H') →
      g x (wipe σ vs) H2 fun σ2 H2 => wipe σ2 vs = wipe σ vs ∧ tt σ2 H2 fun b H3 => if b = true then te σ2 H3 fun y H4 => ∃ c, y = .bl c ∧ selAll Q c H4 Nx else Nx H3)
    (hd : ∀ H', Same H H' → Q (.bl ((List.range xs.length).all f)) H') : GnJ false (Itt K a) g tt te vs selAll σ H Q := by
  refine gnT (K := K) (xs := xs) (fun i H' => Same H H' ∧ ∀ j < i, f j = true) ⟨Same.refl _, fun j h => absurd h (Nat.not_lt_zero _)⟩ (fun i H' _ ⟨s, _⟩ => hk H' s) (fun i x H' hi ⟨s, p⟩ => ?_) (fun H' ⟨s, p⟩ => ?_)
  · have hlt : i < xs.length := (List.getElem?_eq_some_iff.mp hi).1
    refine hs i x H' _ hi s (fun e H2 s2 => ⟨s2, fun j hj => ?_⟩) (fun e H2 s2 => ?_)
    · rcases Nat.lt_succ_iff_lt_or_eq.mp hj with h | h
      · exact p j h
      · rw [h]; exact e
    · have := hd H2 s2
      rw [all_take hlt e] at this
      exact this
  · have := hd H' s
    rw [List.all_eq_true.mpr fun j hj => p j (List.mem_range.mp hj)] at this
    exact this
theorem sel_all {c f : Bool} {Nx : Hp → Prop} (e : c = f) (h1 : f = true → ∀ H', Same H H' → Nx H') (h0 : f = false → ∀ H', Same H H' → Q (.bl false) H') {H4 : Hp} (s : Same H H4) : selAll Q c H4 Nx := by
  unfold selAll
  subst e
  cases c with
  | true => rw [if_pos rfl]; exact h1 rfl _ s
  | false => rw [if_neg Bool.false_ne_true]; exact h0 rfl _ s
end
/-! ### for and comprehensions over a tuple -/
def ForT (K : PySem.W.Frag) (a : Addr) (g : TG) (tb : TS) (D : Ends) (σ : St) (H : Hp) : Prop := (∃ xs, SqT K H a xs) ∧ ForJ (Itt K a) g tb D σ H
section
variable {K : PySem.W.Frag} {a : Addr} {g : TG} {tb : TS} {D : Ends} {σ : St} {H : Hp}
theorem tFor_tup {tl : TE} : tFor (iTup K tl) g tb D σ H = tl σ H fun x H1 => ∃ a, x = .ref a ∧ ForT K a g tb D σ H1 := rfl
end
section
variable {K : PySem.W.Frag} {g : TG} {tt : TT} {te : TE} {vs : List Nat} {σ : St} {H : Hp} {Q : VK}
theorem tLc_tup {tl : TE} : tLc (iTup K tl) g tt te vs σ H Q = tl σ H fun x H1 => ∃ a, x = .ref a ∧ (∃ xs, SqT K H1 a xs) ∧ ∀ D, H1 D = none → LcJ (Itt K a) g tt te vs D σ H1 (fun H' => Q (.ref D) H') := rfl
end
section
variable {X : Cx} {K : PySem.W.Frag}
theorem pg_seqK {pos : Pos} {es : List Expr} {k : Nat} {t : TGs} {n : Nat} (e : X.K = K) (hc : X.calm = true) (h : PGs X es t)
    (hn : (assignEach es X.env).length = n := by rfl) (hst : (assignEach es X.env).findIdx? (·.1) = none := by rfl) : PG X (.Tuple es k pos) (gSeq K n t) := e ▸ pg_seq hc h hn hst
end
/-! ### defs that have generator expressions: the code object is known -/
section
variable {P : Program} {w : World} {K : PySem.W.Frag} {mg : Str → Option Value} {base : Heap} {x qual : Str} {st : Stmt} {f : Addr} {fd : FuncData} {N ps : List Str} {k : Nat} {sp : Sp}
theorem cal_ofG (F : Fun K x qual st f fd) (S : FnScope N ps (defScope st)) (m : mg x = some (.ref f)) (b : Binds K fd ps [])
    (len : ∀ vs H Q E, sp vs H Q E → vs.length = ps.length)
    (hbody : ∀ (A : Around) (outer : List Env) (s : Shared) (H : Hp) (vs : List V) (Q : VK) (E : XK), Room k (A.deeper (envOfC qual (defScope st) s.heap.objs.size f fd.code)) → sp vs H Q E →
      ∃ t, WSs (cxOf CX0 P w K mg base N qual (defScope st) f fd.code A outer s H E).nox (defBody st) t ∧ t { nx := fun _ H' => Q .non H', rt := Q } (start N vs) H) : Cal P w K mg base (k + 1) x ps sp := by
  have F' := F
  obtain ⟨oc, od, kV, doc, pm, an, cdv, ct, osl, rfl, lk, hcd⟩ := F.ex
  exact ⟨f, _, fn_of lk hcd S len (fun A outer s H vs Q E hr hsp => let ⟨t, h1, h2⟩ := hbody A outer s H vs Q E hr hsp; ⟨t, h1.h.nox, h2⟩), m, F'.kp, b⟩
end
/-- tables, one by one -/
theorem tabs_nil {K : PySem.W.Frag} {h : Heap} : TabsAt K [] h := ⟨fun _ z => absurd z (by simp), fun _ z => absurd z (by simp)⟩
theorem tabs_cons {K : PySem.W.Frag} {h : Heap} {P : Addr} {T : List Addr} (h1 : h.get? P = some { cls := .none, data := .fields #[] } ∧ isCodeTable h P) (h2 : K.lookup P = none) (h3 : TabsAt K T h) : TabsAt K (P :: T) h :=
  ⟨fun Q hQ => by
    rcases List.mem_cons.mp hQ with rfl | hQ
    · exact h1
    · exact h3.get Q hQ, fun Q hQ => by
    rcases List.mem_cons.mp hQ with rfl | hQ
    · exact h2
    · exact h3.out Q hQ⟩
theorem codeK_mk {K : PySem.W.Frag} {cdv : Value} {c P : Addr} {odc : Option Addr} {vs : Array Value} {slc : Array (Option Value)} {file : Str} {tf : Tok} {flags : Int} {tg : Tok} {inF : Bool} {text : Int} {tt : Tok} (e : cdv = .ref c) (lk : K.lookup c = some ⟨.type "code", odc, .fields vs, slc⟩)
    (h1 : vs[11]? = some (.ref P)) (h2 : vs.getD 18 .none = .str file tf) (h3 : vs.getD 7 .none = .int flags tg) (h4 : vs.getD 9 .none = .bool inF) (h5 : vs.getD 10 .none = .int text tt) (h6 : c ≠ P) : CodeK K cdv c P :=
  ⟨e, ⟨_, vs, file, tf, flags, tg, inF, text, tt, lk, rfl, rfl, by rw [Array.getD_eq_getD_getElem?, h1]; rfl, h1, h2, h3, h4, h5⟩, h6⟩
end L2
end
section
set_option Elab.async false
set_option linter.all false
set_option maxRecDepth 100000
set_option maxHeartbeats 1000000
namespace My
open PySem L2 PySem.Spec PyProof.Rows
theorem gcd_abs (a b : Int) : (if a < 0 then -a else a).natAbs.gcd (if b < 0 then -b else b).natAbs = a.natAbs.gcd b.natAbs := by
  have e : ∀ c : Int, (if c < 0 then -c else c).natAbs = c.natAbs := fun c => by split <;> omega
  rw [e, e]
theorem gcd_turn {r y : Int} (hr : 0 ≤ r) (hy : 0 < y) : y.natAbs.gcd (r.fmod y).natAbs = r.natAbs.gcd y.natAbs := by
  have e : (r.fmod y).natAbs = r.natAbs % y.natAbs := by
    rw [Int.fmod_eq_emod_of_nonneg _ (by omega)]
    obtain ⟨n, rfl⟩ := Int.eq_ofNat_of_zero_le hr
    obtain ⟨k, rfl⟩ := Int.eq_ofNat_of_zero_le (Int.le_of_lt hy)
    rfl
  rw [e, Nat.gcd_comm r.natAbs, Nat.gcd_rec y.natAbs r.natAbs, Nat.gcd_comm]
theorem gt_mono {i : Nat} {c : Int} (σ : L2.St) (H : Hp) (Q Q' : Bool → Hp → Prop) (h : ∀ b H1, Q b H1 → Q' b H1) (t : tTest (tOp (rI0 fun i j => V.bl (decide (j < i))) (tVar i) (tC (V.int c))) σ H Q) : tTest (tOp (rI0 fun i j => V.bl (decide (j < i))) (tVar i) (tC (V.int c))) σ H Q' := by
  obtain ⟨v, e, a, b, e1, e2, k, e3, q⟩ := t
  exact ⟨v, e, a, b, e1, e2, k, e3, h _ _ q⟩
theorem fr_low {a b : Int} {n : Nat} {H : Hp} {p : Addr} (hb : b ≠ 0) (h1 : a.natAbs < 2 ^ n) (h2 : b.natAbs < 2 ^ n) : Fr n (upd H p (.tup [.int (a.fdiv (sg a b)), .int (b.fdiv (sg a b))])) (.ref p) (Rat.divInt a b) := by
  refine ⟨⟨p, rfl, ?_⟩, ?_, Nat.lt_of_le_of_lt (den_le hb) h2⟩
  · rw [upd_same, low_num hb, low_den hb]
  · rw [← low_num hb]
    exact Nat.lt_of_le_of_lt (Int.natAbs_fdiv_le_natAbs _ _) h1
theorem sg_neg {a b : Int} (c : b < 0) : sg a b = -((a.natAbs.gcd b.natAbs : Nat) : Int) := if_pos c
theorem sg_pos {a b : Int} (c : ¬ b < 0) : sg a b = ((a.natAbs.gcd b.natAbs : Nat) : Int) := if_neg c
theorem div_ok {a b i : Int} {n : Nat} (hb : b ≠ 0) (h2 : b.natAbs < 2 ^ n) (hn : n ≤ 8000) : CDivB i (sg a b) :=
  ⟨sg_ne hb, Nat.lt_of_le_of_lt (sg_le hb) (Nat.lt_of_lt_of_le h2 (Nat.pow_le_pow_right (by decide) hn))⟩
theorem add_bd {a b c d : Int} {m n : Nat} (h1 : a.natAbs < 2 ^ m) (h2 : b.natAbs < 2 ^ n) (h3 : c.natAbs < 2 ^ n) (h4 : d.natAbs < 2 ^ m) : (a * b + c * d).natAbs < 2 ^ (m + n + 1) := by
  have e1 : a.natAbs * b.natAbs ≤ 2 ^ m * 2 ^ n := Nat.mul_le_mul (Nat.le_of_lt h1) (Nat.le_of_lt h2)
  have e2 : (c.natAbs + 1) * (d.natAbs + 1) ≤ 2 ^ n * 2 ^ m := Nat.mul_le_mul h3 h4
  have e3 : (a * b + c * d).natAbs ≤ a.natAbs * b.natAbs + c.natAbs * d.natAbs := by
    refine Nat.le_trans (Int.natAbs_add_le _ _) ?_
    rw [Int.natAbs_mul, Int.natAbs_mul]
    exact Nat.le_refl _
  have e4 : (c.natAbs + 1) * (d.natAbs + 1) = c.natAbs * d.natAbs + c.natAbs + d.natAbs + 1 := by
    rw [Nat.add_mul, Nat.mul_add]; omega
  have e5 : 2 ^ n * 2 ^ m = 2 ^ m * 2 ^ n := Nat.mul_comm _ _
  rw [Nat.pow_succ, Nat.pow_add]
  omega
theorem mul_bd {a b : Int} {m n : Nat} (h1 : a.natAbs < 2 ^ m) (h2 : b.natAbs < 2 ^ n) : (a * b).natAbs < 2 ^ (m + n) := by
  rw [Int.natAbs_mul, Nat.pow_add]
  exact Nat.mul_lt_mul'' h1 h2
theorem den_bd {a : Nat} {m : Nat} (h : a < 2 ^ m) : (a : Int).natAbs < 2 ^ m := by rwa [Int.natAbs_natCast]
theorem up_bd {a : Int} {m : Nat} (h : a.natAbs < 2 ^ m) : a.natAbs < 2 ^ (m + 1) := Nat.lt_of_lt_of_le h (Nat.pow_le_pow_right (by decide) (Nat.le_succ _))
theorem sub_bd {a b c d : Int} {m n : Nat} (h1 : a.natAbs < 2 ^ m) (h2 : b.natAbs < 2 ^ n) (h3 : c.natAbs < 2 ^ n) (h4 : d.natAbs < 2 ^ m) : (a * b - c * d).natAbs < 2 ^ (m + n + 1) := by
  have e : a * b - c * d = a * b + (-c) * d := by rw [Int.neg_mul]; omega
  rw [e]
  exact add_bd h1 h2 (by rwa [Int.natAbs_neg]) h4
theorem small_ok {b : Int} {n : Nat} (h0 : 0 ≤ b) (h : b < 2 ^ n) (hn : n ≤ 8000) (h1 : 0 < b) {i : Int} : CDivB i b := by
  refine ⟨by omega, Nat.lt_of_lt_of_le (m := 2 ^ n) ?_ (Nat.pow_le_pow_right (by decide) hn)⟩
  have e : ((2 ^ n : Nat) : Int) = (2 : Int) ^ n := by rw [Int.natCast_pow]; rfl
  omega
theorem bd64 {b : Int} (h0 : -(2 ^ 64) < b) (h : b < 2 ^ 64) : b.natAbs < 2 ^ 64 := by
  have e : (2 : Int) ^ 64 = 18446744073709551616 := by decide
  have e' : (2 : Nat) ^ 64 = 18446744073709551616 := by decide
  rw [e] at h h0
  rw [e']
  omega
theorem row_up {H : Hp} {r : Addr} {c i : Int} {n : Nat} (i0 : 0 ≤ i) (i1 : i ≤ n) : Row (n + 1) (upd H r (.lst [.int c, .int (i + 1)])) r := ⟨c, i + 1, upd_same, by omega, by omega⟩

def tw' (a b c : Rat × Rat) : Rat := (b.1 - a.1) * (c.2 - a.2) - (c.1 - a.1) * (b.2 - a.2)
theorem par {a b s : Rat × Rat} (h : tw' a b s = 0) (hn : a ≠ b) : ∃ t : Rat, s.1 = a.1 + t * (b.1 - a.1) ∧ s.2 = a.2 + t * (b.2 - a.2) := by
  unfold tw' at h
  by_cases h1 : b.1 - a.1 = 0
  · have h2 : b.2 - a.2 ≠ 0 := by
      intro z; apply hn; apply Prod.ext <;> grind
    refine ⟨(s.2 - a.2) / (b.2 - a.2), ?_, ?_⟩
    · have : (s.1 - a.1) * (b.2 - a.2) = 0 := by grind
      rcases Rat.mul_eq_zero.mp this with z | z
      · grind
      · exact absurd z h2
    · rw [Rat.div_mul_cancel h2]; grind
  · refine ⟨(s.1 - a.1) / (b.1 - a.1), ?_, ?_⟩
    · rw [Rat.div_mul_cancel h1]; grind
    · have : (s.1 - a.1) / (b.1 - a.1) * (b.2 - a.2) = s.2 - a.2 := by
        have e : ((s.1 - a.1) / (b.1 - a.1) * (b.2 - a.2)) * (b.1 - a.1) = (s.2 - a.2) * (b.1 - a.1) := by
          have : (s.1 - a.1) / (b.1 - a.1) * (b.1 - a.1) = s.1 - a.1 := Rat.div_mul_cancel h1
          grind
        grind
      grind
theorem num_q (q : Rat) : (q.num : Rat) = q * (q.den : Rat) := by
  have h : (q.den : Rat) ≠ 0 := by have := q.den_nz; intro z; exact this (by exact_mod_cast z)
  have e := Rat.num_divInt_den q
  rw [Rat.divInt_eq_div] at e
  have e2 : (q.num : Rat) / (q.den : Rat) = q := e
  calc (q.num : Rat) = (q.num : Rat) / (q.den : Rat) * (q.den : Rat) := (Rat.div_mul_cancel h).symm
    _ = q * (q.den : Rat) := by rw [e2]
theorem sub_q (x y : Rat) : ((x.num * (y.den : Int) - y.num * (x.den : Int) : Int) : Rat) = (x - y) * (((x.den : Int) * (y.den : Int) : Int) : Rat) := by
  have h1 := num_q x
  have h2 := num_q y
  rw [Rat.intCast_sub, Rat.intCast_mul, Rat.intCast_mul, Rat.intCast_mul, h1, h2]
  have e1 : (((x.den : Int) : Int) : Rat) = (x.den : Rat) := rfl
  have e2 : (((y.den : Int) : Int) : Rat) = (y.den : Rat) := rfl
  rw [e1, e2]
  grind
theorem cross {q : Rat} {T B : Int} (h : (T : Rat) = q * (B : Rat)) : q.num * B = T * (q.den : Int) := by
  have h1 := num_q q
  apply Rat.intCast_inj.mp
  rw [Rat.intCast_mul, Rat.intCast_mul, h1, h]
  have e1 : (((q.den : Int) : Int) : Rat) = (q.den : Rat) := rfl
  rw [e1]
  grind

def frB : PyData → Bool
  | .tuple [.int a, .int b] => decide (1 ≤ b) && decide (a.natAbs.gcd b.natAbs = 1)
  | _ => false
theorem frB_len {ds : List PyData} (h : ds.length ≠ 2) : frB (.tuple ds) = false := by
  match ds, h with
  | [], _ => rfl
  | [d], _ => cases d <;> rfl
  | [a, b], h => exact absurd rfl h
  | a :: b :: c :: ds, _ => cases a <;> cases b <;> rfl
theorem frB_1 {a b : PyData} (h : isWh a = false) : frB (.tuple [a, b]) = false := by
  cases a <;> first | rfl | (cases h)
theorem frB_2 {a b : PyData} (h : isWh b = false) : frB (.tuple [a, b]) = false := by
  cases b <;> first | (cases a <;> rfl) | (cases h)
theorem isWh_eq {a : PyData} (h : isWh a = true) : ∃ i, a = .int i := by
  cases a <;> first | (cases h; done) | exact ⟨_, rfl⟩
theorem decide_one {n : Nat} : decide ((n : Int) = 1) = decide (n = 1) := by
  by_cases h : n = 1
  · subst h; rfl
  · rw [decide_eq_false h, decide_eq_false (by omega)]

theorem frB_dF {q : Rat} : frB (dF q) = true := by
  have h1 := q.den_nz
  have h2 : q.num.natAbs.gcd q.den = 1 := q.reduced
  simp only [frB, dF, Int.natAbs_natCast, h2, decide_true, Bool.and_true, decide_eq_true_eq]
  omega
def spB : PyData → Bool
  | .tuple [a, b] => frB a && frB b
  | _ => false
theorem spB_len {ds : List PyData} (h : ds.length ≠ 2) : spB (.tuple ds) = false := by
  match ds, h with
  | [], _ => rfl
  | [d], _ => rfl
  | [a, b], h => exact absurd rfl h
  | a :: b :: c :: ds, _ => rfl
def tw (a b c : Rat × Rat) : Rat := (b.1 - a.1) * (c.2 - a.2) - (c.1 - a.1) * (b.2 - a.2)
def FrL (m : Nat) (H : Hp) (xs : List V) (qs : List Rat) : Prop := xs.length = qs.length ∧ ∀ (i : Nat) x, xs[i]? = some x → ∃ q, qs[i]? = some q ∧ Fr m H x q
theorem FrL.tk {m : Nat} {H H' : Hp} {xs : List V} {qs : List Rat} (t : Tk H H') (h : FrL m H xs qs) : FrL m H' xs qs := ⟨h.1, fun i x e => let ⟨q, e1, e2⟩ := h.2 i x e; ⟨q, e1, e2.tk t⟩⟩
theorem ix_two {K : PySem.W.Frag} {H : Hp} {Q : VK} {p : Addr} {i a b : Int} (h : H p = some (.lst [.int a, .int b])) (i0 : 0 ≤ i) (i2 : i < 2) (k : ∀ z, (z = a ∨ z = b) → Q (.int z) H) : rIx K (.ref p) (.int i) H Q := by
  have e : i = 0 ∨ i = 1 := by omega
  rcases e with rfl | rfl
  · exact ix_lst0 h (k _ (.inl rfl))
  · exact ix_lst1 h (k _ (.inr rfl))

def sgQ (q : Rat) : Int := if 0 < q.num then 1 else if q.num < 0 then -1 else 0
def lsN (x y : Rat) : Int := x.num * (y.den : Int) - y.num * (x.den : Int)
def lsD (x y : Rat) : Int := (x.den : Int) * (y.den : Int)
theorem add_bd2 {a b : Int} {m : Nat} (h1 : a.natAbs < 2 ^ m) (h2 : b.natAbs < 2 ^ m) : (a + b).natAbs < 2 ^ (m + 1) := by
  rw [Nat.pow_succ]; omega
def lwT (a b c : Rat × Rat) : Int := lsN b.1 a.1 * lsN c.2 a.2 * lsD c.1 a.1 * lsD b.2 a.2 - lsN c.1 a.1 * lsN b.2 a.2 * lsD b.1 a.1 * lsD c.2 a.2
def lwB (a b c : Rat × Rat) : Int := lsD b.1 a.1 * lsD c.2 a.2 * lsD c.1 a.1 * lsD b.2 a.2
theorem lsD_pos (x y : Rat) : 0 < lsD x y := by
  have h1 := x.den_nz
  have h2 := y.den_nz
  exact Int.mul_pos (by omega) (by omega)
theorem lwB_pos (a b c : Rat × Rat) : 0 < lwB a b c := Int.mul_pos (Int.mul_pos (Int.mul_pos (lsD_pos _ _) (lsD_pos _ _)) (lsD_pos _ _)) (lsD_pos _ _)
theorem lw_eq (a b c : Rat × Rat) : (lwT a b c : Rat) = tw a b c * (lwB a b c : Rat) := by
  have h1 : (lsN b.1 a.1 : Rat) = (b.1 - a.1) * (lsD b.1 a.1 : Rat) := sub_q _ _
  have h2 : (lsN c.2 a.2 : Rat) = (c.2 - a.2) * (lsD c.2 a.2 : Rat) := sub_q _ _
  have h3 : (lsN c.1 a.1 : Rat) = (c.1 - a.1) * (lsD c.1 a.1 : Rat) := sub_q _ _
  have h4 : (lsN b.2 a.2 : Rat) = (b.2 - a.2) * (lsD b.2 a.2 : Rat) := sub_q _ _
  unfold lwT lwB tw
  simp only [Rat.intCast_sub, Rat.intCast_mul]
  rw [h1, h2, h3, h4]
  grind
theorem lw_cross (a b c : Rat × Rat) : (tw a b c).num * lwB a b c = lwT a b c * ((tw a b c).den : Int) := cross (lw_eq a b c)
theorem lw_sg (a b c : Rat × Rat) : sgQ (tw a b c) = (if 0 < lwT a b c then 1 else 0) - (if lwT a b c < 0 then 1 else 0) := by
  have h := lw_cross a b c
  have hB := lwB_pos a b c
  have hd : (0 : Int) < (tw a b c).den := by have := (tw a b c).den_nz; omega
  unfold sgQ
  rcases Int.lt_trichotomy (tw a b c).num 0 with z | z | z
  · have : (tw a b c).num * lwB a b c < 0 := Int.mul_neg_of_neg_of_pos z hB
    have hT : lwT a b c < 0 := by
      rcases (by omega : lwT a b c < 0 ∨ 0 ≤ lwT a b c) with y | y
      · exact y
      · have := Int.mul_nonneg y (Int.le_of_lt hd); omega
    rw [if_neg (by omega), if_pos z, if_neg (by omega), if_pos hT]; rfl
  · have hT : lwT a b c = 0 := by
      rw [z, Int.zero_mul] at h
      rcases Int.mul_eq_zero.mp h.symm with y | y
      · exact y
      · omega
    rw [z, hT]; rfl
  · have : 0 < (tw a b c).num * lwB a b c := Int.mul_pos z hB
    have hT : 0 < lwT a b c := by
      rcases (by omega : 0 < lwT a b c ∨ lwT a b c ≤ 0) with y | y
      · exact y
      · have := Int.mul_nonpos_of_nonpos_of_nonneg y (Int.le_of_lt hd); omega
    rw [if_pos z, if_pos hT, if_neg (by omega)]; rfl
def onW (a b : Rat × Rat) (c : Rat) : Rat × Rat := (a.1 + c * (b.1 - a.1), a.2 + c * (b.2 - a.2))
theorem spt_new {m : Nat} {H : Hp} {p : Addr} {x y : V} {a b : Rat} (hp : H p = none) (h1 : Fr m H x a) (h2 : Fr m H y b) : Spt m (upd H p (.tup [x, y])) (.ref p) (a, b) :=
  ⟨p, x, y, rfl, upd_same, h1.mono (same_upd hp), h2.mono (same_upd hp)⟩

theorem Row.le {n m : Nat} {H : Hp} {r : Addr} (l : n ≤ m) (h : Row n H r) : Row m H r := let ⟨c, k, e, l1, l2⟩ := h.ex; ⟨c, k, e, l1, by omega⟩
theorem FrL.nil {m : Nat} {H : Hp} : FrL m H [] [] := ⟨rfl, fun i x e => by cases e⟩
theorem FrL.add {m : Nat} {H : Hp} {xs : List V} {qs : List Rat} {v : V} {q : Rat} (h : FrL m H xs qs) (f : Fr m H v q) : FrL m H (xs ++ [v]) (qs ++ [q]) := ⟨by rw [List.length_append, List.length_append, h.1]; rfl, fun i x e => by
  by_cases c : i < xs.length
  · rw [List.getElem?_append_left c] at e
    rw [List.getElem?_append_left (h.1 ▸ c)]
    exact h.2 i x e
  · rw [List.getElem?_append_right (by omega)] at e
    rw [List.getElem?_append_right (by have := h.1; omega), ← h.1]
    cases z : i - xs.length with
    | zero => rw [z] at e; cases e; exact ⟨q, rfl, f⟩
    | succ n => rw [z] at e; cases e⟩
theorem FrL.dp {K : PySem.W.Frag} {m : Nat} {H : Hp} : ∀ {xs : List V} {qs : List Rat}, FrL m H xs qs → DpAll K H xs (qs.map dF)
  | [], [], _ => .nil
  | [], _ :: _, h => by cases h.1
  | _ :: _, [], h => by cases h.1
  | x :: xs, q :: qs, h => by
    obtain ⟨q', e, f⟩ := h.2 0 x rfl
    cases e
    exact .cons f.dp (FrL.dp ⟨by have := h.1; simpa using this, fun i y e => h.2 (i + 1) y e⟩)
end My
end
section
set_option Elab.async false
set_option linter.all false
set_option maxRecDepth 100000
namespace HT
open PySem PySem.Spec PyProof.Rows
section
variable {prog : Program} {w : World} {A : Around} {E : Value → Shared → Prop} {s : Shared}
theorem getItem_tuple_whole {t sl : Addr} {items : Array Value} {vl vu : Value} {lo hi : Option Int} {Q : Value → Shared → Prop} (ht : IsTup s.heap t items) (hs : s.heap.IsSliceOf sl vl vu .none) (pl : IsPart vl lo) (pu : IsPart vu hi)
    (hw : sIx items.size 0 lo = 0 ∧ sIx items.size items.size hi = items.size) (h : Q (.ref t) s) : wpAny (model prog w) A (getItem (.ref t) (.ref sl)) Q E s := by
  obtain ⟨os, hos, hcs, hds⟩ := id hs
  have hTs : s.TypeIs (.ref sl) "slice" := ⟨os, hos, hcs⟩
  unfold getItem
  try with_reducible refine wpAny_holding ?_
  first | refine wpAny_bind (wpAny_pure ?_) | skip
  refine wpAny_bind (wpAny_sequenceKey ht.typeIs (by decide) ?_)
  refine wpAny_bind (wpAny_callSpecial?_slot (name := Str.ofString "__getitem__") ht.typeIs PyProof.Rows.slot_tuple_getitem
    (wpAny_call_entry PyProof.Rows.slot_tuple_getitem ht.typeIs entry_tuple_getitem ?_ (args_tuple_getitem _ _)))
  show wpAny _ _ (Builtin.Tuple.tupleItemsOf (.ref t) >>= _) _ _ s
  refine wpAny_bind (tupleItemsOf_ ht ?_)
  refine wpAny_bind (wpAny_typeOf hTs ?_)
  rw [if_pos (by decide)]
  refine wpAny_bind (sliceApplied_gen hs pl pu ?_)
  show wpAny _ _ (if (((sIx items.size 0 lo : Nat) : Int) == 0 && (1 : Int) == 1 && (sIx items.size items.size hi - sIx items.size 0 lo) == items.size) = true then _ else _) _ _ s
  rw [hw.1, hw.2, Nat.sub_zero, if_pos (by simp)]
  unfold Builtin.Tuple.tupleIsExact
  refine wpAny_bind (wpAny_bind (wpAny_typeOf ht.typeIs (wpAny_pure ?_)))
  rw [if_pos (by decide)]
  exact wpAny_bind (wpAny_rule (wpAny_pure ⟨_, rfl, wpAny_pure h⟩))
theorem cat_tup0 {t b : Addr} {ws : List Value} {Q : Value → Shared → Prop} (ht : IsTup s.heap t ([] : List Value).toArray) (hb : IsTup s.heap b ws.toArray) (h1 : Q (.ref b) s) : wpAny (model prog w) A (binaryOp .Add (.ref t) (.ref b)) Q E s := by
  obtain ⟨⟨cls, dd, data, sl⟩, ho, hc, n, hd⟩ := id ht
  obtain ⟨⟨cls2, dd2, data2, sl2⟩, ho2, hc2, n2, hd2⟩ := id hb
  simp only at hc hd hc2 hd2
  subst hc hd hc2 hd2
  exact concat_meets ⟨_, ho, rfl⟩ ⟨_, ho2, rfl⟩ noFill_tuple_add seq_tuple_add PySem.F.slot_tuple_add PySem.F.entry_tuple_add (PySem.F.args_tuple_add_2 _ _)
      (tuple_addW0 t b #[] ws.toArray n n2 dd dd2 sl sl2 (by simp)) ⟨ho, ho2, h1⟩
end
end HT
namespace L2
open PySem PySem.Spec PyProof.Rows
section
variable {X : Cx}
/-! ### tuples: any slice, any sum -/
def rSlTA (K : PySem.W.Frag) : V → Option Int → Option Int → Hp → VK → Prop := fun x lo hi H Q => ∃ a xs, x = .ref a ∧ SqT K H a xs ∧ ((cutV xs lo hi = xs → Q (.ref a) H) ∧ ∀ p, H p = none → Q (.ref p) (upd H p (.tup (cutV xs lo hi))))
theorem cutV_whole {xs : List V} {lo hi : Option Int} (h : HT.sIx xs.length 0 lo = 0 ∧ HT.sIx xs.length xs.length hi = xs.length) : cutV xs lo hi = xs := by
  unfold cutV
  rw [h.1, h.2, List.drop_zero, Nat.sub_zero, List.take_length]
theorem sl_tupA : SlR X (rSlTA X.K) := by
  intro pins s σ H x v vl vu lo hi sl Q I rx hs pl pu h
  obtain ⟨a, xs, rfl, hx, q1, q2⟩ := h
  by_cases hw : HT.sIx xs.length 0 lo = 0 ∧ HT.sIx xs.length xs.length hi = xs.length
  · cases rx
    obtain ⟨its, r, ht, hz⟩ := I.tuple hx
    have hlen : its.toArray.size = xs.length := by rw [List.size_toArray]; exact r.length.symm
    refine ⟨"tuple", _, PyProof.Rows.slot_tuple_getitem.lookup, ht.typeIs, ?_⟩
    exact HT.getItem_tuple_whole ht hs pl pu (by rw [hlen]; exact hw) ⟨.ref a, H, I, rfl, q1 (cutV_whole hw)⟩
  · exact sl_tup pins s σ H (.ref a) v vl vu lo hi sl Q I rx hs pl pu ⟨a, xs, rfl, hx, hw, q2⟩
def rCatA (K : PySem.W.Frag) : R2 := fun x y H Q => ∃ a b xs ys, x = .ref a ∧ y = .ref b ∧ SqT K H a xs ∧ SqT K H b ys ∧ xs.length + ys.length ≤ sizeLine ∧ (xs = [] → Q (.ref b) H) ∧ (ys = [] → Q (.ref a) H) ∧ ∀ p, H p = none → Q (.ref p) (upd H p (.tup (xs ++ ys)))
theorem op_catA : OpR X (binaryOp .Add) (rCatA X.K) := by
  intro pins s σ H x y v u Q I rx ry h
  obtain ⟨a, b, xs, ys, rfl, rfl, ha, hb, hz, q0, q1, q2⟩ := h
  by_cases hx : xs = []
  · subst hx
    cases rx
    cases ry
    obtain ⟨its, r1, p1, _⟩ := I.tuple ha
    obtain ⟨its2, r2, p2, _⟩ := I.tuple hb
    have e := r1.nil_iff.mpr rfl
    subst e
    exact HT.cat_tup0 p1 p2 ⟨.ref b, H, I, rfl, q0 rfl⟩
  · exact op_catT pins s σ H _ _ v u Q I rx ry ⟨a, b, xs, ys, rfl, rfl, ha, hb, hx, hz, q1, fun _ => q2⟩
/-- x[::-1] -/
def tRev (K : PySem.W.Frag) (te : TE) : TE := fun σ H Q => te σ H fun x H1 => ∃ a xs, x = .ref a ∧ ((SqL K H1 a xs ∧ ∀ p, H1 p = none → Q (.ref p) (upd H1 p (.lst xs.reverse))) ∨ (SqT K H1 a xs ∧ ∀ p, H1 p = none → Q (.ref p) (upd H1 p (.tup xs.reverse))))
end
end L2
end
section
set_option Elab.async false
set_option linter.all false
set_option maxRecDepth 100000
namespace L2
open PySem PySem.Spec PyProof.Rows
theorem bt_sum : bootBuiltins "sum" = some (.builtin "sum") := by decide +kernel
theorem bt_max : bootBuiltins "max" = some (.builtin "max") := by decide +kernel
/-! ### zip -/
def ForZ (K : PySem.W.Frag) (a b : Addr) (g : TG) (tb : TS) (D : Ends) (σ : St) (H : Hp) : Prop := ForJ (Itz K a b) g tb D σ H
section
variable {K : PySem.W.Frag} {a b : Addr} {g : TG} {tb : TS} {D : Ends} {σ : St} {H : Hp}
theorem tFor_zip {ta : TA} : tFor (iZip K ta) g tb D σ H = ta σ H fun vs H1 => ∃ a b xs ys, vs = [.ref a, .ref b] ∧ SqL K H1 a xs ∧ SqL K H1 b ys ∧ ForZ K a b g tb D σ H1 := rfl
theorem forZ {xs ys : List V} (hlen : xs.length = ys.length) (Pv : Nat → St → Hp → Prop) (h0 : Pv 0 σ H) (hl : ∀ i σ H, Pv i σ H → SqL K H a xs ∧ SqL K H b ys)
    (hs : ∀ i x y T σ H, xs[i]? = some x → ys[i]? = some y → Pv i σ H → H T = none → g (.ref T) σ (upd H T (.tup [x, y])) fun σ2 H2 => tb { D with nx := Pv (i + 1), ct := Pv (i + 1), bk := D.nx } σ2 H2) (hd : ∀ σ H, Pv xs.length σ H → D.nx σ H) : ForZ K a b g tb D σ H := by
  refine ⟨fun i m σ H => m = xs.length - i ∧ i ≤ xs.length ∧ Pv i σ H, ⟨xs.length, by simp, Nat.zero_le _, h0⟩, ?_⟩
  rintro i m σ H ⟨rfl, hi, p⟩
  obtain ⟨q1, q2⟩ := hl i σ H p
  by_cases hlt : i < xs.length
  · refine .inr ⟨⟨xs, ys, xs[i], ys[i]'(by omega), q1, q2, by simp [hlt], by simp [show i < ys.length by omega]⟩, Pv (i + 1), fun σ' H' p' => ⟨xs.length - (i + 1), by omega, rfl, hlt, p'⟩, fun v H' z => ?_⟩
    obtain ⟨T, x, y, rfl, hT, rfl, hx, hy⟩ := z
    exact hs i x y T σ H (hx xs q1) (hy ys q2) p hT
  · have e : i = xs.length := by omega
    subst e
    exact .inl ⟨⟨xs, ys, q1, q2, .inl (Nat.le_refl _)⟩, hd σ H p⟩
end
/-! ### bounded data -/
mutual
def bdD (n : Nat) : PyData → Prop
  | .int i => i.natAbs < 2 ^ n
  | .list ds => bdDs n ds
  | .tuple ds => bdDs n ds
  | .dict _ => False
  | _ => True
def bdDs (n : Nat) : List PyData → Prop
  | [] => True
  | d :: ds => bdD n d ∧ bdDs n ds
end
theorem bdDs_mem {n : Nat} : ∀ {ds : List PyData}, bdDs n ds ↔ ∀ d ∈ ds, bdD n d
  | [] => ⟨fun _ d h => (nomatch h), fun _ => trivial⟩
  | d :: ds => by
    show bdD n d ∧ bdDs n ds ↔ _
    rw [bdDs_mem]
    constructor
    · rintro ⟨h1, h2⟩ e he
      rcases List.mem_cons.mp he with rfl | he
      · exact h1
      · exact h2 e he
    · exact fun h => ⟨h d List.mem_cons_self, fun e he => h e (List.mem_cons_of_mem _ he)⟩
theorem bdDs.append {n : Nat} {ds es : List PyData} (h1 : bdDs n ds) (h2 : bdDs n es) : bdDs n (ds ++ es) := bdDs_mem.mpr fun d hd => (List.mem_append.mp hd).elim (bdDs_mem.mp h1 d) (bdDs_mem.mp h2 d)
theorem bdDs.reverse {n : Nat} {ds : List PyData} (h1 : bdDs n ds) : bdDs n ds.reverse := bdDs_mem.mpr fun d hd => bdDs_mem.mp h1 d (List.mem_reverse.mp hd)
theorem bdD_dF {m n : Nat} {H : Hp} {v : V} {q : Rat} (h : Fr m H v q) (l : m ≤ n) : bdD n (dF q) := by
  refine ⟨Nat.lt_of_lt_of_le h.nb (Nat.pow_le_pow_right (by decide) l), ?_, trivial⟩
  show (q.den : Int).natAbs < _
  rw [Int.natAbs_natCast]
  exact Nat.lt_of_lt_of_le h.db (Nat.pow_le_pow_right (by decide) l)
theorem bdD_dS {m n : Nat} {H : Hp} {v : V} {p : Rat × Rat} (h : Spt m H v p) (l : m ≤ n) : bdD n (dS p) := by
  obtain ⟨a, x, y, _, _, h2, h3⟩ := h.ex
  exact ⟨bdD_dF h2 l, bdD_dF h3 l, trivial⟩
section
variable {K : PySem.W.Frag} {r : Addr} {H : Hp} {Q : VK} {v x y : V} {o : HO} {n : Nat}
theorem RpAll.drop : ∀ {xs : List V} {ds : List PyData} (k : Nat), RpAll r H xs ds → RpAll r H (xs.drop k) (ds.drop k)
  | _, _, 0, h => h
  | _, _, k + 1, .nil => .nil
  | _, _, k + 1, .cons _ t => RpAll.drop k t
theorem RpAll.take : ∀ {xs : List V} {ds : List PyData} (k : Nat), RpAll r H xs ds → RpAll r H (xs.take k) (ds.take k)
  | _, _, 0, _ => .nil
  | _, _, k + 1, .nil => .nil
  | _, _, k + 1, .cons h t => .cons h (RpAll.take k t)
theorem RpAll.reverse : ∀ {xs : List V} {ds : List PyData}, RpAll r H xs ds → RpAll r H xs.reverse ds.reverse
  | _, _, .nil => .nil
  | _, _, .cons h t => by
    rw [List.reverse_cons, List.reverse_cons]
    exact (RpAll.reverse t).append (.cons h .nil)
/-- lists of bounded data, each item by itself -/
def Bd (n k : Nat) (r : Addr) (H : Hp) (x : V) : Prop := ∃ d, Rp r H x d ∧ bdD n d ∧ ShN k d
def Bds (n k : Nat) (r : Addr) (H : Hp) (xs : List V) : Prop := ∀ x ∈ xs, Bd n k r H x
variable {j : Nat}
theorem Bd.up {H' : Hp} (k : Kp r H H') (h : Bd n j r H x) : Bd n j r H' x := let ⟨d, h1, h2⟩ := h; ⟨d, h1.up k, h2⟩
theorem Bd.le {j' : Nat} (h : Bd n j r H x) (l : j ≤ j') : Bd n j' r H x := let ⟨d, h1, h2, h3⟩ := h; ⟨d, h1, h2, h3.le l⟩
theorem Bds.up {H' : Hp} {xs : List V} (k : Kp r H H') (h : Bds n j r H xs) : Bds n j r H' xs := fun x hx => (h x hx).up k
theorem Bds.le {j' : Nat} {xs : List V} (h : Bds n j r H xs) (l : j ≤ j') : Bds n j' r H xs := fun x hx => (h x hx).le l
theorem Bds.nil : Bds n j r H [] := fun _ h => nomatch h
theorem Bds.cons {xs : List V} (h : Bd n j r H x) (hs : Bds n j r H xs) : Bds n j r H (x :: xs) := fun y hy => by
  rcases List.mem_cons.mp hy with rfl | hy
  · exact h
  · exact hs y hy
theorem Bds.append {xs ys : List V} (h : Bds n j r H xs) (h' : Bds n j r H ys) : Bds n j r H (xs ++ ys) := fun y hy => (List.mem_append.mp hy).elim (h y) (h' y)
theorem Bds.reverse {xs : List V} (h : Bds n j r H xs) : Bds n j r H xs.reverse := fun y hy => h y (List.mem_reverse.mp hy)
theorem Bds.all {xs : List V} (h : Bds n j r H xs) : ∃ ds, RpAll r H xs ds ∧ bdDs n ds ∧ ∀ d ∈ ds, ShN j d := by
  induction xs with
  | nil => exact ⟨[], .nil, trivial, fun _ h => nomatch h⟩
  | cons x xs ih =>
    obtain ⟨d, h1, h2, h0⟩ := h x List.mem_cons_self
    obtain ⟨ds, h3, h4, h5⟩ := ih fun y hy => h y (List.mem_cons_of_mem _ hy)
    refine ⟨d :: ds, .cons h1 h3, ⟨h2, h4⟩, fun e he => ?_⟩
    rcases List.mem_cons.mp he with rfl | he
    · exact h0
    · exact h5 e he
theorem catLB {a b : Addr} {xs ys : List V} (h1 : H a = some (.lst xs)) (h2 : H b = some (.lst ys)) (hl : xs.length + ys.length ≤ 1000) (k : ∀ p H', Same H H' → H p = none → H' p = some (.lst (xs ++ ys)) → Q (.ref p) H') : rAddA (.ref a) (.ref b) H Q :=
  cat_l h1 h2 (Nat.le_of_lt (small1000 hl)) fun p hp => k p _ (same_upd hp) hp upd_same
theorem Bd.int {i : Int} (h : i.natAbs < 2 ^ n) : Bd n 1 r H (.int i) := ⟨_, .int i, h, rfl, Nat.le_of_ble_eq_true rfl⟩
theorem Bd.bl {b : Bool} : Bd n 1 r H (.bl b) := ⟨_, .bl b, trivial, rfl, Nat.le_of_ble_eq_true rfl⟩
theorem Bd.non : Bd n 1 r H .non := ⟨_, .non, trivial, rfl, Nat.le_of_ble_eq_true rfl⟩
theorem Bd.str {z : Str} (h : PyData.canLay0 (.str z) = true) : Bd n 1 r H (.str z) := ⟨_, .str z, trivial, h, Nat.le_of_ble_eq_true rfl⟩
/-- slices, sums, of tuples of such -/
theorem slTB {a : Addr} {xs : List V} {lo hi : Option Int} (h : H a = some (.tup xs)) (k : ∀ p H', Same H H' → H' p = some (.tup (cutV xs lo hi)) → (p = a ∨ H p = none) → Q (.ref p) H') : rSlTA K (.ref a) lo hi H Q :=
  ⟨a, xs, rfl, SqT.of h, fun e => k a H (Same.refl _) (by rw [e]; exact h) (.inl rfl), fun p hp => k p _ (same_upd hp) upd_same (.inr hp)⟩
theorem catTB {a b : Addr} {xs ys : List V} (h1 : H a = some (.tup xs)) (h2 : H b = some (.tup ys)) (hl : xs.length + ys.length ≤ 1000) (k : ∀ p H', Same H H' → H' p = some (.tup (xs ++ ys)) → (p = a ∨ p = b ∨ H p = none) → Q (.ref p) H') : rCatA K (.ref a) (.ref b) H Q :=
  ⟨a, b, xs, ys, rfl, rfl, SqT.of h1, SqT.of h2, Nat.le_of_lt (small1000 hl), fun e => k b H (Same.refl _) (by rw [e]; exact h2) (.inr (.inl rfl)), fun e => k a H (Same.refl _) (by rw [e, List.append_nil]; exact h1) (.inl rfl), fun p hp => k p _ (same_upd hp) upd_same (.inr (.inr hp))⟩
end
/-! ### data back to fractions and spots -/
def toQ : PyData → Rat
  | .tuple [.int u, .int v] => Rat.divInt u v
  | _ => 0
def toS : PyData → Rat × Rat
  | .tuple [a, b] => (toQ a, toQ b)
  | _ => (0, 0)
theorem frB_eq {d : PyData} (h : My.frB d = true) : d = dF (toQ d) := by
  unfold My.frB at h
  split at h
  · rename_i u v
    rw [Bool.and_eq_true, decide_eq_true_eq, decide_eq_true_eq] at h
    obtain ⟨h1, h2⟩ := h
    have hv : v ≠ 0 := by omega
    have e1 := My.low_num (t := u) hv
    have e2 := My.low_den (t := u) hv
    rw [My.sg_pos (by omega), h2] at e1 e2
    have e3 : u.fdiv ((1 : Nat) : Int) = u := Int.fdiv_one u
    have e4 : v.fdiv ((1 : Nat) : Int) = v := Int.fdiv_one v
    show PyData.tuple [.int u, .int v] = .tuple [.int (Rat.divInt u v).num, .int ((Rat.divInt u v).den : Int)]
    rw [← e1, ← e2, e3, e4]
  · cases h
theorem spB_eq {d : PyData} (h : My.spB d = true) : d = dS (toS d) := by
  unfold My.spB at h
  split at h
  · rename_i a b
    rw [Bool.and_eq_true] at h
    show PyData.tuple [a, b] = .tuple [dF (toQ a), dF (toQ b)]
    rw [← frB_eq h.1, ← frB_eq h.2]
  · cases h
theorem fr_of {n : Nat} {r : Addr} {H : Hp} {v : V} {q : Rat} (h : Rp r H v (dF q)) (b : bdD n (dF q)) : Fr n H v q := by
  cases h with
  | tup h1 h2 h3 =>
    cases h3 with
    | cons ha h4 =>
      cases h4 with
      | cons hb h5 =>
        cases h5
        cases ha
        cases hb
        refine ⟨⟨_, rfl, h1⟩, b.1, ?_⟩
        have := b.2.1
        rw [show bdD n (.int (q.den : Int)) = ((q.den : Int).natAbs < 2 ^ n) from rfl, Int.natAbs_natCast] at this
        exact this
theorem spt_of {n : Nat} {r : Addr} {H : Hp} {v : V} {p : Rat × Rat} (h : Rp r H v (dS p)) (b : bdD n (dS p)) : Spt n H v p := by
  cases h with
  | tup h1 h2 h3 =>
    cases h3 with
    | cons ha h4 =>
      cases h4 with
      | cons hb h5 =>
        cases h5
        exact ⟨_, _, _, rfl, h1, fr_of ha b.1, fr_of hb b.2.1⟩
end L2
end
section
set_option Elab.async false
set_option linter.all false
set_option maxRecDepth 100000
namespace L2
open PySem PySem.Spec PyProof.Rows
section
variable {X : Cx} {pos : Pos}
theorem ws_set {i : Nat} {x : Str} {e : Expr} {te : TE} {pos' : Pos} (hN : X.N.Nodup) (hi : X.N[i]? = some x) (hx : Loc X.env.scope x) (he : WE X e te) (hs : swapsWith e (some (.Name x pos')) pos.line X.env = pure false := by rfl) (hf : X.fn x = true ∨ X.env.scope.names.lookup x = some .local := by first | exact .inl rfl | exact .inr rfl | assumption) :
    WS X (.Assign [.Name x pos'] e pos) (tAsg te (gName i)) := ⟨ps_set hN hi hx he.h hs hf⟩
theorem we_op {op : Operator} {r : R2} {a b : Expr} {ta tb : TE} (ho : OpR X (binaryOp op) r) (ha : WE X a ta) (hb : WE X b tb) : WE X (.BinOp a op b pos) (tOp r ta tb) := ⟨pe_op ho ha.h hb.h⟩
theorem we_ci2 {i j : Int} {a b d : Nat} {p1 p2 p4 : Pos} : WE X (.Tuple [.Constant (.int i) a p1, .Constant (.int j) b p2] d p4) (tTup (tCons (tC (.int i)) (tCons (tC (.int j)) tNil))) := ⟨pe_ci2⟩
end
end L2
end
section
set_option Elab.async false
set_option linter.all false
namespace My
open PySem L2
/-- nought, or of a power of at least n -/
def Vge (p : Nat) (q : Rat) (n : Int) : Prop := q = 0 ∨ n ≤ vq p q
theorem Vge.neg {p : Nat} {q : Rat} {n : Int} (h : Vge p q n) : Vge p (-q) n := by
  rcases h with rfl | h
  · exact .inl (by grind)
  · exact .inr (by rw [vq_neg]; exact h)
theorem Vge.le {p : Nat} {q : Rat} {n m : Int} (h : Vge p q n) (l : m ≤ n) : Vge p q m := by
  rcases h with h | h
  · exact .inl h
  · exact .inr (by omega)
theorem Vge.add {p : Nat} {q r : Rat} {n : Int} (hp : Pr p) (h1 : Vge p q n) (h2 : Vge p r n) : Vge p (q + r) n := by
  by_cases hq : q = 0
  · subst hq; rw [Rat.zero_add]; exact h2
  by_cases hr : r = 0
  · subst hr; rw [Rat.add_zero]; exact h1
  by_cases hs : q + r = 0
  · exact .inl hs
  have a1 := vq_add hp hq hr hs
  rcases h1 with h1 | h1
  · exact absurd h1 hq
  rcases h2 with h2 | h2
  · exact absurd h2 hr
  exact .inr (by omega)
theorem Vge.sub {p : Nat} {q r : Rat} {n : Int} (hp : Pr p) (h1 : Vge p q n) (h2 : Vge p r n) : Vge p (q - r) n := by
  rw [Rat.sub_eq_add_neg]
  exact h1.add hp h2.neg
end My
end
section
set_option Elab.async false
set_option linter.all false
set_option maxRecDepth 100000
namespace L2
open PySem PySem.Spec PyProof.Rows
theorem cp10_13 : CPow 10 13 ↔ True := ⟨fun _ => trivial, fun _ => by refine ⟨?_, ?_, ?_⟩ <;> decide⟩
end L2
end
section
set_option Elab.async false
set_option linter.all false
set_option maxRecDepth 100000
namespace L2
open PySem PySem.Spec PyProof.Rows
section
variable {X : Cx} {K : PySem.W.Frag}
end
/-- of two values a list holds at most two different ones -/
def Two (x y : Int) (l : List Int) : Prop := l = [] ∨ l = [x] ∨ l = [y] ∨ l = [x, y] ∨ l = [y, x]
theorem Two.step {x y v : Int} {l : List Int} (h : Two x y l) (hv : v = x ∨ v = y) : Two x y (PyProof.Rows.step_dedup l v) := by
  unfold PyProof.Rows.step_dedup
  unfold Two at h ⊢
  by_cases e : x = y
  · subst e
    have hv : v = x := by rcases hv with h | h <;> exact h
    subst hv
    rcases h with rfl | rfl | rfl | rfl | rfl <;> simp
  · have e' : ¬ y = x := fun z => e z.symm
    rcases hv with rfl | rfl <;> rcases h with rfl | rfl | rfl | rfl | rfl <;> simp [e, e']
end L2
namespace My
open PySem L2
/-! ### bounds of tops and bottoms apart -/
def Bq (m n : Nat) (q : Rat) : Prop := q.num.natAbs < 2 ^ m ∧ q.den < 2 ^ n
theorem Bq.le {m n m' n' : Nat} {q : Rat} (h : Bq m n q) (l1 : m ≤ m') (l2 : n ≤ n') : Bq m' n' q := ⟨Nat.lt_of_lt_of_le h.1 (Nat.pow_le_pow_right (by decide) l1), Nat.lt_of_lt_of_le h.2 (Nat.pow_le_pow_right (by decide) l2)⟩
theorem Bq.div {a b : Int} {m n : Nat} (hb : b ≠ 0) (h1 : a.natAbs < 2 ^ m) (h2 : b.natAbs < 2 ^ n) : Bq m n (Rat.divInt a b) := by
  refine ⟨?_, Nat.lt_of_le_of_lt (den_le hb) h2⟩
  rw [← low_num hb]
  exact Nat.lt_of_le_of_lt (Int.natAbs_fdiv_le_natAbs _ _) h1
theorem Bq.neg {m n : Nat} {q : Rat} (h : Bq m n q) : Bq m n (-q) := ⟨by rw [Rat.neg_num, Int.natAbs_neg]; exact h.1, h.2⟩
theorem Bq.add {m n m' n' k : Nat} {x y : Rat} (h1 : Bq m n x) (h2 : Bq m' n' y) (l1 : m + n' ≤ k) (l2 : m' + n ≤ k) : Bq (k + 1) (n + n') (x + y) := by
  rw [← q_sum]
  have hx := x.den_nz
  have hy := y.den_nz
  refine Bq.div (Int.mul_ne_zero (by omega) (by omega)) ?_ ?_
  · exact add_bd2 (bdle (mul_bd h1.1 (den_bd h2.2)) l1) (bdle (mul_bd h2.1 (den_bd h1.2)) l2)
  · exact mul_bd (den_bd h1.2) (den_bd h2.2)
theorem Bq.sub {m n m' n' k : Nat} {x y : Rat} (h1 : Bq m n x) (h2 : Bq m' n' y) (l1 : m + n' ≤ k) (l2 : m' + n ≤ k) : Bq (k + 1) (n + n') (x - y) := by
  rw [Rat.sub_eq_add_neg]; exact h1.add h2.neg l1 l2
def Bs (m n : Nat) (p : Rat × Rat) : Prop := Bq m n p.1 ∧ Bq m n p.2
theorem Bs.le {m n m' n' : Nat} {q : Rat × Rat} (h : Bs m n q) (l1 : m ≤ m') (l2 : n ≤ n') : Bs m' n' q := ⟨h.1.le l1 l2, h.2.le l1 l2⟩
end My
end
section
set_option Elab.async false
set_option linter.all false
set_option maxRecDepth 100000
namespace L2
open PySem PySem.Spec PyProof.Rows
section
variable {X : Cx} {pos : Pos}
theorem ws_expr {e : Expr} {te : TE} (he : WE X e te) (hs : swapsWith e none pos.line X.env = pure false := by rfl) : WS X (.Expr e pos) (tDrop te) := ⟨ps_expr he.h hs⟩
theorem we_bm {o e : Expr} {es : List Expr} {to : TE} {t : TA} {name : Str} {apos cpos : Pos} {T id : String} {r : V → List V → Hp → VK → Prop} (pa : PlainAttrs T) (slot : Slot T name id) (hty : typeOf (.builtin id) = pure (.type "method_descriptor")) (hm : MtR X id r) (ho : WE X o to) (ha : WA X (e :: es) t)
    (hbase : attributeBase o name X.env (eval o X.env) = eval o X.env := by rfl)
    (hfew : ((backTo cpos (starEach (e :: es) X.env)).all (fun x => !x.1) && (backToKw cpos (keywordEach [] X.env)).all (fun x => x.1.isSome)
      && decide ((e :: es).length + ([] : List Keyword).length + (if ([] : List Keyword).isEmpty then 0 else 1) < 30)) = true := by rfl)
    (hline : (apos.endLine == cpos.line) = true := by rfl) (hs : starEach (e :: es) X.env = (false, eval e X.env) :: starEach es X.env := by rfl) (hplain : (backTo cpos (starEach es X.env)).any (·.1) = false := by rfl) :
    WE X (.Call (.Attribute o name apos) (e :: es) [] cpos) (tBM X.K T r to t) := ⟨pe_bm pa slot hty hm ho.h ha.h hbase hfew hline hs hplain⟩
end
theorem cp10_20 : CPow 10 20 ↔ True := ⟨fun _ => trivial, fun _ => by refine ⟨?_, ?_, ?_⟩ <;> decide⟩
theorem cp10_22 : CPow 10 22 ↔ True := ⟨fun _ => trivial, fun _ => by refine ⟨?_, ?_, ?_⟩ <;> decide⟩
theorem cp10_6 : CPow 10 6 ↔ True := ⟨fun _ => trivial, fun _ => by refine ⟨?_, ?_, ?_⟩ <;> decide⟩
end L2
namespace My
open PySem L2
/-! ### bounds of weighted mids -/
end My
end
section
set_option Elab.async false
set_option linter.all false
set_option maxRecDepth 100000
namespace HT
open PySem PySem.Spec PyProof.Rows
section
variable {prog : Program} {w : World} {A : Around} {E : Value → Shared → Prop} {s : Shared}
end
end HT
namespace L2
open PySem PySem.Spec PyProof.Rows
section
variable {X : Cx}
/-- every other item of a tuple: some of its items -/
def tSt2 (K : PySem.W.Frag) (te : TE) : TE := fun σ H Q => te σ H fun x H1 => ∃ a xs, x = .ref a ∧ SqT K H1 a xs ∧ ∀ p ys, H1 p = none → (∀ y ∈ ys, y ∈ xs) → ys.length ≤ xs.length → Q (.ref p) (upd H1 p (.tup ys))
end
end L2
namespace L2
open PySem PySem.Spec PyProof.Rows
/-! ### data that stands at neither of two places -/
mutual
theorem Rp.fresh {r S : Addr} {H : Hp} (hS : H S = none) : ∀ (d : PyData) (v : V), Rp r H v d → Rp S H v d
  | .none, _, h => by cases h; exact .non
  | .bool b, _, h => by cases h; exact .bl b
  | .int i, _, h => by cases h; exact .int i
  | .str x, _, h => by cases h; exact .str x
  | .list ds, _, h => by
    cases h with
    | lst h1 h2 h3 => exact .lst h1 (ne_of_none h1 hS) (RpAll.fresh hS ds _ h3)
  | .tuple ds, _, h => by
    cases h with
    | tup h1 h2 h3 => exact .tup h1 (ne_of_none h1 hS) (RpAll.fresh hS ds _ h3)
  | .dict _, _, h => by cases h
theorem RpAll.fresh {r S : Addr} {H : Hp} (hS : H S = none) : ∀ (ds : List PyData) (vs : List V), RpAll r H vs ds → RpAll S H vs ds
  | [], _, h => by cases h; exact .nil
  | d :: ds, _, h => by
    cases h with
    | cons h1 h2 => exact .cons (Rp.fresh hS d _ h1) (RpAll.fresh hS ds _ h2)
end
mutual
/-- what stands at neither r nor S stays off S when r changes -/
theorem Rp.swap {r S : Addr} {H H' : Hp} (k : Kp r H H') : ∀ (d : PyData) (v : V), Rp r H v d → Rp S H v d → Rp S H' v d
  | .none, _, h, _ => by cases h; exact .non
  | .bool b, _, h, _ => by cases h; exact .bl b
  | .int i, _, h, _ => by cases h; exact .int i
  | .str x, _, h, _ => by cases h; exact .str x
  | .list ds, _, h, g => by
    cases h with
    | lst h1 h2 h3 =>
      cases g with
      | lst g1 g2 g3 =>
        rw [h1] at g1
        cases g1
        exact .lst (k _ _ h1 h2) g2 (RpAll.swap k ds _ h3 g3)
  | .tuple ds, _, h, g => by
    cases h with
    | tup h1 h2 h3 =>
      cases g with
      | tup g1 g2 g3 =>
        rw [h1] at g1
        cases g1
        exact .tup (k _ _ h1 h2) g2 (RpAll.swap k ds _ h3 g3)
  | .dict _, _, h, _ => by cases h
theorem RpAll.swap {r S : Addr} {H H' : Hp} (k : Kp r H H') : ∀ (ds : List PyData) (vs : List V), RpAll r H vs ds → RpAll S H vs ds → RpAll S H' vs ds
  | [], _, h, _ => by cases h; exact .nil
  | d :: ds, _, h, g => by
    cases h with
    | cons h1 h2 =>
      cases g with
      | cons g1 g2 => exact .cons (Rp.swap k d _ h1 g1) (RpAll.swap k ds _ h2 g2)
end
mutual
theorem Rp.uniq {r S : Addr} {H : Hp} : ∀ (d e : PyData) (v : V), Rp r H v d → Rp S H v e → d = e
  | .none, _, _, h, g => by cases h; cases g; rfl
  | .bool b, _, _, h, g => by cases h; cases g; rfl
  | .int i, _, _, h, g => by cases h; cases g; rfl
  | .str x, _, _, h, g => by cases h; cases g; rfl
  | .list ds, _, _, h, g => by
    cases h with
    | lst h1 h2 h3 =>
      cases g with
      | lst g1 g2 g3 =>
        rw [h1] at g1
        cases g1
        rw [RpAll.uniq ds _ _ h3 g3]
      | tup g1 g2 g3 => rw [h1] at g1; cases g1
  | .tuple ds, _, _, h, g => by
    cases h with
    | tup h1 h2 h3 =>
      cases g with
      | tup g1 g2 g3 =>
        rw [h1] at g1
        cases g1
        rw [RpAll.uniq ds _ _ h3 g3]
      | lst g1 g2 g3 => rw [h1] at g1; cases g1
  | .dict _, _, _, h, _ => by cases h
theorem RpAll.uniq {r S : Addr} {H : Hp} : ∀ (ds es : List PyData) (vs : List V), RpAll r H vs ds → RpAll S H vs es → ds = es
  | [], _, _, h, g => by cases h; cases g; rfl
  | d :: ds, _, _, h, g => by
    cases h with
    | cons h1 h2 =>
      cases g with
      | cons g1 g2 => rw [Rp.uniq d _ _ h1 g1, RpAll.uniq ds _ _ h2 g2]
end
/-- bounded data at neither of two places -/
def Bd2 (n k : Nat) (r S : Addr) (H : Hp) (x : V) : Prop := ∃ d, Rp r H x d ∧ Rp S H x d ∧ bdD n d ∧ ShN k d
def Bds2 (n k : Nat) (r S : Addr) (H : Hp) (xs : List V) : Prop := ∀ x ∈ xs, Bd2 n k r S H x
section
variable {n j : Nat} {r S : Addr} {H H' : Hp} {x : V} {xs : List V}
theorem Bd2.same (s : Same H H') (h : Bd2 n j r S H x) : Bd2 n j r S H' x := let ⟨d, h1, h2, h3⟩ := h; ⟨d, h1.up s.kp, h2.up s.kp, h3⟩
theorem Bd2.draw (k : Kp r H H') (h : Bd2 n j r S H x) : Bd2 n j r S H' x := let ⟨d, h1, h2, h3⟩ := h; ⟨d, h1.up k, Rp.swap k d x h1 h2, h3⟩
theorem Bd2.put (k : Kp S H H') (h : Bd2 n j r S H x) : Bd2 n j r S H' x := let ⟨d, h1, h2, h3⟩ := h; ⟨d, Rp.swap k d x h2 h1, h2.up k, h3⟩
theorem Bd2.one (h : Bd2 n j r S H x) : Bd n j r H x := let ⟨d, h1, _, h3⟩ := h; ⟨d, h1, h3⟩
theorem Bd2.two (h : Bd2 n j r S H x) : Bd n j S H x := let ⟨d, _, h2, h3⟩ := h; ⟨d, h2, h3⟩
theorem Bd2.le {j' : Nat} (h : Bd2 n j r S H x) (l : j ≤ j') : Bd2 n j' r S H x := let ⟨d, h1, h2, h3, h4⟩ := h; ⟨d, h1, h2, h3, h4.le l⟩
theorem Bd2.of {n' j' : Nat} (h : Bd n j r H x) (h' : Bd n' j' S H x) : Bd2 n j r S H x := by
  obtain ⟨d, h1, h2⟩ := h
  obtain ⟨e, g1, _⟩ := h'
  have := Rp.uniq d e x h1 g1
  subst this
  exact ⟨d, h1, g1, h2⟩
theorem Bd2.fresh (hS : H S = none) (h : Bd n j r H x) : Bd2 n j r S H x := let ⟨d, h1, h2⟩ := h; ⟨d, h1, Rp.fresh hS d x h1, h2⟩
theorem Bds2.same (s : Same H H') (h : Bds2 n j r S H xs) : Bds2 n j r S H' xs := fun x hx => (h x hx).same s
theorem Bds2.draw (k : Kp r H H') (h : Bds2 n j r S H xs) : Bds2 n j r S H' xs := fun x hx => (h x hx).draw k
theorem Bds2.put (k : Kp S H H') (h : Bds2 n j r S H xs) : Bds2 n j r S H' xs := fun x hx => (h x hx).put k
theorem Bds2.one (h : Bds2 n j r S H xs) : Bds n j r H xs := fun x hx => (h x hx).one
theorem Bds2.fresh (hS : H S = none) (h : Bds n j r H xs) : Bds2 n j r S H xs := fun x hx => Bd2.fresh hS (h x hx)
theorem Bds2.snoc (h : Bds2 n j r S H xs) (hx : Bd2 n j r S H x) : Bds2 n j r S H (xs ++ [x]) := fun y hy => by
  rcases List.mem_append.mp hy with hy | hy
  · exact h y hy
  · rw [List.mem_singleton.mp hy]; exact hx
end
end L2
namespace L2
open PySem PySem.Spec PyProof.Rows
section
variable {X : Cx} {K : PySem.W.Frag}
end
end L2
end
section
set_option Elab.async false
set_option linter.all false
set_option maxRecDepth 100000
namespace PySem
open Sem (wp)
section
variable {prog : Program} {w : World} {A : Around} {E : Value → Shared → Prop} {h : Heap} {g : Array GenState} {d : Drawn} {t : Nat} {os : OsState}
variable {nm q : Str} {C N : Addr} {bs bm bmB : List Value} {hdct : Bool} {sn : List Str} {sub : List Value} {ab : Bool} {col : Option Bool} {dd : Option Addr} {k0 k1 k2 k3 k5 : Option Value} {B newId initId : String}
end
end PySem
end
section
set_option Elab.async false
set_option linter.all false
set_option maxRecDepth 100000
namespace PySem.W
open PySem PySem.Calls PyProof.Rows Builtin Builtin.ObjectAttr
/-- own classes, then the four built-in ones above a refusal -/
def excTail : List Value → Bool
  | .ref _ :: r => excTail r
  | [.type a, .type b, .type c, .type d] => a == "ValueError" && b == "Exception" && c == "BaseException" && d == "object"
  | _ => false
def exOver (K : Frag) (C : Addr) : Bool := (clsIn K C).any fun cd => excTail cd.mro

section
variable {prog : Program} {w : World} {A : Around} {K : Frag} {C x : Addr} {s : Shared} {R : Result → Shared → Prop} {E : Value → Shared → Prop}
end
end PySem.W
end
section
set_option Elab.async false
set_option linter.all false
set_option maxRecDepth 100000
namespace PySem.F
end PySem.F
namespace PySem.W
open PySem PySem.Calls PyProof.Rows Builtin Builtin.ObjectAttr
section
variable {prog : Program} {w : World} {M : Model} {A : Around} {E : Value → Shared → Prop} {h : Heap} {g : Array GenState} {d : Drawn} {t : Nat} {os : OsState}
end
end PySem.W
end
section
set_option Elab.async false
set_option linter.all false
set_option maxRecDepth 100000
namespace PySem.W
open PySem PySem.Calls PyProof.Rows Builtin Builtin.ObjectAttr
section
variable {prog : Program} {w : World} {M : Model} {A : Around} {E : Value → Shared → Prop} {h : Heap} {g : Array GenState} {d : Drawn} {t : Nat} {os : OsState}
abbrev excVals (t0 : Addr) : Array Value := #[.ref t0, .none, .none, .none, .bool false, .none]
end
end PySem.W
end
section
set_option Elab.async false
set_option linter.all false
set_option maxRecDepth 100000
namespace PySem.W
open PySem PySem.Calls PyProof.Rows Builtin Builtin.ObjectAttr
/-- the body of an `__init__` that tells its base a text and keeps its one argument -/
abbrev iniBody (fld txt : Str) (p0 p1 p2 p3 p4 p5 p6 p7 p8 p9 : Pos) (k : Nat) : List Stmt :=
  [.Expr (.Call (.Attribute (.Call (.Name "super" p0) [] [] p1) "__init__" p2) [.Constant (.str txt) k p3] [] p4) p5,
   .Assign [.Attribute (.Name "self" p6) fld p7] (.Name fld p8) p9]
abbrev iniScope (fld : Str) : Scope := { kind := .function, names := [("self", .local), (fld, .local), ("__class__", .free), ("super", .globalImplicit)], isGenerator := false, isCoroutine := false, more := [] }
/-- what an exception with its one field is, behind its making -/
structure ExF (h h' : Heap) (x C : Addr) (fld : Str) (v : Value) : Prop where
  keeps : ∀ b o, b ≠ x → h.get? b = some o → h'.get? b = some o
  there : ∃ (t dx : Addr) (vs : List Value) (hs : Int) (tk : Tok), h'.get? x = some { cls := .ref C, dict := some dx, data := .fields (excVals t) } ∧
    h.get? t = none ∧ h'.get? t = some { cls := .type "tuple", data := .seq vs.toArray } ∧ h.get? dx = none ∧ h'.get? dx = some (dictOf [⟨hs, .str fld tk, v⟩] 1)
section
variable {prog : Program} {w : World} {A : Around} {E : Value → Shared → Prop} {h : Heap} {g : Array GenState} {d : Drawn} {t : Nat} {os : OsState}
variable {K : Frag} {mg mb m : Str → Option Value}
end
end PySem.W
end
section
set_option Elab.async false
set_option linter.all false
set_option maxRecDepth 100000
namespace PySem.W
open PySem PySem.Calls PyProof.Rows Builtin Builtin.ObjectAttr L2
/-- an exception class under other own ones, with its own `__init__` -/
def excInI (K : Frag) (C fI : Addr) (bmB : List Value) (newId : String) : Bool := match K.lookup C with
  | some ⟨.type "type", _, .cls cd, sl⟩ => (match cd.mro, sl.toList with
    | .ref C' :: bm, [_, _, _, _, some (.builtin n), _] => C' == C && n == newId && !cd.hasDel && tailIn K bmB bm && nsOkIn K cd.ns && nsIn K cd.ns "__init__" == some (some (.ref fI))
    | _, _ => false)
  | _ => false
abbrev iniArgs (fld : Str) (pa pb : Pos) : Arguments := { posonlyargs := [], args := [{ arg := "self", annotation := none, pos := pa }, { arg := fld, annotation := none, pos := pb }], vararg := none, kwonlyargs := [], kw_defaults := [], kwarg := none, defaults := [] }
structure XIni (prog : Program) (K : Frag) (C fI cc cda : Addr) (fld : Str) : Prop where
  exc : excInI K C fI bmV newV = true
  fn : ∃ od osl name qual p0 p1 p2 p3 p4 p5 p6 p7 p8 p9 txt k kV doc pm an ct pa pb, K.lookup fI = some ⟨.type "function", od, .func (ksFn name qual (iniArgs fld pa pb) (iniBody fld txt p0 p1 p2 p3 p4 p5 p6 p7 p8 p9 k) (iniScope fld) .none kV doc pm an (.ref cda) ct cc), osl⟩ ∧ codeIn K (.ref cda) qual = true ∧ (p2.endLine == p4.line) = true ∧ ∀ a b, bindArgs (ksFn name qual (iniArgs fld pa pb) (iniBody fld txt p0 p1 p2 p3 p4 p5 p6 p7 p8 p9 k) (iniScope fld) .none kV doc pm an (.ref cda) ct cc) ⟨[a, b], []⟩ = pure [(("self" : Str), a), (fld, b)]
  code : ∃ ccl cdd vs ccs file tf, K.lookup cda = some ⟨ccl, cdd, .fields vs, ccs⟩ ∧ vs[2]? = some (.str file tf) ∧ ((prog.main.file : Str) == file) = true
  cell : ∃ cl cld csl, K.lookup cc = some ⟨cl, cld, .cell (some (.ref C)), csl⟩
  top : (prog.main.scope.names.lookup ("super" : Str)).isSome = false
  sub : mroIn K C (.ref C) = some true
  subV : mroIn K C (.type "ValueError") = some true
  any : nsIn K cStatics "thirdparty.any" = some none
  ini : ks_superIn K C C "__init__" = some (some (.builtin "ValueError.__init__"))
  sa : findIn K (.ref C) "__setattr__" = some (some (.builtin "object.__setattr__"))
  over : exOver K C = true
  tk : takerIn K C fld = some none
  hd : hasDictIn K C = true
  ks : (iniScope fld).names.lookup ("super" : Str) = some .globalImplicit
  kc : (iniScope fld).names.lookup ("__class__" : Str) = some .free
  ksf : (iniScope fld).names.lookup ("self" : Str) = some .local
  kf : (iniScope fld).names.lookup fld = some .local
  db : (fld == ("__debug__" : Str)) = false
  ne : (fld == ("self" : Str)) = false
/-- an exception of one field was made -/
structure MadeF (h h' : Heap) (x C : Addr) (fld : Str) (v : Value) : Prop where
  keeps : ∀ b o, h.get? b = some o → h'.get? b = some o
  new : h.get? x = none
  there : ∃ (t dx : Addr) (vs : List Value) (hs : Int) (tk : Tok), h'.get? x = some { cls := .ref C, dict := some dx, data := .fields (excVals t) } ∧
    h.get? t = none ∧ h'.get? t = some { cls := .type "tuple", data := .seq vs.toArray } ∧ h.get? dx = none ∧ h'.get? dx = some (dictOf [⟨hs, .str fld tk, v⟩] 1)
section
variable {prog : Program} {w : World} {A : Around} {E : Value → Shared → Prop} {h : Heap} {g : Array GenState} {d : Drawn} {t : Nat} {os : OsState}
variable {K : Frag} {mg mb m : Str → Option Value} {C fI cc cda : Addr} {fld : Str}
end
end PySem.W
end
section
set_option Elab.async false
set_option linter.all false
set_option maxRecDepth 100000
namespace L2
open PySem PySem.Spec PyProof.Rows
/-- an exception at x, its class, its dict at dx -/
def ExcD (x C dx : Addr) (h : Heap) : Prop := ∃ o vs, h.get? x = some o ∧ o.cls = .ref C ∧ o.dict = some dx ∧ o.data = .fields vs
theorem ExcD.at {x C dx : Addr} {h : Heap} (p : ExcD x C dx h) : ExcAt x C h := let ⟨o, _, e, c, _⟩ := p; ⟨o, e, c⟩
section
variable {X : Cx} {pins : List (Addr × Obj)} {σ : List (Option V)} {H : Hp} {s : Shared} {h' : Heap}
theorem Inv.none_of (I : Inv X pins σ H s) {a : Addr} (e : s.heap.get? a = none) : H a = none := by
  cases q : H a with
  | none => rfl
  | some u =>
    obtain ⟨o, z⟩ := (I.hok a u q).there
    rw [e] at z
    cases z
end
/-! ### an exception made, not raised -/
end L2
end
section
set_option Elab.async false
set_option linter.all false
set_option maxRecDepth 100000
namespace L2
open PySem PySem.Spec PyProof.Rows
end L2
end
section
set_option Elab.async false
set_option linter.all false
set_option maxRecDepth 100000
namespace L2
open PySem PySem.Spec PyProof.Rows
section
variable {prog : Program} {w : World} {A : Around} {E : Value → Shared → Prop} {h : Heap} {g : Array GenState} {d : Drawn} {t : Nat} {os : OsState} {K : PySem.W.Frag} {x C : Addr} {ox : Obj} {od : Option Obj} {name : Str} {v : Value}
end
/-! ### the field of an exception -/
structure XFld (K : PySem.W.Frag) (C : Addr) (f : Str) : Prop where
  cls : XCls K C
  hd : PySem.W.hasDictIn K C = true
  no : PySem.W.findIn K (.ref C) f = some none
end L2
end
section
set_option Elab.async false
set_option linter.all false
set_option maxRecDepth 100000
namespace L2
open PySem PySem.Spec PyProof.Rows
/-! ### isinstance of an exception, however it is tracked -/
def IsExc (H : Hp) (a C : Addr) : Prop := ∃ φ, H a = some (.ext φ) ∧ ∀ h, φ h → ExcAt a C h
theorem IsExc.x {H : Hp} {a C : Addr} (e : H a = some (.ext (ExcAt a C))) : IsExc H a C := ⟨_, e, fun _ q => q⟩
theorem IsExc.d {H : Hp} {a C dx : Addr} (e : H a = some (.ext (ExcD a C dx))) : IsExc H a C := ⟨_, e, fun _ q => q.at⟩
def rIsy (K : PySem.W.Frag) : List V → Hp → VK → Prop := fun xs H Q => ∃ a C y b, xs = [.ref a, y] ∧ IsExc H a C ∧ XCls K C ∧ CAns K H (.ref C) y b ∧ Q (.bl b) H
theorem call_isy {X : Cx} : CallR X (.builtin "isinstance") (rIsy X.K) := by
  intro pins s σ H xs us Q I r h
  obtain ⟨a0, C, y, b, rfl, ⟨ψ, ea, hφ⟩, c, an, q⟩ := h
  cases r with
  | cons rx r' =>
    cases r' with
    | cons ry r'' =>
      cases r''
      obtain ⟨p, _, _⟩ := (show ObjOk X.prog X.w H s.heap a0 (.ext ψ) from I.hok a0 _ ea)
      have pφ := hφ _ p
      have kx := kitx_exc (x := a0) c
      cases rx
      have nb : Value.ref a0 ≠ .builtin "__main__.__loader__#opaque" := fun z => nomatch z
      rcases an with ⟨D, rfl, e⟩ | ⟨n, rfl, e⟩ | ⟨a, ds, rfl, ha, e⟩
      · cases ry
        exact PySem.W.kia_one kx I.kIn pφ e nb fun tk => ⟨.bl b, H, I.tok _, rfl, q⟩
      · cases ry
        exact PySem.W.kia_one kx I.kIn pφ e nb fun tk => ⟨.bl b, H, I.tok _, rfl, q⟩
      · cases ry
        obtain ⟨_, its, rv, o, h1, h2, n, h3⟩ := (show ObjOk X.prog X.w H s.heap a (.tup (List.map V.ref ds)) from I.hok a _ ha)
        have ei := vals_refs rv
        subst ei
        obtain ⟨oc, od, oda, osl⟩ := o
        dsimp only at h2 h3
        subst h2; subst h3
        exact PySem.W.kia_tup kx I.kIn pφ h1 e nb fun tk => ⟨.bl b, H, I.tok _, rfl, q⟩
theorem isy_one {K : PySem.W.Frag} {H : Hp} {Q : VK} {a C D : Addr} {b : Bool} (e : IsExc H a C) (c : XCls K C) (o : PySem.W.kitOne K (.ref C) (.ref D) = some b) (k : Q (.bl b) H) : rIsy K [.ref a, .ref D] H Q :=
  ⟨_, C, _, b, rfl, e, c, .inl ⟨D, rfl, o⟩, k⟩
theorem isy_ty {K : PySem.W.Frag} {H : Hp} {Q : VK} {a C : Addr} {n : String} {b : Bool} (e : IsExc H a C) (c : XCls K C) (o : PySem.W.kitOne K (.ref C) (.type n) = some b) (k : Q (.bl b) H) : rIsy K [.ref a, .ty n] H Q :=
  ⟨_, C, _, b, rfl, e, c, .inr (.inl ⟨n, rfl, o⟩), k⟩
end L2
end
section
set_option Elab.async false
set_option linter.all false
set_option maxRecDepth 100000
namespace L2
open PySem PySem.Spec PyProof.Rows
/-- what an exception keeps on its way: all but its fields from the second on -/
def KeptX (o o' : Obj) : Prop := o'.cls = o.cls ∧ o'.dict = o.dict ∧ ∀ vs, o.data = .fields vs → ∃ vs', o'.data = .fields vs' ∧ vs'[0]? = vs[0]? ∧ vs'.size = vs.size
theorem KeptX.refl (o : Obj) : KeptX o o := ⟨rfl, rfl, fun vs e => ⟨vs, e, rfl, rfl⟩⟩
theorem KeptX.trans {a b c : Obj} (x : KeptX a b) (y : KeptX b c) : KeptX a c := ⟨y.1.trans x.1, y.2.1.trans x.2.1, fun vs e => by
  obtain ⟨v1, e1, z1, s1⟩ := x.2.2 vs e
  obtain ⟨v2, e2, z2, s2⟩ := y.2.2 v1 e1
  exact ⟨v2, e2, z2.trans z1, s2.trans s1⟩⟩
theorem KeptX.map {o : Obj} {vs : Array Value} (e : o.data = .fields vs) {i : Nat} (hi : i ≠ 0) (x : Value) : KeptX o (Obj.mapFields (·.setIfInBounds i x) o) :=
  ⟨Obj.cls_mapFields _ _, by obtain ⟨oc, od, oda, osl⟩ := o; cases e; rfl, fun v q => by
    rw [e] at q
    cases q
    exact ⟨_, Obj.data_mapFields e _, by rw [Array.getElem?_setIfInBounds_ne hi], by simp⟩⟩
section
variable {M : Model} {A : Around} {E : Value → Shared → Prop} {s : Shared}
/-- the exception's own object on the way of one more record -/
theorem entry_kept {base : Heap} {env : Env} {outer : List Env} {L e : Addr} {oe : Obj} {vs : Array Value} {head : Value} {hadNext : Bool} {Q : Unit → Shared → Prop}
    (hfr : A.frames = some (env :: outer)) (hl : s.heap.FunFrames base (env :: outer)) (hf : env.frame = some L)
    (he : s.heap.get? e = some oe) (hkb : base.StaysIn s.heap) (hen : base.get? e = none) (hd : oe.data = .fields vs) (hsz : 1 < vs.size)
    (h : ∀ h' a0 o', vs[0]? = some a0 → Heap.NotedW base (env :: outer) e oe.cls a0 (rawInt L) s.heap h' → h'.get? e = some o' → KeptX oe o' → Q () { s with heap := h' }) :
    wpAny M A (do let a ← frameOf env; let pl ← entryPlaceOf L hadNext; let b ← EntryCells.newEntry head a .none (rawInt L) .none pl; setField (.ref e) 1 b) Q E s := by
  obtain ⟨a0, h0⟩ : ∃ a0, vs[0]? = some a0 := ⟨vs[0], Array.getElem?_eq_getElem (by omega)⟩
  have hene : e ∉ (env :: outer).filterMap (·.frame) := fun hm => by
    obtain ⟨_, o, ho, hnf⟩ := hl.mem hm
    rw [he] at ho
    cases ho
    exact hnf vs hd
  refine wpAny_bind (wpAny_frameOf_fun hfr hl hf fun h1 hs => wpAny_bind (wpAny_entryPlaceOf fun pl hpl => ?_))
  have e1 : h1.get? e = some oe := (hs.2.1 e hene).trans he
  have kb : base.StaysIn h1 := fun b o q => (hs.2.1 b fun hm => by rw [(hl.mem hm).1] at q; cases q).trans (hkb b o q)
  unfold EntryCells.newEntry newFields
  refine wpAny_bind (wpAny_newObj_type ?_ (hpl.sizeOk5 _ _ _ _ _))
  generalize htb : ({ cls := .type "traceback", dict := none, data := .fields ([head, .ref L, .none, rawInt L, .none] ++ (if pl.isEmpty then List.replicate 6 Value.none else pl)).toArray } : Obj) = tb
  have e2 := Heap.get?_push_of_some (h := h1) tb e1
  refine wpAny_setField e2 hd hsz ?_
  have hne : h1.objs.size ≠ e := Nat.ne_of_gt (Heap.lt_size e1)
  have d3 := Obj.data_mapFields hd (·.setIfInBounds 1 (Value.ref h1.objs.size))
  have e3 := Heap.get?_update_self (Obj.mapFields (·.setIfInBounds 1 (Value.ref h1.objs.size))) e2 (Obj.isFreed_of_fields d3)
  have tb3 : ((h1.push tb).update e (Obj.mapFields (·.setIfInBounds 1 (Value.ref h1.objs.size)))).get? h1.objs.size = some tb := by
    rw [Heap.get?_update_other _ _ (Ne.symm hne)]
    exact Heap.get?_push_at rfl (by rw [← htb]; rfl)
  have kp : ∀ b o, b ≠ e → h1.get? b = some o → ((h1.push tb).update e (Obj.mapFields (·.setIfInBounds 1 (Value.ref h1.objs.size)))).get? b = some o := fun b o n q => by
    rw [Heap.get?_update_other _ _ (Ne.symm n)]
    exact Heap.get?_push_of_some _ q
  have nr : ∀ b o, s.heap.get? b = some o → (∀ ws, o.data ≠ .fields ws) → b ≠ e := fun b o q n z => by
    rw [z, he] at q
    cases q
    exact n vs hd
  refine h _ a0 _ h0 ⟨fun b o q => kp b o (fun z => by rw [z, hen] at q; cases q) (kb b o q), hl.of_keeps fun b o q n => ?_, ?_, fun b o q n => ?_⟩ e3 (KeptX.map hd (by decide) _)
  · obtain ⟨sl, z⟩ := hs.2.2 b o q
    exact ⟨_, kp b _ (nr b o q n) z, rfl⟩
  · subst htb
    exact ⟨_, _, h1.objs.size, _, _, e3, ⟨Obj.cls_mapFields _ _, by rw [Array.getElem?_setIfInBounds_ne (by decide)]; exact h0⟩, d3, by simp [hsz], kb.fresh, hne, tb3, rfl, by simp⟩
  · obtain ⟨sl, z⟩ := hs.2.2 b o q
    exact ⟨sl, kp b _ (nr b o q n) z⟩
theorem note_first {base : Heap} {env : Env} {outer : List Env} {L e : Addr} {oe : Obj} {vs : Array Value} {Q : Unit → Shared → Prop}
    (hfr : A.frames = some (env :: outer)) (hl : s.heap.FunFrames base (env :: outer)) (hf : env.frame = some L)
    (he : s.heap.get? e = some oe) (hkb : base.StaysIn s.heap) (hen : base.get? e = none) (hd : oe.data = .fields vs) (h1 : vs[1]? = some .none)
    (h : ∀ h' a0 o', vs[0]? = some a0 → Heap.NotedW base (env :: outer) e oe.cls a0 (rawInt L) s.heap h' → h'.get? e = some o' → KeptX oe o' → Q () { s with heap := h' }) :
    wpAny M A (noteFrame (.ref e) env) Q E s := by
  unfold noteFrame
  simp only [hf]
  refine wpAny_bind (wpAny_field he hd h1 ?_)
  rw [if_neg (by decide)]
  exact entry_kept hfr hl hf he hkb hen hd (Array.getElem?_eq_some_iff.mp h1).1 h
theorem note_next {base : Heap} {env : Env} {outer : List Env} {L e T : Addr} {oe oT : Obj} {vs ts : Array Value} {Q : Unit → Shared → Prop}
    (hfr : A.frames = some (env :: outer)) (hl : s.heap.FunFrames base (env :: outer)) (hf : env.frame = some L)
    (he : s.heap.get? e = some oe) (hkb : base.StaysIn s.heap) (hen : base.get? e = none) (hd : oe.data = .fields vs) (h1 : vs[1]? = some (.ref T)) (hnT : base.get? T = none) (hTe : T ≠ e) (hT : s.heap.get? T = some oT) (hdT : oT.data = .fields ts) (h3 : ts[3]? = some .none)
    (h : ∀ h' a0 o', vs[0]? = some a0 → Heap.NotedW base (env :: outer) e oe.cls a0 (rawInt L) s.heap h' → h'.get? e = some o' → KeptX oe o' → Q () { s with heap := h' }) :
    wpAny M A (noteFrame (.ref e) env) Q E s := by
  unfold noteFrame
  simp only [hf]
  refine wpAny_bind (wpAny_field he hd h1 ?_)
  rw [if_pos (show (Value.ref T != Value.none) = true from by simp)]
  refine wpAny_bind (wpAny_field hT hdT h3 ?_)
  rw [if_neg (show ¬ ((Value.none == rawInt L) = true) from by simp [rawInt])]
  refine wpAny_bind (wpAny_setField hT hdT (Array.getElem?_eq_some_iff.mp h3).1 ?_)
  have ot : ∀ b, b ≠ T → (s.heap.update T (Obj.mapFields (·.setIfInBounds 3 Value.none))).get? b = s.heap.get? b := fun b hb => Heap.get?_update_other _ _ (Ne.symm hb)
  have nr : ∀ b o, s.heap.get? b = some o → (∀ ws, o.data ≠ .fields ws) → b ≠ T := fun b o q n z => by
    rw [z, hT] at q
    cases q
    exact n ts hdT
  refine entry_kept (s := { s with heap := s.heap.update T (Obj.mapFields (·.setIfInBounds 3 Value.none)) }) hfr (hl.of_keeps fun b o q n => ⟨o, (ot b (nr b o q n)).trans q, rfl⟩) hf ((ot e (Ne.symm hTe)).trans he)
    (fun b o q => (ot b fun z => by rw [z, hnT] at q; cases q).trans (hkb b o q)) hen hd (Array.getElem?_eq_some_iff.mp h1).1 fun h' a0 o' z0 N q k => h h' a0 o' z0 ⟨N.1, N.2.1, N.2.2.1, fun b o q n => N.2.2.2 b o ((ot b (nr b o q n)).trans q) n⟩ q k
theorem flight_kept {base : Heap} {l : List Env} {e : Addr} {oe : Obj} {cls a0 fl : Value} {Q : Unit → Shared → Prop} (hkb : base.StaysIn s.heap) (hl : s.heap.FunFrames base l) (ht : s.heap.TracedAtW base e cls a0 fl) (he : s.heap.get? e = some oe)
    (h : ∀ h', base.StaysIn h' → h'.FunFrames base l → h'.TracedW base e cls a0 → s.heap.UpToSlots h' → h'.get? e = some oe → Q () { s with heap := h' }) : wpAny M A (setFlight (.ref e) none) Q E s := by
  obtain ⟨o1, vs, T, oT, ts, e1, hc, hd, h1, hnT, hTe, hT, hdT, h3⟩ := ht
  have hz : 3 < ts.size := (Array.getElem?_eq_some_iff.mp h3).1
  unfold setFlight
  refine wpAny_bind (wpAny_field e1 hd h1 ?_)
  rw [if_pos (show (Value.ref T != Value.none) = true from by simp)]
  refine wpAny_setField hT hdT hz ?_
  have ot : ∀ b, b ≠ T → (s.heap.update T (Obj.mapFields (·.setIfInBounds 3 ((none : Option Addr).elim Value.none fun f => rawInt f)))).get? b = s.heap.get? b := fun b hb => Heap.get?_update_other _ _ (Ne.symm hb)
  have nr : ∀ b o, s.heap.get? b = some o → (∀ ws, o.data ≠ .fields ws) → b ≠ T := fun b o q n z => by
    rw [z, hT] at q
    cases q
    exact n ts hdT
  refine h _ (fun b o q => (ot b fun z => by rw [z, hnT] at q; cases q).trans (hkb b o q)) (hl.of_keeps fun b o q n => ⟨o, (ot b (nr b o q n)).trans q, rfl⟩) ?_ (fun b o q n => ⟨o.slots, (ot b (nr b o q n)).trans q⟩) ((ot e (Ne.symm hTe)).trans he)
  exact ⟨o1, vs, T, _, _, (ot e (Ne.symm hTe)).trans e1, hc, hd, h1, hnT, hTe, Heap.get?_update_self _ hT (Obj.isFreed_of_fields (Obj.data_mapFields hdT _)), Obj.data_mapFields hdT _, by simp [hz]⟩
end
end L2
end
section
set_option Elab.async false
set_option linter.all false
set_option maxRecDepth 100000
namespace L2
open PySem PySem.Spec PyProof.Rows
section
variable {M : Model} {A : Around} {E : Value → Shared → Prop} {s : Shared}
/-- an exception looked at on its way (its frame's record is laid): what it keeps -/
theorem looks_k {base : Heap} {env : Env} {outer : List Env} {L e : Addr} {oe : Obj} {cls a0 : Value} {Q : Unit → Shared → Prop}
    (hfr : A.frames = some (env :: outer)) (hf : env.frame = some L) (hfl : Heap.FlyingW base (env :: outer) e cls a0 s.heap) (he : s.heap.get? e = some oe)
    (hQ : ∀ h' o', Heap.HeldW base (env :: outer) e cls a0 L h' → s.heap.UpToSlots h' → h'.get? e = some o' → KeptX oe o' → Q () { s with heap := h' }) : wpAny M A (noteFrame (.ref e) env) Q E s := by
  obtain ⟨f1, f2, f3, o1, vs, T, oT, ts, e1, ⟨hc, z0⟩, hd, h1, hnT, hTe, hT, hdT, h3⟩ := hfl
  rw [he] at e1
  cases e1
  refine note_next hfr f3 hf he f1 f2 hd h1 hnT hTe hT hdT h3 fun h' a0' o' z N q k => ?_
  rw [z0] at z
  cases z
  rw [hc] at N
  exact hQ h' o' ⟨N.1, f2, N.2.1, N.2.2.1⟩ N.2.2.2 q k
theorem lands_k {base : Heap} {l : List Env} {e L : Addr} {oe : Obj} {cls a0 : Value} {Q : Unit → Shared → Prop} (hh : Heap.HeldW base l e cls a0 L s.heap) (he : s.heap.get? e = some oe)
    (hQ : ∀ h', Heap.FlyingW base l e cls a0 h' → s.heap.UpToSlots h' → h'.get? e = some oe → Q () { s with heap := h' }) : wpAny M A (setFlight (.ref e) none) Q E s := by
  obtain ⟨f1, f2, f3, f4⟩ := hh
  exact flight_kept f1 f3 f4 he fun h' k1 k2 k3 k4 k5 => hQ h' ⟨k1, f2, k2, k3⟩ k4 k5
/-- it leaves a frame on its way -/
theorem leaves_on_k {base : Heap} {env : Env} {outer : List Env} {L e : Addr} {oe : Obj} {cls a0 : Value} {Q : Unit → Shared → Prop}
    (hfr : A.frames = some (env :: outer)) (hf : env.frame = some L) (hfl : Heap.FlyingW base (env :: outer) e cls a0 s.heap) (he : s.heap.get? e = some oe)
    (hQ : ∀ h' o', Heap.FlyingW base outer e cls a0 h' → s.heap.UpToSlots h' → h'.get? e = some o' → KeptX oe o' → Q () { s with heap := h' }) : wpAny M A (leaving env (.ref e)) Q E s := by
  unfold leaving
  refine wpAny_bind (looks_k hfr hf hfl he fun h1 o1 hh up q k => ?_)
  refine lands_k (s := { s with heap := h1 }) hh q fun h2 fl up2 q2 => ?_
  obtain ⟨k1, k2, ⟨_, _, k3⟩, k4⟩ := fl
  exact hQ h2 o1 ⟨k1, k2, k3, k4⟩ (up.trans up2) q2 k
/-- it leaves the frame that made it -/
theorem leaves_made_k {base : Heap} {env : Env} {outer : List Env} {L e : Addr} {oe : Obj} {vs : Array Value} {a0 : Value} {Q : Unit → Shared → Prop}
    (hfr : A.frames = some (env :: outer)) (hl : s.heap.FunFrames base (env :: outer)) (hf : env.frame = some L)
    (he : s.heap.get? e = some oe) (hkb : base.StaysIn s.heap) (hen : base.get? e = none) (hd : oe.data = .fields vs) (h0 : vs[0]? = some a0) (h1 : vs[1]? = some .none)
    (hQ : ∀ h' o', Heap.FlyingW base outer e oe.cls a0 h' → s.heap.UpToSlots h' → h'.get? e = some o' → KeptX oe o' → Q () { s with heap := h' }) : wpAny M A (leaving env (.ref e)) Q E s := by
  unfold leaving
  refine wpAny_bind (note_first hfr hl hf he hkb hen hd h1 fun h1 a0' o1 z N q k => ?_)
  rw [h0] at z
  cases z
  refine lands_k (s := { s with heap := h1 }) (l := env :: outer) (L := L) ⟨N.1, hen, N.2.1, N.2.2.1⟩ q fun h2 fl up2 q2 => ?_
  obtain ⟨k1, k2, ⟨_, _, k3⟩, k4⟩ := fl
  exact hQ h2 o1 ⟨k1, k2, k3, k4⟩ (Heap.UpToSlots.trans N.2.2.2 up2) q2 k
end
end L2
end
section
set_option Elab.async false
set_option linter.all false
set_option maxRecDepth 100000
namespace L2
open PySem PySem.Spec PyProof.Rows
/-- how an exception is known, told of its object as it was made: φ stays while it flies -/
structure Knows (x : Addr) (o0 : Obj) (φ : Heap → Prop) : Prop where
  of : ∀ h o, h.get? x = some o → KeptX o0 o → φ h
  st : ∀ h1 h2 : Heap, φ h1 → (∀ o, h1.get? x = some o → h2.get? x = some o) → φ h2
theorem Knows.x {x C : Addr} {o0 : Obj} (c : o0.cls = .ref C) : Knows x o0 (ExcAt x C) :=
  ⟨fun h o e k => ⟨o, e, k.1.trans c⟩, fun h1 h2 ⟨o, e, q⟩ k => ⟨o, k o e, q⟩⟩
theorem Knows.d {x C dx : Addr} {o0 : Obj} {vs : Array Value} (c : o0.cls = .ref C) (d : o0.dict = some dx) (f : o0.data = .fields vs) : Knows x o0 (ExcD x C dx) :=
  ⟨fun h o e k => let ⟨vs', q, _⟩ := k.2.2 vs f; ⟨o, vs', e, k.1.trans c, k.2.1.trans d, q⟩, fun h1 h2 ⟨o, vs, e, q⟩ k => ⟨o, vs, k o e, q⟩⟩
/-- an exception in flight: what is wanted of it is said of the heap in which it has landed -/
def CX2 (P : Program) (w : World) : CXT := fun outer H s E e s' => ∃ x C H' o0 o φ, e = .ref x ∧ FlyAt P w outer H s H' x C s' ∧ s'.heap.get? x = some o ∧ KeptX o0 o ∧ Knows x o0 φ ∧ E (.ref C) (some x) (upd H' x (.ext φ))
section
variable {P : Program} {w : World} {K : PySem.W.Frag} {mg : Str → Option Value} {base : Heap} {N : List Str} {qual : Str} {scope : Scope} {f : Addr} {cdv : Value} {A : Around} {outer : List Env} {s : Shared} {H : Hp} {E : XK}
variable {pins : List (Addr × Obj)} {σ : St} {H1 : Hp} {s1 : Shared}
theorem passes2 {X : Cx} (hX : X = cxOf (CX2 P w) P w K mg base N qual scope f cdv A outer s H E) : Passes (CX2 P w) X E := by
  intro pins σ H1 s1 e s2 I h
  obtain ⟨x, C, H2, o0, o, φ, rfl, F, ho, ko, kn, hE⟩ := h
  have hfr : X.A.frames = some (X.env :: outer) := by rw [I.ok.frames, hX]; rfl
  have hf : X.env.frame = some X.env.locals := by rw [hX]; rfl
  have hst : X.stack = X.env :: outer := by rw [hX]; rfl
  obtain ⟨t, vs, B, fl, ht, hBt, trk, old, here⟩ := F.fly
  have I2 : Inv X pins σ H2 s2 := I.call' F.os F.un (by rw [hX]; exact F.hok) F.bare (fun b z => absurd z (by simp))
  rw [hst] at fl old here
  have goal : wpAny (model P w) X.A (leaving X.env (.ref x)) (fun _ s'' => CX2 P w outer H s E (.ref x) s'') (fun e' s'' => CX2 P w outer H s E e' s'') s2 := by
    refine leaves_on_k hfr hf fl ho fun h' o' x1 x2 q k => ?_
    refine ⟨x, C, H2, o0, o', φ, rfl, fly_out hX I2 rfl F.bare rfl x1 (ht.of_slots x2) hBt x2 F.free trk (fun b o e n hb => ?_) (fun b o e hb => ?_), q, ko.trans k, kn, hE⟩
    · refine old b o ?_ ?_ (not_frame hX I e hb)
      · subst hX
        exact I.base.keep b o e n hb (by intro z; cases z)
      · subst hX
        exact I.base.free b o e n (by intro z; cases z)
    · obtain ⟨o1, h1⟩ : ∃ o1, s1.heap.get? b = some o1 := by
        subst hX
        exact I.base.there b o e (by intro z; cases z)
      exact here b o1 h1 (not_frame hX I e hb)
  rw [hX] at goal ⊢
  exact goal
/-- a def that raises: the exception stands in the heap already, untracked -/
theorem fly_made2 {X : Cx} (hX : X = cxOf (CX2 P w) P w K mg base N qual scope f cdv A outer s H E) (I : Inv X pins σ H1 s1) {x C t : Addr} {oe : Obj} {vs : Array Value} {us : List Value} {φ : Heap → Prop}
    (hx : s1.heap.get? x = some oe) (hc : oe.cls = .ref C) (hd : oe.data = .fields vs) (h0 : vs[0]? = some (.ref t)) (h1 : vs[1]? = some .none) (ht : s1.heap.TupAt t us)
    (nx : s.heap.get? x = none) (nt : s.heap.get? t = none) (fx : H1 x = none) (ft : H1 t = none) (kn : Knows x oe φ) (hE : E (.ref C) (some x) (upd H1 x (.ext φ))) : X.xe (.ref x) s1 := by
  have hfr : X.A.frames = some (X.env :: outer) := by rw [I.ok.frames, hX]; rfl
  have hf : X.env.frame = some X.env.locals := by rw [hX]; rfl
  have hst : X.stack = X.env :: outer := by rw [hX]; rfl
  have ff := I.stack
  have fre := I.stkFree
  rw [hst] at ff fre
  have hin : ∀ env ∈ (X.env :: outer), ∀ b, env.frame = some b → b ∈ x :: t :: (X.env :: outer).filterMap (·.frame) := fun env he b hb => .tail _ (.tail _ (List.mem_filterMap.mpr ⟨env, he, hb⟩))
  have goal : wpAny (model P w) X.A (leaving X.env (.ref x)) (fun _ s'' => CX2 P w outer H s E (.ref x) s'') (fun e' s'' => CX2 P w outer H s E e' s'') s1 := by
    refine leaves_made_k (base := PySem.W.hideAll s1.heap (x :: t :: (X.env :: outer).filterMap (·.frame))) hfr (PySem.W.funFrames_hide ff hin) hf hx (fun b o q => PySem.W.of_hideAll _ q) (PySem.W.hideAll_none _ (.head _)) hd h0 h1 fun h2 o2 x1 x4 q k => ?_
    rw [hc] at x1
    refine ⟨x, C, H1, oe, o2, φ, rfl, fly_out hX I rfl I.bare rfl x1 (ht.of_slots x4) (PySem.W.hideAll_none _ (.tail _ (.head _))) x4 fx (fun b u o e q => PySem.W.hideAll_get _ q fun hm => ?_) (fun b o e n hb => ?_) (fun b o e hb => ?_), q, k, kn, hE⟩
    · rcases List.mem_cons.mp hm with rfl | hm
      · rw [fx] at e; cases e
      rcases List.mem_cons.mp hm with rfl | hm
      · rw [ft] at e; cases e
      have := fre b hm
      rw [e] at this
      cases this
    · refine PySem.W.hideAll_get _ ?_ fun hm => ?_
      · subst hX
        exact I.base.keep b o e n hb (by intro z; cases z)
      · rcases List.mem_cons.mp hm with rfl | hm
        · rw [nx] at e; cases e
        rcases List.mem_cons.mp hm with rfl | hm
        · rw [nt] at e; cases e
        exact not_frame hX I e hb hm
    · obtain ⟨o1, h1⟩ : ∃ o1, s1.heap.get? b = some o1 := by
        subst hX
        exact I.base.there b o e (by intro z; cases z)
      refine ⟨o1, PySem.W.hideAll_get _ h1 fun hm => ?_⟩
      rcases List.mem_cons.mp hm with rfl | hm
      · rw [nx] at e; cases e
      rcases List.mem_cons.mp hm with rfl | hm
      · rw [nt] at e; cases e
      exact not_frame hX I e hb hm
  rw [hX] at goal ⊢
  exact goal
end
end L2
end
section
set_option Elab.async false
set_option linter.all false
set_option maxRecDepth 100000
namespace PySem
section
variable {M : Model} {A : Around} {E : Value → Shared → Prop} {env : Env}
variable {nm q : Str} {C N : Addr} {bs bm bmB : List Value} {hdct : Bool} {sn : List Str} {sub : List Value} {ab : Bool} {col : Option Bool} {dd : Option Addr} {k0 k1 k2 k3 k5 : Option Value} {newId : String}
end
end PySem
namespace L2
open PySem PySem.Spec PyProof.Rows
section
variable {P : Program} {w : World} {K : PySem.W.Frag} {mg : Str → Option Value} {base : Heap} {N : List Str} {qual : Str} {scope : Scope} {f : Addr} {cdv : Value} {A : Around} {outer : List Env} {s : Shared} {H : Hp} {E : XK}
/-- what is new in this frame's heap is new to its caller -/
theorem new_here {X : Cx} {CX : CXT} (hX : X = cxOf CX P w K mg base N qual scope f cdv A outer s H E) {pins : List (Addr × Obj)} {σ : St} {H1 : Hp} {s1 : Shared} (I : Inv X pins σ H1 s1) {a : Addr} (n : s1.heap.get? a = none) : s.heap.get? a = none := by
  cases q : s.heap.get? a with
  | none => rfl
  | some o =>
    obtain ⟨o', e⟩ : ∃ o', s1.heap.get? a = some o' := by
      subst hX
      exact I.base.there a o q (by intro z; cases z)
    rw [n] at e
    cases e
def tRaise2 (te : TE) (E : XK) (C : Addr) : TS := fun _ σ H => tCons te tNil σ H fun us H1 => us.length = 1 ∧ ∀ x, H1 x = none → E (.ref C) (some x) (upd H1 x (.ext (ExcAt x C)))
theorem ps_raise2 {X : Cx} (hX : X = cxOf (CX2 P w) P w K mg base N qual scope f cdv A outer s H E) {nm : Str} {C : Addr} {np cpos pos : Pos} {e : Expr} {te : TE} (O : OwnCls nm C bmV newV mg base) (hg : Gl X nm) (ha : PE X e te) (hn : notStar e = true) (hd : (nm == ("__debug__" : Str)) = false := by decide) :
    PS X (.Raise (some (.Call (.Name nm np) [e] [] cpos)) none pos) (tRaise2 te E C) := by
  intro pins s1 σ1 H1 D I h
  have hmg : X.mg nm = some (.ref C) := by rw [hX]; exact O.bound
  have hbase : ∀ b o, base.get? b = some o → X.base.get? b = some o := fun b o q => by rw [hX]; exact q
  obtain ⟨tl, N', nm', q, bs, hdct, sn, sub, ab, col, dd, k0, k1, k2, k3, k5, mN, hC, hN, hni, T⟩ := O.obj
  refine wpAny_Raise_call_subT (C := C) (nm := nm') (q := q) (N := N') (bs := bs) (bm := tl) (hdct := hdct) (sn := sn) (sub := sub) (ab := ab) (col := col) (dd := dd) (k0 := k0) (k1 := k1) (k2 := k2) (k3 := k3) (k5 := k5)
    PySem.F.excBase_ValueError (mN := mN) (T.hasType PySem.F.excBase_ValueError.hasBase) (I.ok.hd (by rw [hX]; rfl)) (se_any (by simp [hn])) hni (ld_glob I hg hmg ⟨rfl, ?_⟩ hd)
  have hp : PA X [e] (tCons te tNil) := pa_c ha pa_nil hn
  have hq := hp cpos pins s1 σ1 H1 (fun us H2 => us.length = 1 ∧ ∀ x, H2 x = none → E (.ref C) (some x) (upd H2 x (.ext (ExcAt x C)))) I h
  have es : starEach [e] X.env = (false, eval e X.env) :: starEach [] X.env := se_of hn
  rw [es] at hq ⊢
  refine Calls.evalArgs_plain (wpAny_mono hq (fun vs s2 h2 => ?_) fun _ _ y => y)
  obtain ⟨us, H2, I2, r2, hus, q2⟩ := h2
  have k2' : ∀ b o, base.get? b = some o → s2.heap.get? b = some o := fun b o z => I2.bk b o (hbase b o z)
  have hl : vs.length = 1 := r2.length.symm.trans hus
  refine ⟨rfl, by rw [hl]; decide, k2' _ _ hC, hN.keeps k2', T.keeps k2', fun h' x mk => ?_⟩
  obtain ⟨t, a1, a2, a3⟩ := mk.there
  have I3 : Inv X pins σ1 H2 { s2 with heap := h' } := I2.kept (t' := s2.toks) mk.keeps
  exact fly_made2 hX I3 a1 rfl rfl rfl rfl ⟨_, _, a3, rfl, rfl⟩ (new_here hX I2 mk.new) (new_here hX I2 a2) (I2.none_of mk.new) (I2.none_of a2) (Knows.x rfl) (q2 x (I2.none_of mk.new))
def tRaiseF (te : TE) (E : XK) (C : Addr) (fld : Str) : TS := fun _ σ H => te σ H fun v H1 => ∀ x dx, H1 x = none → H1 dx = none → dx ≠ x → E (.ref C) (some x) (upd (upd H1 dx (.xd [(fld, v)])) x (.ext (ExcD x C dx)))
end
end L2
end
section
set_option Elab.async false
set_option linter.all false
set_option maxRecDepth 100000
namespace L2
open PySem PySem.Spec PyProof.Rows
/-! ### defs from which an exception with a field may come -/
structure Cal2 (P : Program) (w : World) (K : PySem.W.Frag) (mg : Str → Option Value) (base : Heap) (k : Nat) (x : Str) (ps : List Str) (sp : Sp) : Prop where
  ex : ∃ f fd, FnOk P w K mg base (CX2 P w) k f fd ps sp ∧ mg x = some (.ref f) ∧ PySem.W.keepIn K (.ref f) = true ∧ Binds K fd ps []
section
variable {P : Program} {w : World} {K : PySem.W.Frag} {mg : Str → Option Value} {base : Heap}
theorem cal2_ofW {x qual : Str} {st : Stmt} {f : Addr} {fd : FuncData} {N ps : List Str} {k : Nat} {sp : Sp} (F : Fun K x qual st f fd) (S : FnScope N ps (defScope st)) (m : mg x = some (.ref f)) (b : Binds K fd ps [])
    (len : ∀ vs H Q E, sp vs H Q E → vs.length = ps.length)
    (hbody : ∀ (cdv : Value) (A : Around) (outer : List Env) (s : Shared) (H : Hp) (vs : List V) (Q : VK) (E : XK), Room k (A.deeper (envOfC qual (defScope st) s.heap.objs.size f cdv)) → sp vs H Q E →
      ∃ t, WSs (cxOf (CX2 P w) P w K mg base N qual (defScope st) f cdv A outer s H E) (defBody st) t ∧ t { nx := fun _ H' => Q .non H', rt := Q } (start N vs) H) : Cal2 P w K mg base (k + 1) x ps sp := by
  have F' := F
  obtain ⟨oc, od, kV, doc, pm, an, cdv, ct, osl, rfl, lk, hcd⟩ := F.ex
  exact ⟨f, _, fn_of lk hcd S len (fun A outer s H vs Q E hr hsp => let ⟨t, h1, h2⟩ := hbody cdv A outer s H vs Q E hr hsp; ⟨t, h1.h, h2⟩), m, F'.kp, b⟩
end
section
variable {P : Program} {w : World} {K : PySem.W.Frag} {mg : Str → Option Value} {base : Heap} {N : List Str} {qual : Str} {scope : Scope} {f : Addr} {cdv : Value} {A : Around} {outer : List Env} {s : Shared} {H : Hp} {E : XK}
theorem pe_callP2 {k j : Nat} {x : Str} {ps : List Str} {sp : Sp} {p pos : Pos} {e : Expr} {es : List Expr} {t : TA} (C : Cal2 P w K mg base k x ps sp)
    (hr : Room j (A.deeper (envOfC qual scope s.heap.objs.size f cdv))) (hj : k ≤ j) (hg : Gl (cxOf (CX2 P w) P w K mg base N qual scope f cdv A outer s H E) x)
    (ha : PA (cxOf (CX2 P w) P w K mg base N qual scope f cdv A outer s H E) (e :: es) t) (hdb : (x == ("__debug__" : Str)) = false := by decide)
    (he : starEach (e :: es) (envOfC qual scope s.heap.objs.size f cdv) = (false, eval e (envOfC qual scope s.heap.objs.size f cdv)) :: starEach es (envOfC qual scope s.heap.objs.size f cdv) := by rfl)
    (hpl : (backTo pos (starEach es (envOfC qual scope s.heap.objs.size f cdv))).any (·.1) = false := by rfl) :
    PE (cxOf (CX2 P w) P w K mg base N qual scope f cdv A outer s H E) (.Call (.Name x p) (e :: es) [] pos) (tCall sp [] E t) := by
  obtain ⟨f', fd, F, m, k, b⟩ := C.ex
  exact pe_call F (hr.mono hj) hg m k b .nil (passes2 rfl) ha hdb he hpl
theorem ws_raise2 {nm : Str} {C : Addr} {np cpos pos : Pos} {e : Expr} {te : TE} (O : OwnCls nm C bmV newV mg base) (hg : Gl (cxOf (CX2 P w) P w K mg base N qual scope f cdv A outer s H E) nm)
    (ha : PE (cxOf (CX2 P w) P w K mg base N qual scope f cdv A outer s H E) e te) (hn : notStar e = true) (hd : (nm == ("__debug__" : Str)) = false := by decide) :
    WS (cxOf (CX2 P w) P w K mg base N qual scope f cdv A outer s H E) (.Raise (some (.Call (.Name nm np) [e] [] cpos)) none pos) (tRaise2 te E C) := ⟨ps_raise2 rfl O hg ha hn hd⟩
end
/-! ### try -/
def Flown2 (X : Cx) (pins : List (Addr × Obj)) (Eσ : St → XK) (e : Value) (s' : Shared) : Prop :=
  ∃ ps σ H1 s1, Inv (X.pinned pins) ps σ H1 s1 ∧ CX2 X.prog X.w X.stack H1 s1 (Eσ σ) e s'
abbrev tryX2 (X : Cx) (pins : List (Addr × Obj)) (Eσ : St → XK) : Cx := (X.pinned pins).wish (Flown2 X pins Eσ)
section
variable {X : Cx} {pins : List (Addr × Obj)} {Eσ : St → XK}
end
theorem Inv.retrack {X : Cx} {pins : List (Addr × Obj)} {σ : St} {H : Hp} {s : Shared} {x : Addr} {ψ φ : Heap → Prop} (I : Inv X pins σ (upd H x (.ext ψ)) s) (q : φ s.heap) (st : ∀ h1 h2 : Heap, φ h1 → (∀ o, h1.get? x = some o → h2.get? x = some o) → φ h2) : Inv X pins σ (upd H x (.ext φ)) s := by
  have up : ∀ c z, c ≠ x → upd H x (.ext ψ) c = some z → upd H x (.ext φ) c = some z := fun c z n e => by rw [upd_ne n] at e ⊢; exact e
  have nt : ∀ c z, upd H x (.ext ψ) c = some z → (∀ θ, z ≠ .ext θ) → c ≠ x := fun c z e n w => by
    subst w
    rw [upd_same] at e
    cases e
    exact n ψ rfl
  obtain ⟨_, hx, _⟩ := (show ObjOk X.prog X.w (upd H x (.ext ψ)) s.heap x (.ext ψ) from I.hok x _ upd_same)
  refine I.un (h' := s.heap) (t' := s.toks) ⟨fun c z e _ _ _ => e, fun c z e _ _ _ => ⟨z.slots, e⟩, fun c z e n _ => ?_, fun c z e _ => ⟨z, e⟩, fun c xs e => up c _ (nt c _ e fun θ w => nomatch w) e, fun c z xs e => up c _ (nt c _ e fun θ w => nomatch w) e, fun c xs e => ⟨#[], by rw [up c _ (nt c _ e fun θ w => nomatch w) e]; simp⟩⟩ ?_
  · have hc : c ≠ x := fun w => by subst w; rw [upd_same] at n; cases n
    rw [upd_ne hc] at n ⊢
    exact n
  · intro c z e
    by_cases hc : c = x
    · subst hc
      rw [upd_same] at e
      cases e
      exact ⟨q, hx, st⟩
    · have e' := e
      rw [upd_ne hc] at e'
      exact (I.hok c z (by rw [upd_ne hc]; exact e')).stay (fun b' o' _ q => q) (fun b' q => up b' _ (nt b' _ q fun θ w => nomatch w) q) fun b' xs q => up b' _ (nt b' _ q fun θ w => nomatch w) q
end L2
end
section
set_option Elab.async false
set_option linter.all false
set_option maxRecDepth 100000
namespace L2
open PySem PySem.Spec PyProof.Rows
/-- try .. except S as n: the handler's heap is the one that the wish of the exception speaks of -/
def tTry2 (K : PySem.W.Frag) (S : Addr) (i : Nat) (tb : (St → XK) → TS) (th : TS) : TS := fun D σ H =>
  tb (fun σ' Cv ox H' => ∃ C x, Cv = .ref C ∧ ox = some x ∧ PySem.W.mroIn K C (.ref S) = some true ∧ th { nx := fun σ2 H2 => D.nx (σ2.set i none) H2, rt := D.rt } (σ'.set i (some (.ref x))) H') D σ H
section
variable {X : Cx} {nm n : Str} {S : Addr} {i : Nat} {body : List Stmt} {b0 : Stmt} {suite : List Stmt} {np hp pos : Pos} {tb : (St → XK) → TS} {th : TS}
theorem lands_again_k {M : Model} {A : Around} {E : Value → Shared → Prop} {s : Shared} {base : Heap} {l : List Env} {e : Addr} {oe : Obj} {cls a0 : Value} {Q : Unit → Shared → Prop} (hh : Heap.FlyingW base l e cls a0 s.heap) (he : s.heap.get? e = some oe)
    (hQ : ∀ h', Heap.FlyingW base l e cls a0 h' → s.heap.UpToSlots h' → h'.get? e = some oe → Q () { s with heap := h' }) : wpAny M A (setFlight (.ref e) none) Q E s := by
  obtain ⟨f1, f2, f3, f4⟩ := hh
  exact flight_kept f1 f3 f4.at he fun h' k1 k2 k3 k4 k5 => hQ h' ⟨k1, f2, k2, k3⟩ k4 k5
theorem ps_tryAs2 (hst : X.stack = X.env :: X.outer) (hfr : X.env.frame = some X.env.locals) (hm : X.mg nm = some (.ref S)) (hS : XHnd X.K S) (hg : Gl X nm) (hN : X.N.Nodup) (hi : X.N[i]? = some n) (hl : X.env.scope.names.lookup n = some .local)
    (hb : ∀ pins Eσ, PSs (tryX2 X pins Eσ) body (tb Eσ)) (hh : ∀ e, PSs (markX X e) (b0 :: suite) th) (hd : (nm == ("__debug__" : Str)) = false := by decide) :
    PS X (.Try body [.ExceptHandler (some (.Name nm np)) (some n) (b0 :: suite) hp] [] [] pos) (tTry2 X.K S i tb th) := by
  intro pins s σ H D I h
  refine wpAny_Try_except ?_
  refine wpAny_mono (hb pins _ [] s σ H D (I.pnd.wish _) h) (fun f s1 q => ?_) (fun e s1 q => ?_)
  · have q := SP.unpnd q
    cases f with
    | next => exact wpAny_execs_nil q
    | ret v => exact q
    | brk => exact q
    | cont => exact q
  · obtain ⟨ps, σ1, H1, s0, I1, x, C, H2, o0, o, φ, rfl, F, ho, ko, kn, C', x', eC, ex, hsub, q⟩ := q
    cases eC
    cases ex
    have I0 := I1.unpnd
    obtain ⟨t, vs, B, fl, ht, hBt, trk, old, here⟩ := F.fly
    have fl' := fl
    rw [hst] at fl'
    refine looks_k (by rw [I.ok.frames, hst]) hfr fl' ho fun h4 o4 held4 sm4 q4 k4 => ?_
    refine lands_k held4 q4 fun h5 fl5 sm5 q5 => ?_
    rw [← hst] at fl5
    have I5 := land I0 F fl5 (sm4.trans sm5) trk old here
    refine wpAny_handleBy_cons (codeAny_handlers_test (ld_glob (X := markX X x) (I5.mark x) hg hm ?_ hd)) (by intro z; cases z)
    refine excMatches_K I5.kIn fl5.there hS hsub ?_
    refine codeAny_handlers_suite_as ?_
    refine lands_again_k fl5 q5 fun h6 fl6 sm6 q6 => ?_
    have I6 := land I0 F fl6 ((sm4.trans sm5).trans sm6) trk old here
    have I7 := I6.retrack (φ := φ) (kn.of h6 o4 q6 (ko.trans k4)) kn.st
    refine store_ok (X := markX X x) (I7.mark x) hN hi (.inl hl) (v := .ref x) rfl (fun s7 I8 => ?_) (.inr hl)
    refine wpAny_mono (hh x pins s7 _ _ _ I8 q) (fun f s8 q8 => ?_) (fun _ _ z => z.elim)
    cases f with
    | next =>
      obtain ⟨σ', H', J, z⟩ := q8
      exact taken_back (J.unmark I.ok) hN hi hl fun s' J' => ⟨_, _, J', z⟩
    | ret v =>
      obtain ⟨v', σ', H', J, r, z⟩ := q8
      exact taken_back (J.unmark I.ok) hN hi hl fun s' J' => ⟨v', _, _, J', r, z⟩
    | brk =>
      obtain ⟨_, _, _, z⟩ := q8
      exact z.elim
    | cont =>
      obtain ⟨_, _, _, z⟩ := q8
      exact z.elim
end
theorem ws_try2 {X : Cx} {nm n : Str} {S : Addr} {i : Nat} {body : List Stmt} {b0 : Stmt} {suite : List Stmt} {np hp pos : Pos} {tb : (St → XK) → TS} {th : TS} (hst : X.stack = X.env :: X.outer) (hfr : X.env.frame = some X.env.locals) (hm : X.mg nm = some (.ref S)) (hS : XHnd X.K S) (hg : Gl X nm) (hN : X.N.Nodup) (hi : X.N[i]? = some n) (hl : X.env.scope.names.lookup n = some .local)
    (hb : ∀ pins Eσ, WSs (tryX2 X pins Eσ) body (tb Eσ)) (hh : ∀ e, WSs (markX X e) (b0 :: suite) th) (hd : (nm == ("__debug__" : Str)) = false := by decide) :
    WS X (.Try body [.ExceptHandler (some (.Name nm np)) (some n) (b0 :: suite) hp] [] [] pos) (tTry2 X.K S i tb th) := ⟨ps_tryAs2 hst hfr hm hS hg hN hi hl (fun p e => (hb p e).h) (fun e => (hh e).h) hd⟩
end L2
end
section
set_option Elab.async false
set_option linter.all false
set_option maxRecDepth 100000
namespace L2
open PySem PySem.Spec PyProof.Rows
/-! ### facts about classes by one computation -/
def xclsB (K : PySem.W.Frag) (D : Addr) : Bool :=
  (PySem.W.findIn K (.ref D) "__getattribute__" == some (some (.builtin "BaseException.__getattribute__"))) && (PySem.W.findIn K (.ref D) "__getattr__" == some none) &&
  (PySem.W.findIn K (.ref D) "__class__" == some (some (.builtin "object.__class__"))) && (PySem.W.mroIn K D (.type "BaseException") == some true) && (PySem.W.mroIn K D (.type "object") == some true)
theorem xcls_of {K : PySem.W.Frag} {D : Addr} (h : xclsB K D = true) : XCls K D := by
  unfold xclsB at h
  simp only [Bool.and_eq_true, beq_iff_eq] at h
  obtain ⟨⟨⟨⟨h1, h2⟩, h3⟩, h4⟩, h5⟩ := h
  exact ⟨h1, h2, h3, h4, h5⟩
def tabB (K : PySem.W.Frag) (cs : List Addr) : Bool := (List.range cs.length).all fun i => (List.range cs.length).all fun j => PySem.W.kitOne K (.ref (cs.getD i 0)) (.ref (cs.getD j 0)) == some (i == j)
theorem tab_ofB {K : PySem.W.Frag} {cs : List Addr} (h : tabB K cs = true) (i j : Nat) (C D : Addr) (hi : cs[i]? = some C) (hj : cs[j]? = some D) : PySem.W.kitOne K (.ref C) (.ref D) = some (i == j) := by
  unfold tabB at h
  have li := (List.getElem?_eq_some_iff.mp hi).1
  have lj := (List.getElem?_eq_some_iff.mp hj).1
  have h1 := List.all_eq_true.mp (List.all_eq_true.mp h i (List.mem_range.mpr li)) j (List.mem_range.mpr lj)
  rw [List.getD_eq_getElem?_getD, List.getD_eq_getElem?_getD, hi, hj, beq_iff_eq] at h1
  exact h1
def kitAllB (K : PySem.W.Frag) (cs : List Addr) (t : Value) : Bool := cs.all fun C => PySem.W.kitOne K (.ref C) t == some true
theorem kitAll_of {K : PySem.W.Frag} {cs : List Addr} {t : Value} (h : kitAllB K cs t = true) {C : Addr} {i : Nat} (hi : cs[i]? = some C) : PySem.W.kitOne K (.ref C) t = some true := by
  have := List.all_eq_true.mp h C (List.mem_of_getElem? hi)
  rwa [beq_iff_eq] at this
theorem xclsAll_of {K : PySem.W.Frag} {cs : List Addr} (h : cs.all (xclsB K) = true) {C : Addr} {i : Nat} (hi : cs[i]? = some C) : XCls K C := xcls_of (List.all_eq_true.mp h C (List.mem_of_getElem? hi))
end L2
namespace PySem.W
open PySem PySem.Calls PyProof.Rows Builtin Builtin.ObjectAttr L2
end PySem.W
end
section
set_option Elab.async false
set_option linter.all false
set_option maxRecDepth 100000
namespace L2
open PySem PySem.Spec PyProof.Rows
theorem cp10_21 : CPow 10 21 ↔ True := ⟨fun _ => trivial, fun _ => by refine ⟨?_, ?_, ?_⟩ <;> decide⟩
theorem cp10_16 : CPow 10 16 ↔ True := ⟨fun _ => trivial, fun _ => by refine ⟨?_, ?_, ?_⟩ <;> decide⟩
/-! ### xs.count(y), flat items -/
section
variable {X : Cx}
def rCountL (K : PySem.W.Frag) : V → List V → Hp → VK → Prop := fun x xs H Q => ∃ (a : Addr) (ys : List V) (y : V), x = V.ref a ∧ xs = [y] ∧ SqL K H a ys ∧ flatV y = true ∧ ys.all flatV = true ∧ Q (.int (ys.countP (fun z => eqV z y) : Nat)) H
theorem countP_rel {y : V} : ∀ {xs : List V} {us : List Value}, Vals xs us → xs.all flatV = true → us.countP (eqU y) = xs.countP (fun z => eqV z y)
  | _, _, .nil, _ => rfl
  | x :: xs, u :: us, .cons r t, f => by
    rw [List.all_cons, Bool.and_eq_true] at f
    rw [List.countP_cons, List.countP_cons, countP_rel t f.2, eqU_of r f.1]
theorem mt_countL : MtR X "list.count" (rCountL X.K) := by
  intro pins s σ H x xs v us Q I rx rxs h
  obtain ⟨a, ys, y, rfl, rfl, hs, fy, fys, q⟩ := h
  cases rx
  cases rxs with
  | cons ry rt =>
    rename_i uy ut
    cases rt
    obtain ⟨its, rv, ⟨⟨cls, dd, data, sl⟩, n, ho, hc, hdn, hd⟩, hlen⟩ := I.list hs
    simp only at hc hd
    subst hc hd
    refine call_meets PySem.F.slot_list_count ⟨_, ho, rfl⟩ PySem.F.entry_list_count (PySem.F.args_list_count_2 _ _)
      (SeqAt.list_countAt a its.toArray n dd sl uy (eqU y)) ⟨ho, fun u' hu' => mem_eqAt ry fy rv fys u' (by simpa using hu'), ?_⟩
    rw [show its.toArray.toList = its from rfl, countP_rel rv fys]
    exact ⟨.int (ys.countP (fun z => eqV z y) : Nat), H, I.tok _, ⟨_, rfl⟩, q⟩
end
/-! ### a function that stands in a variable, called in a try -/
structure CalF (P : Program) (w : World) (K : PySem.W.Frag) (mg : Str → Option Value) (base : Heap) (k : Nat) (f : Addr) (ps : List Str) (sp : Sp) : Prop where
  ex : ∃ fd, FnOk P w K mg base (CX2 P w) k f fd ps sp ∧ PySem.W.keepIn K (.ref f) = true ∧ Binds K fd ps []
theorem calF_of {P : Program} {w : World} {K : PySem.W.Frag} {mg : Str → Option Value} {base : Heap} {k : Nat} {x : Str} {f : Addr} {ps : List Str} {sp : Sp} (C : Cal2 P w K mg base k x ps sp) (m : mg x = some (.ref f)) : CalF P w K mg base k f ps sp := by
  obtain ⟨f', fd, F, m', kp, b⟩ := C.ex
  rw [m] at m'
  cases m'
  exact ⟨fd, F, kp, b⟩
def tCallV (P : Program) (w : World) (K : PySem.W.Frag) (mg : Str → Option Value) (base : Heap) (j i : Nat) (Eσ : St → XK) (t : TA) : TE := fun σ H Q => ∃ f k ps sp, σ[i]? = some (some (.ref f)) ∧ CalF P w K mg base k f ps sp ∧ k ≤ j ∧ t σ H fun vs H1 => sp vs H1 Q (Eσ σ)
section
variable {X : Cx} {pins : List (Addr × Obj)} {Eσ : St → XK}
theorem pe_callTV {j i : Nat} {x : Str} {p pos : Pos} {e : Expr} {es : List Expr} {t : TA} (hN : X.N[i]? = some x) (hv : Vis X.env.scope x)
    (hr : Room j X.A) (ha : PA (tryX2 X pins Eσ) (e :: es) t) (hdb : (x == ("__debug__" : Str)) = false := by decide) (hcd : (x == ("__classdict__" : Str)) = false := by decide)
    (he : starEach (e :: es) X.env = (false, eval e X.env) :: starEach es X.env := by rfl) (hpl : (backTo pos (starEach es X.env)).any (·.1) = false := by rfl) :
    PE (tryX2 X pins Eσ) (.Call (.Name x p) (e :: es) [] pos) (tCallV X.prog X.w X.K X.mg X.base j i Eσ t) := by
  intro pins2 s0 σ H Q I0 ⟨f, k, ps, sp, ef, C, hj, h⟩
  obtain ⟨fd, F, kp, b⟩ := C.ex
  have hvar : PE (tryX2 X pins Eσ) (.Name x p) (tVar i) := pe_var hN hv hdb hcd
  refine wpAny_Call_Name_kw (thn (hvar pins2 s0 σ H (fun v H1 => v = .ref f ∧ H1 = H) I0 ⟨_, ef, rfl, rfl⟩) fun u s ⟨v, H1, I, rv, ev, eH⟩ => ?_)
  subst ev eH
  obtain rfl : u = Value.ref f := rv
  refine PySem.W.callWith_K (h₀ := X.base) I.ok.mod.kin kp (thn (ha pos pins2 s σ _ _ I h) fun us s1 ⟨vs, H1, I1, r, q⟩ => ⟨I1.kIn, ?_⟩) he hpl
  have hl : us.length = ps.length := by rw [← r.length]; exact F.len _ _ _ _ q
  have hb := b s1 us I1.kIn (by rw [List.append_nil]; exact hl)
  rw [List.append_nil] at hb
  refine wpAny_call (codeAny_mono (F.run X.A X.stack s1 H1 ⟨us, []⟩ us vs Q (Eσ σ) (hr.mono hj) I1.env0 hb r q) fun rr s' hq => ?_)
  cases rr with
  | error e => exact ⟨pins2, σ, H1, s1, I1.unwish, hq⟩
  | ok fl =>
    cases fl with
    | ret u => exact I1.after hq
    | next => exact False.elim hq
    | brk => exact False.elim hq
    | cont => exact False.elim hq
end
theorem passN2 {P : Program} {w : World} {X : Cx} : Passes (CX2 P w) X E0 := fun _ _ _ _ _ _ _ ⟨_, _, _, _, _, _, _, _, _, _, _, h⟩ => h.elim
/-- a call of a def that might refuse, but doesn't here -/
theorem pe_callN2 {X : Cx} {k j : Nat} {x : Str} {ps : List Str} {sp : Sp} {p pos : Pos} {e : Expr} {es : List Expr} {t : TA} (C : Cal2 X.prog X.w X.K X.mg X.base k x ps sp) (hr : Room j X.A) (hj : k ≤ j) (hg : Gl X x)
    (ha : PA X (e :: es) t) (hdb : (x == ("__debug__" : Str)) = false := by decide) (he : starEach (e :: es) X.env = (false, eval e X.env) :: starEach es X.env := by rfl) (hpl : (backTo pos (starEach es X.env)).any (·.1) = false := by rfl) :
    PE X (.Call (.Name x p) (e :: es) [] pos) (tCall sp [] E0 t) := by
  obtain ⟨f, fd, F, m, k, b⟩ := C.ex
  exact pe_call F (hr.mono hj) hg m k b .nil passN2 ha hdb he hpl
section
variable {P : Program} {w : World} {K : PySem.W.Frag} {mg : Str → Option Value} {base : Heap} {x qual : Str} {st : Stmt} {f : Addr} {fd : FuncData} {N ps : List Str} {k : Nat} {sp : Sp}
end
end L2
end
section
set_option Elab.async false
set_option linter.all false
set_option maxRecDepth 100000
namespace L2
open PySem PySem.Spec PyProof.Rows
/-! ### enumerate -/
def ForE (K : PySem.W.Frag) (a : Addr) (g : TG) (tb : TS) (D : Ends) (σ : St) (H : Hp) : Prop := ForJ (Ite K a) g tb D σ H
section
variable {K : PySem.W.Frag} {a : Addr} {g : TG} {tb : TS} {D : Ends} {σ : St} {H : Hp}
theorem tFor_enum {ta : TA} : tFor (iEnum K ta) g tb D σ H = ta σ H fun vs H1 => ∃ a xs, vs = [.ref a] ∧ SqL K H1 a xs ∧ ForE K a g tb D σ H1 := rfl
theorem forE {xs : List V} (Pv : Nat → St → Hp → Prop) (h0 : Pv 0 σ H) (hl : ∀ i σ H, Pv i σ H → SqL K H a xs)
    (hs : ∀ i x T σ H, xs[i]? = some x → Pv i σ H → H T = none → g (.ref T) σ (upd H T (.tup [.int (i : Nat), x])) fun σ2 H2 => tb { D with nx := Pv (i + 1), ct := Pv (i + 1), bk := D.nx } σ2 H2) (hd : ∀ σ H, Pv xs.length σ H → D.nx σ H) : ForE K a g tb D σ H := by
  refine ⟨fun i m σ H => m = xs.length - i ∧ i ≤ xs.length ∧ Pv i σ H, ⟨xs.length, by simp, Nat.zero_le _, h0⟩, ?_⟩
  rintro i m σ H ⟨rfl, hi, p⟩
  have q1 := hl i σ H p
  by_cases hlt : i < xs.length
  · refine .inr ⟨⟨xs, xs[i], q1, by simp [hlt]⟩, Pv (i + 1), fun σ' H' p' => ⟨xs.length - (i + 1), by omega, rfl, hlt, p'⟩, fun v H' z => ?_⟩
    obtain ⟨T, x, rfl, hT, rfl, hx⟩ := z
    exact hs i x T σ H (hx xs q1) p hT
  · have e : i = xs.length := by omega
    subst e
    exact .inl ⟨⟨xs, q1, Nat.le_refl _⟩, hd σ H p⟩
end
theorem cp10_25 : CPow 10 25 ↔ True := ⟨fun _ => trivial, fun _ => by refine ⟨?_, ?_, ?_⟩ <;> decide⟩
end L2
end
set_option Elab.async false
set_option linter.all false
set_option maxRecDepth 100000
namespace My
open PySem L2 PySem.Spec PyProof.Rows
def top (i : Nat) : Stmt := PySem.Challenge.pw_likeshards_k47_like_pieces_by_fans.main.body.getD i (.Pass ⟨0, 0, 0, 0⟩)
local macro_rules | `(tactic| walk_at "vc") => `(tactic| simp only [tSeq, tAsg, tCB, tCons, tNil, tVar, tC, gName, tOp, tUn, rI_ii, rI0_ii, rU_i, add_ii, im2, cp10_7, cp10_8, cp10_9, cp10_14, cp10_18, cp10_26, cp10_27, cp10_28, cp10_29, cp10_30, Int.reducePow, Int.reduceToNat, Int.reduceMul, Int.reduceSub, Int.reduceAdd, Int.reduceNeg, cx_K, tTest, tB, tNot, tAnd, tOr, tAndV, tOrV, tNotV, tIfS, tRet, tRetN, tRaise, tTry, tCallT, tNext, tCont, tDrop, tPar, tPar3, tAug, tTup_new, tLst_new, tCall, tSl, tPart, tNoPart, rSlL, tFor_list, tFor_tup, tLc_tup, tGen_rng1, tGen_rng2, tGen_list, tGen_tup, tFor_zip, tRev, cp10_13, cp10_6, cp10_20, cp10_22, tSt2, tTry2, tRaise2, tRaiseF, tCallV, cp10_21, cp10_16, tFor_enum, cp10_25, tFor_rng1, tFor_rng2, tLc_rng1, tLc_rng2, tLc_list, tBM, tYes, wipe, List.map_cons, List.map_nil, gCons, gNil, gSub, List.nil_append, List.append_nil, List.cons_append, List.getElem?_cons_zero, List.getElem?_cons_succ, Option.some.injEq, exists_eq_left', exists_eq_left, exists_and_left, List.cons.injEq, V.int.injEq, V.ref.injEq, V.bl.injEq, and_true, true_and, List.set, and_assoc, reduceIte, ↓reduceIte, Bool.false_eq_true, Bool.not_true, Bool.not_false, beq_self_eq_true, if_true, if_false])
local macro_rules | `(tactic| walk_at "sz") => `(tactic| (simp only [List.length_cons, List.length_nil, List.length_append]; decide))
local macro_rules | `(tactic| walk_at "rp1") => `(tactic| first | exact Rp.int _ | exact Rp.bl _ | exact Rp.non | exact Rp.str _ | assumption | (refine Rp.up (H := _) ?_ (by assumption); walk_at "kp"))
local macro_rules | `(tactic| walk_at "rps") => `(tactic| first | exact RpAll.nil | exact RpAll.cons (by walk_at "rp1") (RpAll.nil) | exact RpAll.cons (by walk_at "rp1") (RpAll.cons (by walk_at "rp1") (RpAll.nil)) | exact RpAll.cons (by walk_at "rp1") (RpAll.cons (by walk_at "rp1") (RpAll.cons (by walk_at "rp1") (RpAll.nil))) | exact RpAll.cons (by walk_at "rp1") (RpAll.cons (by walk_at "rp1") (RpAll.cons (by walk_at "rp1") (RpAll.cons (by walk_at "rp1") (RpAll.nil)))) | exact RpAll.cons (by walk_at "rp1") (RpAll.cons (by walk_at "rp1") (RpAll.cons (by walk_at "rp1") (RpAll.cons (by walk_at "rp1") (RpAll.cons (by walk_at "rp1") (RpAll.nil))))) | exact RpAll.cons (by walk_at "rp1") (RpAll.cons (by walk_at "rp1") (RpAll.cons (by walk_at "rp1") (RpAll.cons (by walk_at "rp1") (RpAll.cons (by walk_at "rp1") (RpAll.cons (by walk_at "rp1") (RpAll.nil)))))) | exact RpAll.cons (by walk_at "rp1") (RpAll.cons (by walk_at "rp1") (RpAll.cons (by walk_at "rp1") (RpAll.cons (by walk_at "rp1") (RpAll.cons (by walk_at "rp1") (RpAll.cons (by walk_at "rp1") (RpAll.cons (by walk_at "rp1") (RpAll.nil))))))) | exact RpAll.cons (by walk_at "rp1") (RpAll.cons (by walk_at "rp1") (RpAll.cons (by walk_at "rp1") (RpAll.cons (by walk_at "rp1") (RpAll.cons (by walk_at "rp1") (RpAll.cons (by walk_at "rp1") (RpAll.cons (by walk_at "rp1") (RpAll.cons (by walk_at "rp1") (RpAll.nil)))))))) | exact RpAll.cons (by walk_at "rp1") (RpAll.cons (by walk_at "rp1") (RpAll.cons (by walk_at "rp1") (RpAll.cons (by walk_at "rp1") (RpAll.cons (by walk_at "rp1") (RpAll.cons (by walk_at "rp1") (RpAll.cons (by walk_at "rp1") (RpAll.cons (by walk_at "rp1") (RpAll.cons (by walk_at "rp1") (RpAll.nil))))))))) | exact RpAll.cons (by walk_at "rp1") (RpAll.cons (by walk_at "rp1") (RpAll.cons (by walk_at "rp1") (RpAll.cons (by walk_at "rp1") (RpAll.cons (by walk_at "rp1") (RpAll.cons (by walk_at "rp1") (RpAll.cons (by walk_at "rp1") (RpAll.cons (by walk_at "rp1") (RpAll.cons (by walk_at "rp1") (RpAll.cons (by walk_at "rp1") (RpAll.nil)))))))))) | exact RpAll.cons (by walk_at "rp1") (RpAll.cons (by walk_at "rp1") (RpAll.cons (by walk_at "rp1") (RpAll.cons (by walk_at "rp1") (RpAll.cons (by walk_at "rp1") (RpAll.cons (by walk_at "rp1") (RpAll.cons (by walk_at "rp1") (RpAll.cons (by walk_at "rp1") (RpAll.cons (by walk_at "rp1") (RpAll.cons (by walk_at "rp1") (RpAll.cons (by walk_at "rp1") (RpAll.nil))))))))))) | exact RpAll.cons (by walk_at "rp1") (RpAll.cons (by walk_at "rp1") (RpAll.cons (by walk_at "rp1") (RpAll.cons (by walk_at "rp1") (RpAll.cons (by walk_at "rp1") (RpAll.cons (by walk_at "rp1") (RpAll.cons (by walk_at "rp1") (RpAll.cons (by walk_at "rp1") (RpAll.cons (by walk_at "rp1") (RpAll.cons (by walk_at "rp1") (RpAll.cons (by walk_at "rp1") (RpAll.cons (by walk_at "rp1") (RpAll.nil)))))))))))) | exact RpAll.cons (by walk_at "rp1") (RpAll.cons (by walk_at "rp1") (RpAll.cons (by walk_at "rp1") (RpAll.cons (by walk_at "rp1") (RpAll.cons (by walk_at "rp1") (RpAll.cons (by walk_at "rp1") (RpAll.cons (by walk_at "rp1") (RpAll.cons (by walk_at "rp1") (RpAll.cons (by walk_at "rp1") (RpAll.cons (by walk_at "rp1") (RpAll.cons (by walk_at "rp1") (RpAll.cons (by walk_at "rp1") (RpAll.cons (by walk_at "rp1") (RpAll.nil))))))))))))))
local macro_rules | `(tactic| walk_at "isi") => `(tactic| first
  | ((with_reducible refine' isi_bl ?k))
  | ((with_reducible refine' isi_int ?h ?k); (case h => walk_at "rp1"))
  | ((with_reducible refine' isi_bool ?h ?k); (case h => walk_at "rp1"))
  | ((with_reducible refine' isi_tup ?h ?k); (case h => walk_at "rp1"))
  | ((with_reducible refine' isi_lst ?h ?k); (case h => walk_at "rp1")))
local macro_rules | `(tactic| walk_at "ntT") => `(tactic| ((with_reducible refine' newTR ?h1 ?h2 ?h3 ?k); (case h1 => walk_at "row"); (case h2 => walk_at "rps"); (case h3 => exact Nat.le_of_ble_eq_true rfl); intro _ _ _ _ _))
local macro_rules | `(tactic| walk_at "nt") => `(tactic| first
  | ((with_reducible refine' newTR ?h1 ?h2 ?h3 ?k); (case h1 => walk_at "row"); (case h2 => walk_at "rps"); (case h3 => exact Nat.le_of_ble_eq_true rfl); intro _ _ _ _ _)
  | ((with_reducible refine' newLR ?h1 ?h2 ?h3 ?k); (case h1 => walk_at "row"); (case h2 => walk_at "rps"); (case h3 => exact Nat.le_of_ble_eq_true rfl); intro _ _ _ _ _)
  | ((with_reducible refine' catR ?h1 ?h2 ?h4 ?h3 ?k); (case h1 => walk_at "row"); (case h2 => walk_at "rp1"); (case h4 => walk_at "rp1"); (case h3 => exact Nat.le_of_ble_eq_true rfl); intro _ _ _ _ _))
local macro_rules | `(tactic| walk_at "ix") => `(tactic| first
  | ((with_reducible refine' ix_fr0 ?h ?k); (case h => walk_at "fr"))
  | ((with_reducible refine' ix_fr1 ?h ?k); (case h => walk_at "fr"))
  | ((with_reducible refine' ix_ti0 ?h ?k); (case h => walk_at "fr"))
  | ((with_reducible refine' ix_ti1 ?h ?k); (case h => walk_at "fr"))
  | ((with_reducible refine' ix_sp0 ?h ?k); (case h => walk_at "fr"); intro _ _)
  | ((with_reducible refine' ix_sp1 ?h ?k); (case h => walk_at "fr"); intro _ _))
local macro_rules | `(tactic| walk_at "nb") => `(tactic| (with_reducible refine' not_b ?_))
local macro_rules | `(tactic| walk_at "ns") => `(tactic| ((with_reducible refine' newS ?h1 ?h2 ?k); (case h1 => walk_at "fr"); (case h2 => walk_at "fr"); intro _ _ _ _))
local macro_rules | `(tactic| walk_at "eqs") => `(tactic| first | (with_reducible refine' eq_i ?_) | (with_reducible refine' ne_i ?_) | (with_reducible refine' eq_b ?_) | (with_reducible refine' ne_b ?_))
local macro_rules | `(tactic| walk_at "go") => `(tactic| repeat (first | walk_at "ix" | walk_at "eqs" | walk_at "nb" | walk_at "isi" | walk_at "call" | walk_at "vc"))
local macro_rules | `(tactic| walk_at "same") => `(tactic| first | exact Same.refl _ | assumption | (refine Same.trans ?_ (same_upd (by assumption)); walk_at "same") | (refine Same.trans (H1 := _) ?_ (by assumption); walk_at "same"))
local macro_rules | `(tactic| walk_at "tk") => `(tactic| first | exact Tk.refl _ | assumption | (refine Tk.trans ?_ (Same.tk (same_upd (by assumption))); walk_at "tk") | (refine Tk.trans (H1 := _) ?_ (Same.tk (by assumption)); walk_at "tk") | (refine Tk.trans (H1 := _) ?_ (by assumption); walk_at "tk"))
local macro_rules | `(tactic| walk_at "kp") => `(tactic| first | exact Kp.refl _ | assumption | (refine Kp.trans ?_ (Same.kp (same_upd (by assumption))); walk_at "kp") | (refine Kp.trans (H1 := _) ?_ (Same.kp (by assumption)); walk_at "kp") | (refine Kp.trans (H1 := _) ?_ (by assumption); walk_at "kp"))
local macro_rules | `(tactic| walk_at "frle") => `(tactic| first | ((refine' Fr.le ?_ (by assumption)); omega) | ((refine' Spt.le ?_ (by assumption)); omega) | ((refine' Fr.le ?_ (Fr.tk ?_ (by assumption))); (walk_at "tk"); omega))
local macro_rules | `(tactic| walk_at "row") => `(tactic| first | assumption | (refine Row.mono (H := _) ?_ (by assumption); walk_at "same"))
local macro_rules | `(tactic| walk_at "fr") => `(tactic| first | assumption | (refine Fr.tk (H := _) ?_ (by assumption); walk_at "tk") | (refine Spt.tk (H := _) ?_ (by assumption); walk_at "tk") | (refine TupI.tk (H := _) ?_ (by assumption); walk_at "tk"))

section
variable {P : Program} {w : World} {K : PySem.W.Frag} {mg : Str → Option Value} {base : Heap} {a_fan_cut : Addr} {c_ShardError : Addr} {c_NoNumber : Addr} {c_NoPrime : Addr} {c_NoField : Addr} {c_NoCutting : Addr} {c_NoLine : Addr} {c_NoFrame : Addr} {c_NoDoor : Addr} {c_NoPaper : Addr} {c_NoAreas : Addr} {c_NoWay : Addr} {c_NoSpot : Addr} {c_NoMove : Addr} {c_NoBend : Addr} {c_TooMany : Addr} {c_NoText : Addr} {c_NoRow : Addr} {c_NoName : Addr} {fi_NoCutting cc_NoCutting cd_NoCutting : Addr} {fi_NoText cc_NoText cd_NoText : Addr} {fi_NoName cc_NoName cd_NoName : Addr} {tbs : List Addr}
abbrev s_is_whole : Stmt := top 20
theorem sc_is_whole : FnScope ["thing"] ["thing"] (defScope s_is_whole) := ⟨rfl, rfl, rfl, by decide +kernel, rfl, by decide +kernel, by decide +kernel⟩
def sp_is_whole : Sp := fun vs H Q _ => ∃ (x : V) (d : PyData) (r : Addr), vs = [x] ∧ Rp r H x d ∧ Q (.bl (isWh d)) H

set_option maxHeartbeats 4000000 in
theorem ok_is_whole {f : Addr} {fd : FuncData} (F : Fun K "is_whole" "is_whole" s_is_whole f fd) (m : mg "is_whole" = some (.ref f)) (b : Binds K fd ["thing"] []) (z_int : mg "int" = none) (z_isinstance : mg "isinstance" = none) (z_bool : mg "bool" = none) : Cal P w K mg base 1 "is_whole" ["thing"] sp_is_whole := by
  refine cal_ofW F sc_is_whole m b (fun vs H Q E h => ?_) (fun cdv A outer s H vs Q E hr h => ?_)
  · obtain ⟨x, d, r, rfl, _⟩ := h
    rfl
  · obtain ⟨x, d, r, rfl, hx, k⟩ := h
    refine ⟨_, (wss_one ⟨(ps_ret (pe_and (pe_callB call_isi (by rfl) z_isinstance bt_isinstance (pa_cons (pv 0) (pa_cons (pe_bltn (v := .ty "int") (by rfl) z_int bt_int rfl) pa_nil se_Name) se_Name)) (pe_one (pe_not (pe_callB call_isi (by rfl) z_isinstance bt_isinstance (pa_cons (pv 0) (pa_cons (pe_bltn (v := .ty "bool") (by rfl) z_bool bt_bool rfl) pa_nil se_Name) se_Name))))))⟩), ?_⟩
    have e : start ["thing"] [x] = [some x] := rfl
    rw [e]
    walk_at "vc"
    refine isi_int hx ?_
    walk_at "vc"
    rw [← isWh_and] at k
    cases h1 : isInt d with
    | true =>
      rw [h1] at k
      walk_at "vc"
      refine isi_bool hx ?_
      walk_at "vc"
      exact k
    | false =>
      rw [h1] at k
      walk_at "vc"
      exact k
theorem u_is_whole {x : V} {d : PyData} {r : Addr} {H : Hp} {Q : VK} {E : XK} (hx : Rp r H x d) (k : Q (.bl (isWh d)) H) : sp_is_whole [x] H Q E := ⟨x, d, r, rfl, hx, k⟩
local macro_rules | `(tactic| walk_at "call") => `(tactic| ((with_reducible refine' u_is_whole ?h1 ?k); (case h1 => walk_at "rp1")))
abbrev s_divisor : Stmt := top 21
theorem sc_divisor : FnScope ["one", "other", "rest", "by"] ["one", "other"] (defScope s_divisor) := ⟨rfl, rfl, rfl, by decide +kernel, rfl, by decide +kernel, by decide +kernel⟩
def sp_divisor : Sp := fun vs H Q _ => ∃ a b : Int, vs = [.int a, .int b] ∧ Q (.int (a.natAbs.gcd b.natAbs : Nat)) H
set_option maxHeartbeats 4000000 in
theorem ok_divisor {f : Addr} {fd : FuncData} (F : Fun K "divisor" "divisor" s_divisor f fd) (m : mg "divisor" = some (.ref f)) (b : Binds K fd ["one", "other"] []) (z_abs : mg "abs" = none) : Cal P w K mg base 1 "divisor" ["one", "other"] sp_divisor := by
  refine cal_ofW F sc_divisor m b (fun vs H Q E h => ?_) (fun cdv A outer s H vs Q E hr h => ?_)
  · obtain ⟨a, b, rfl, _⟩ := h
    rfl
  · obtain ⟨a, b, rfl, k⟩ := h
    refine ⟨_, (wss_cons ⟨(ps_set (i := 2) sc_divisor.nd rfl (by first | exact Or.inl rfl | exact Or.inr rfl) (pe_callB call_abs (by rfl) z_abs bt_abs (pa_cons (pv 0) pa_nil se_Name)))⟩
        (wss_cons ⟨(ps_set (i := 3) sc_divisor.nd rfl (by first | exact Or.inl rfl | exact Or.inr rfl) (pe_callB call_abs (by rfl) z_abs bt_abs (pa_cons (pv 1) pa_nil se_Name)))⟩
        (wss_cons (ws_while PassesOwn.never (pt_cmpR op_gt (pv 3) pe_int (nomark _)) (wss_one ⟨(ps_par (i := 2) (j := 3) (by rfl) sc_divisor.nd rfl rfl (by decide) rfl rfl (pa_cons (pv 3) (pa_cons (pe_op op_modN (pv 2) (pv 3)) pa_nil se_BinOp) se_Name) (by rfl))⟩))
        (wss_one ⟨(ps_ret (pv 2))⟩)))), ?_⟩
    have e : start ["one", "other", "rest", "by"] [V.int a, V.int b] = [some (V.int a), some (V.int b), none, none] := rfl
    rw [e]
    walk_at "vc"
    refine while_by (fun σ H1 => ∃ r y : Int, σ = [some (V.int a), some (V.int b), some (V.int r), some (V.int y)] ∧ H1 = H ∧ 0 ≤ r ∧ 0 ≤ y ∧ r.natAbs.gcd y.natAbs = a.natAbs.gcd b.natAbs)
      (fun σ _ => match σ[3]? with | some (some (V.int y)) => y.toNat | _ => 0) ⟨_, _, rfl, rfl, by split <;> omega, by split <;> omega, gcd_abs a b⟩ ?_ ?_
    · rintro σ H1 ⟨r, y, rfl, rfl, h1, h2, h3⟩
      walk_at "vc"
      refine ite_d (fun c => ?_) (fun c => ?_)
      · refine ⟨by omega, h2, ?_, ?_, ?_⟩
        · exact Int.fmod_nonneg_of_pos _ c
        · rw [← h3]; exact gcd_turn h1 c
        · show (r.fmod y).toNat < y.toNat
          have := Int.fmod_lt_of_pos r c
          omega
      · have e : y = 0 := by omega
        subst e
        have e2 : (r.natAbs : Int) = r := by omega
        rw [Int.natAbs_zero, Nat.gcd_zero_right] at h3
        rw [← h3, e2] at k
        exact k
    · exact gt_mono
abbrev s_in_lowest : Stmt := top 22
theorem sc_in_lowest : FnScope ["top", "bottom", "shared"] ["top", "bottom"] (defScope s_in_lowest) := ⟨rfl, rfl, rfl, by decide +kernel, rfl, by decide +kernel, by decide +kernel⟩
def sp_in_lowest : Sp := fun vs H Q _ => ∃ (a b : Int) (n : Nat), vs = [.int a, .int b] ∧ b ≠ 0 ∧ a.natAbs < 2 ^ n ∧ b.natAbs < 2 ^ n ∧ n ≤ 8000 ∧ ∀ v H', Same H H' → Fr n H' v (Rat.divInt a b) → Q v H'
set_option maxHeartbeats 4000000 in
theorem ok_in_lowest {f : Addr} {fd : FuncData} (F : Fun K "in_lowest" "in_lowest" s_in_lowest f fd) (m : mg "in_lowest" = some (.ref f)) (b : Binds K fd ["top", "bottom"] []) (C_divisor : Cal P w K mg base 1 "divisor" ["one", "other"] sp_divisor) : Cal P w K mg base 2 "in_lowest" ["top", "bottom"] sp_in_lowest := by
  refine cal_ofW F sc_in_lowest m b (fun vs H Q E h => ?_) (fun cdv A outer s H vs Q E hr h => ?_)
  · obtain ⟨a, b, n, rfl, _⟩ := h
    rfl
  · obtain ⟨a, b, n, rfl, hb, h1, h2, hn, k⟩ := h
    refine ⟨_, (wss_cons ⟨(ps_set (i := 2) sc_in_lowest.nd rfl (by first | exact Or.inl rfl | exact Or.inr rfl) (pe_callC C_divisor hr (by decide) (by rfl) (pa_cons (pv 0) (pa_cons (pv 1) pa_nil se_Name) se_Name) (by decide) se_Name (se_any rfl)))⟩
        (wss_cons (ws_if (pt_cmpR op_lt (pv 1) pe_int (nomark _)) (wss_one ⟨(ps_set (i := 2) sc_in_lowest.nd rfl (by first | exact Or.inl rfl | exact Or.inr rfl) (pe_un un_neg (pv 2)))⟩) wss_nil)
        (wss_one ⟨(ps_ret (pe_tup (pa_cons (pe_op op_fdivB (pv 0) (pv 2)) (pa_cons (pe_op op_fdivB (pv 1) (pv 2)) pa_nil se_BinOp) se_BinOp)))⟩))), ?_⟩
    have e : start ["top", "bottom", "shared"] [V.int a, V.int b] = [some (V.int a), some (V.int b), none] := rfl
    rw [e]
    walk_at "vc"
    refine ⟨a, b, rfl, ?_⟩
    walk_at "vc"
    refine ite_d (fun c => ?_) (fun c => ?_)
    · rw [← sg_neg c]
      exact ⟨div_ok hb h2 hn, div_ok hb h2 hn, by walk_at "sz", fun p hp => k _ _ (same_upd hp) (fr_low hb h1 h2)⟩
    · rw [← sg_pos c]
      exact ⟨div_ok hb h2 hn, div_ok hb h2 hn, by walk_at "sz", fun p hp => k _ _ (same_upd hp) (fr_low hb h1 h2)⟩
abbrev s_added : Stmt := top 24
theorem sc_added : FnScope ["one", "other"] ["one", "other"] (defScope s_added) := ⟨rfl, rfl, rfl, by decide +kernel, rfl, by decide +kernel, by decide +kernel⟩
def sp_added : Sp := fun vs H Q _ => ∃ (x y : V) (q r : Rat) (m n : Nat), vs = [x, y] ∧ Fr m H x q ∧ Fr n H y r ∧ m + n + 1 ≤ 8000 ∧ ∀ v H', Same H H' → Fr (m + n + 1) H' v (q + r) → Q v H'

set_option maxHeartbeats 4000000 in
theorem ok_added {f : Addr} {fd : FuncData} (F : Fun K "added" "added" s_added f fd) (m : mg "added" = some (.ref f)) (b : Binds K fd ["one", "other"] []) (C_in_lowest : Cal P w K mg base 2 "in_lowest" ["top", "bottom"] sp_in_lowest) : Cal P w K mg base 3 "added" ["one", "other"] sp_added := by
  refine cal_ofW F sc_added m b (fun vs H Q E h => ?_) (fun cdv A outer s H vs Q E hr h => ?_)
  · obtain ⟨x, y, q, r, m, n, rfl, _⟩ := h
    rfl
  · obtain ⟨x, y, q, r, m, n, rfl, hx, hy, hmn, k⟩ := h
    refine ⟨_, (wss_one ⟨(ps_ret (pe_callC C_in_lowest hr (by decide) (by rfl) (pa_cons (pe_op op_addA (pe_op op_mulB (pe_ix ix_seq (pv 0) pe_int (fun _ _ => rfl)) (pe_ix ix_seq (pv 1) pe_int (fun _ _ => rfl))) (pe_op op_mulB (pe_ix ix_seq (pv 1) pe_int (fun _ _ => rfl)) (pe_ix ix_seq (pv 0) pe_int (fun _ _ => rfl)))) (pa_cons (pe_op op_mulB (pe_ix ix_seq (pv 0) pe_int (fun _ _ => rfl)) (pe_ix ix_seq (pv 1) pe_int (fun _ _ => rfl))) pa_nil se_BinOp) se_BinOp) (by decide) se_BinOp (se_any rfl)))⟩), ?_⟩
    have e : start ["one", "other"] [x, y] = [some x, some y] := rfl
    rw [e]
    walk_at "vc"
    refine ix_fr0 hx ?_
    refine ix_fr1 hy ?_
    walk_at "vc"
    refine ⟨mulOk hx.nb (den_bd hy.db) (by omega), ?_⟩
    refine ix_fr0 hy ?_
    refine ix_fr1 hx ?_
    walk_at "vc"
    refine ⟨mulOk hy.nb (den_bd hx.db) (by omega), ?_⟩
    refine ix_fr1 hx ?_
    refine ix_fr1 hy ?_
    walk_at "vc"
    refine ⟨mulOk (den_bd hx.db) (den_bd hy.db) (by omega), ?_⟩
    exact ⟨_, _, m + n + 1, rfl, dd_ne q r, add_bd hx.nb (den_bd hy.db) hy.nb (den_bd hx.db), up_bd (mul_bd (den_bd hx.db) (den_bd hy.db)), hmn, fun v H' s h => k v H' s (by rw [q_add] at h; exact h)⟩
theorem u_added {x y : V} {q r : Rat} {m n : Nat} {H : Hp} {Q : VK} {E : XK} (hx : Fr m H x q) (hy : Fr n H y r) (h : m + n + 1 ≤ 8000) (k : ∀ v H', Same H H' → Fr (m + n + 1) H' v (q + r) → Q v H') : sp_added [x, y] H Q E := ⟨x, y, q, r, m, n, rfl, hx, hy, h, k⟩
local macro_rules | `(tactic| walk_at "call") => `(tactic| ((with_reducible refine' u_added ?h1 ?h2 ?h3 ?k); (case h1 => walk_at "fr"); (case h2 => walk_at "fr"); (case h3 => omega); intro _ _ _ _))
abbrev s_lessened : Stmt := top 25
theorem sc_lessened : FnScope ["one", "other"] ["one", "other"] (defScope s_lessened) := ⟨rfl, rfl, rfl, by decide +kernel, rfl, by decide +kernel, by decide +kernel⟩
def sp_lessened : Sp := fun vs H Q _ => ∃ (x y : V) (q r : Rat) (m n : Nat), vs = [x, y] ∧ Fr m H x q ∧ Fr n H y r ∧ m + n + 1 ≤ 8000 ∧ ∀ v H', Same H H' → Fr (m + n + 1) H' v (q - r) → Q v H'

set_option maxHeartbeats 4000000 in
theorem ok_lessened {f : Addr} {fd : FuncData} (F : Fun K "lessened" "lessened" s_lessened f fd) (m : mg "lessened" = some (.ref f)) (b : Binds K fd ["one", "other"] []) (C_in_lowest : Cal P w K mg base 2 "in_lowest" ["top", "bottom"] sp_in_lowest) : Cal P w K mg base 3 "lessened" ["one", "other"] sp_lessened := by
  refine cal_ofW F sc_lessened m b (fun vs H Q E h => ?_) (fun cdv A outer s H vs Q E hr h => ?_)
  · obtain ⟨x, y, q, r, m, n, rfl, _⟩ := h
    rfl
  · obtain ⟨x, y, q, r, m, n, rfl, hx, hy, hmn, k⟩ := h
    refine ⟨_, (wss_one ⟨(ps_ret (pe_callC C_in_lowest hr (by decide) (by rfl) (pa_cons (pe_op op_sub (pe_op op_mulB (pe_ix ix_seq (pv 0) pe_int (fun _ _ => rfl)) (pe_ix ix_seq (pv 1) pe_int (fun _ _ => rfl))) (pe_op op_mulB (pe_ix ix_seq (pv 1) pe_int (fun _ _ => rfl)) (pe_ix ix_seq (pv 0) pe_int (fun _ _ => rfl)))) (pa_cons (pe_op op_mulB (pe_ix ix_seq (pv 0) pe_int (fun _ _ => rfl)) (pe_ix ix_seq (pv 1) pe_int (fun _ _ => rfl))) pa_nil se_BinOp) se_BinOp) (by decide) se_BinOp (se_any rfl)))⟩), ?_⟩
    have e : start ["one", "other"] [x, y] = [some x, some y] := rfl
    rw [e]
    walk_at "vc"
    refine ix_fr0 hx ?_
    refine ix_fr1 hy ?_
    walk_at "vc"
    refine ⟨mulOk hx.nb (den_bd hy.db) (by omega), ?_⟩
    refine ix_fr0 hy ?_
    refine ix_fr1 hx ?_
    walk_at "vc"
    refine ⟨mulOk hy.nb (den_bd hx.db) (by omega), ?_⟩
    refine ix_fr1 hx ?_
    refine ix_fr1 hy ?_
    walk_at "vc"
    refine ⟨mulOk (den_bd hx.db) (den_bd hy.db) (by omega), ?_⟩
    exact ⟨_, _, m + n + 1, rfl, dd_ne q r, sub_bd hx.nb (den_bd hy.db) hy.nb (den_bd hx.db), up_bd (mul_bd (den_bd hx.db) (den_bd hy.db)), hmn, fun v H' s h => k v H' s (by rw [q_sub] at h; exact h)⟩
theorem u_lessened {x y : V} {q r : Rat} {m n : Nat} {H : Hp} {Q : VK} {E : XK} (hx : Fr m H x q) (hy : Fr n H y r) (h : m + n + 1 ≤ 8000) (k : ∀ v H', Same H H' → Fr (m + n + 1) H' v (q - r) → Q v H') : sp_lessened [x, y] H Q E := ⟨x, y, q, r, m, n, rfl, hx, hy, h, k⟩
local macro_rules | `(tactic| walk_at "call") => `(tactic| ((with_reducible refine' u_lessened ?h1 ?h2 ?h3 ?k); (case h1 => walk_at "fr"); (case h2 => walk_at "fr"); (case h3 => omega); intro _ _ _ _))
abbrev s_multiplied : Stmt := top 26
theorem sc_multiplied : FnScope ["one", "other"] ["one", "other"] (defScope s_multiplied) := ⟨rfl, rfl, rfl, by decide +kernel, rfl, by decide +kernel, by decide +kernel⟩
def sp_multiplied : Sp := fun vs H Q _ => ∃ (x y : V) (q r : Rat) (m n : Nat), vs = [x, y] ∧ Fr m H x q ∧ Fr n H y r ∧ m + n ≤ 8000 ∧ ∀ v H', Same H H' → Fr (m + n) H' v (q * r) → Q v H'

set_option maxHeartbeats 4000000 in
theorem ok_multiplied {f : Addr} {fd : FuncData} (F : Fun K "multiplied" "multiplied" s_multiplied f fd) (m : mg "multiplied" = some (.ref f)) (b : Binds K fd ["one", "other"] []) (C_in_lowest : Cal P w K mg base 2 "in_lowest" ["top", "bottom"] sp_in_lowest) : Cal P w K mg base 3 "multiplied" ["one", "other"] sp_multiplied := by
  refine cal_ofW F sc_multiplied m b (fun vs H Q E h => ?_) (fun cdv A outer s H vs Q E hr h => ?_)
  · obtain ⟨x, y, q, r, m, n, rfl, _⟩ := h
    rfl
  · obtain ⟨x, y, q, r, m, n, rfl, hx, hy, hmn, k⟩ := h
    refine ⟨_, (wss_one ⟨(ps_ret (pe_callC C_in_lowest hr (by decide) (by rfl) (pa_cons (pe_op op_mulB (pe_ix ix_seq (pv 0) pe_int (fun _ _ => rfl)) (pe_ix ix_seq (pv 1) pe_int (fun _ _ => rfl))) (pa_cons (pe_op op_mulB (pe_ix ix_seq (pv 0) pe_int (fun _ _ => rfl)) (pe_ix ix_seq (pv 1) pe_int (fun _ _ => rfl))) pa_nil se_BinOp) se_BinOp) (by decide) se_BinOp (se_any rfl)))⟩), ?_⟩
    have e : start ["one", "other"] [x, y] = [some x, some y] := rfl
    rw [e]
    walk_at "vc"
    refine ix_fr0 hx ?_
    refine ix_fr0 hy ?_
    walk_at "vc"
    refine ⟨mulOk hx.nb hy.nb (by omega), ?_⟩
    refine ix_fr1 hx ?_
    refine ix_fr1 hy ?_
    walk_at "vc"
    refine ⟨mulOk (den_bd hx.db) (den_bd hy.db) (by omega), ?_⟩
    exact ⟨_, _, m + n, rfl, dd_ne q r, mul_bd hx.nb hy.nb, mul_bd (den_bd hx.db) (den_bd hy.db), hmn, fun v H' s h => k v H' s (by rw [q_mul] at h; exact h)⟩
theorem u_multiplied {x y : V} {q r : Rat} {m n : Nat} {H : Hp} {Q : VK} {E : XK} (hx : Fr m H x q) (hy : Fr n H y r) (h : m + n ≤ 8000) (k : ∀ v H', Same H H' → Fr (m + n) H' v (q * r) → Q v H') : sp_multiplied [x, y] H Q E := ⟨x, y, q, r, m, n, rfl, hx, hy, h, k⟩
local macro_rules | `(tactic| walk_at "call") => `(tactic| ((with_reducible refine' u_multiplied ?h1 ?h2 ?h3 ?k); (case h1 => walk_at "fr"); (case h2 => walk_at "fr"); (case h3 => omega); intro _ _ _ _))
abbrev s_is_frac : Stmt := top 27
theorem sc_is_frac : FnScope ["thing", "top", "bottom"] ["thing"] (defScope s_is_frac) := ⟨rfl, rfl, rfl, by decide +kernel, rfl, by decide +kernel, by decide +kernel⟩
def sp_is_frac : Sp := fun vs H Q _ => ∃ (x : V) (d : PyData) (r : Addr), vs = [x] ∧ Rp r H x d ∧ Q (.bl (frB d)) H
theorem u_divisor {a b : Int} {H : Hp} {Q : VK} {E : XK} (k : Q (.int (a.natAbs.gcd b.natAbs : Nat)) H) : sp_divisor [.int a, .int b] H Q E := ⟨a, b, rfl, k⟩

set_option maxHeartbeats 4000000 in
theorem ok_is_frac {f : Addr} {fd : FuncData} (F : Fun K "is_frac" "is_frac" s_is_frac f fd) (m : mg "is_frac" = some (.ref f)) (b : Binds K fd ["thing"] []) (z_isinstance : mg "isinstance" = none) (z_tuple : mg "tuple" = none) (z_len : mg "len" = none) (C_is_whole : Cal P w K mg base 1 "is_whole" ["thing"] sp_is_whole) (C_divisor : Cal P w K mg base 1 "divisor" ["one", "other"] sp_divisor) : Cal P w K mg base 2 "is_frac" ["thing"] sp_is_frac := by
  refine cal_ofW F sc_is_frac m b (fun vs H Q E h => ?_) (fun cdv A outer s H vs Q E hr h => ?_)
  · obtain ⟨x, d, r, rfl, _⟩ := h
    rfl
  · obtain ⟨x, d, r, rfl, hx, k⟩ := h
    refine ⟨_, (wss_cons (ws_if (PW.pt (pw_or (pt_not (pt_val (pe_callB call_isi (by rfl) z_isinstance bt_isinstance (pa_cons (pv 0) (pa_cons (pe_bltn (v := .ty "tuple") (by rfl) z_tuple bt_tuple rfl) pa_nil se_Name) se_Name)))) (pw_or1 (pt_cmpR (op_neA hr.units) (pe_callB call_lenA (by rfl) z_len bt_len (pa_cons (pv 0) pa_nil se_Name)) pe_int (nomark _))))) (wss_one ⟨(ps_ret pe_bl)⟩) wss_nil)
        (wss_cons ⟨(ps_asg (pv 0) (pg_seq (n := 2) (by rfl) (pgs_cons (pg_name (i := 1) sc_is_frac.nd rfl (by first | exact Or.inl rfl | exact Or.inr rfl)) (pgs_cons (pg_name (i := 2) sc_is_frac.nd rfl (by first | exact Or.inl rfl | exact Or.inr rfl)) pgs_nil))))⟩
        (wss_cons (ws_if (PW.pt (pw_or (pt_not (pt_val (pe_callC C_is_whole hr (by decide) (by rfl) (pa_cons (pv 1) pa_nil se_Name) (by decide) se_Name (se_any rfl)))) (pw_or1 (pt_not (pt_val (pe_callC C_is_whole hr (by decide) (by rfl) (pa_cons (pv 2) pa_nil se_Name) (by decide) se_Name (se_any rfl))))))) (wss_one ⟨(ps_ret pe_bl)⟩) wss_nil)
        (wss_one ⟨(ps_ret (pe_and (pe_cmpR op_ge (pv 2) pe_int (nomark _)) (pe_one (pe_cmpR (op_eqA hr.units) (pe_callC C_divisor hr (by decide) (by rfl) (pa_cons (pv 1) (pa_cons (pv 2) pa_nil se_Name) se_Name) (by decide) se_Name (se_any rfl)) pe_int (nomark _)))))⟩)))), ?_⟩
    have e : start ["thing", "top", "bottom"] [x] = [some x, none, none] := rfl
    rw [e]
    walk_at "vc"
    refine isi_tup hx ?_
    walk_at "vc"
    cases hx with
    | tup h1 h2 h3 =>
      simp only [isTup, Bool.not_true, Bool.false_eq_true, if_false]
      rename_i a xs ds
      refine len_t h1 ?_
      refine ne_i ?_
      walk_at "vc"
      refine ite_n (fun c => ?_) (fun c => ?_)
      · rw [frB_len (fun z => c (by have := h3.len; omega))] at k
        exact k
      · have hl : xs.length = 2 := by omega
        match xs, hl, h1, h3 with
        | [x, y], _, h1, h3 =>
          cases h3 with
          | cons hx h4 =>
          cases h4 with
          | cons hy h5 =>
          cases h5
          refine seq_t h1 rfl ?_
          walk_at "vc"
          refine u_is_whole hx ?_
          walk_at "vc"
          cases w1 : isWh _ with
          | false =>
            rw [frB_1 w1] at k
            walk_at "vc"
            exact k
          | true =>
            simp only [Bool.not_true, Bool.false_eq_true, if_false]
            refine u_is_whole hy ?_
            walk_at "vc"
            cases w2 : isWh _ with
            | false =>
              rw [frB_2 w2] at k
              walk_at "vc"
              exact k
            | true =>
              simp only [Bool.not_true, Bool.false_eq_true, if_false]
              obtain ⟨i, rfl⟩ := isWh_eq w1
              obtain ⟨j, rfl⟩ := isWh_eq w2
              cases hx
              cases hy
              walk_at "vc"
              by_cases c1 : 1 ≤ j
              · simp only [frB, c1, decide_true, Bool.true_and] at k
                simp only [c1, decide_true, if_true]
                refine u_divisor ?_
                refine eq_i ?_
                rw [decide_one]
                exact k
              · simp only [frB, c1, decide_false, Bool.false_and] at k
                simp only [c1, decide_false, Bool.false_eq_true, if_false]
                exact k
    | _ =>
      simp only [isTup, Bool.not_false, if_true]
      exact k
theorem u_is_frac {x : V} {d : PyData} {r : Addr} {H : Hp} {Q : VK} {E : XK} (hx : Rp r H x d) (k : Q (.bl (frB d)) H) : sp_is_frac [x] H Q E := ⟨x, d, r, rfl, hx, k⟩
local macro_rules | `(tactic| walk_at "call") => `(tactic| ((with_reducible refine' u_is_frac ?h1 ?k); (case h1 => walk_at "rp1")))
abbrev s_is_spot : Stmt := top 29
theorem sc_is_spot : FnScope ["thing"] ["thing"] (defScope s_is_spot) := ⟨rfl, rfl, rfl, by decide +kernel, rfl, by decide +kernel, by decide +kernel⟩
def sp_is_spot : Sp := fun vs H Q _ => ∃ (x : V) (d : PyData) (r : Addr), vs = [x] ∧ Rp r H x d ∧ Q (.bl (spB d)) H

set_option maxHeartbeats 4000000 in
theorem ok_is_spot {f : Addr} {fd : FuncData} (F : Fun K "is_spot" "is_spot" s_is_spot f fd) (m : mg "is_spot" = some (.ref f)) (b : Binds K fd ["thing"] []) (z_isinstance : mg "isinstance" = none) (z_tuple : mg "tuple" = none) (z_len : mg "len" = none) (C_is_frac : Cal P w K mg base 2 "is_frac" ["thing"] sp_is_frac) : Cal P w K mg base 3 "is_spot" ["thing"] sp_is_spot := by
  refine cal_ofW F sc_is_spot m b (fun vs H Q E h => ?_) (fun cdv A outer s H vs Q E hr h => ?_)
  · obtain ⟨x, d, r, rfl, _⟩ := h
    rfl
  · obtain ⟨x, d, r, rfl, hx, k⟩ := h
    refine ⟨_, (wss_cons (ws_if (PW.pt (pw_or (pt_not (pt_val (pe_callB call_isi (by rfl) z_isinstance bt_isinstance (pa_cons (pv 0) (pa_cons (pe_bltn (v := .ty "tuple") (by rfl) z_tuple bt_tuple rfl) pa_nil se_Name) se_Name)))) (pw_or1 (pt_cmpR (op_neA hr.units) (pe_callB call_lenA (by rfl) z_len bt_len (pa_cons (pv 0) pa_nil se_Name)) pe_int (nomark _))))) (wss_one ⟨(ps_ret pe_bl)⟩) wss_nil)
        (wss_one ⟨(ps_ret (pe_and (pe_callC C_is_frac hr (by decide) (by rfl) (pa_cons (pe_ix ix_seq (pv 0) pe_int (fun _ _ => rfl)) pa_nil se_Subscript) (by decide) se_Subscript (se_any rfl)) (pe_one (pe_callC C_is_frac hr (by decide) (by rfl) (pa_cons (pe_ix ix_seq (pv 0) pe_int (fun _ _ => rfl)) pa_nil se_Subscript) (by decide) se_Subscript (se_any rfl)))))⟩)), ?_⟩
    have e : start ["thing"] [x] = [some x] := rfl
    rw [e]
    walk_at "vc"
    refine isi_tup hx ?_
    walk_at "vc"
    cases hx with
    | tup h1 h2 h3 =>
      rename_i aa xx dd
      simp only [isTup, Bool.not_true, Bool.false_eq_true, if_false]
      refine len_t h1 ?_
      refine ne_i ?_
      walk_at "vc"
      refine ite_n (fun c => ?_) (fun c => ?_)
      · rw [spB_len (fun z => c (by have := h3.len; omega))] at k
        exact k
      · have hl : xx.length = 2 := by omega
        match xx, hl, h1, h3 with
        | [x, y], _, h1, h3 =>
          cases h3 with
          | cons hx h4 =>
          cases h4 with
          | cons hy h5 =>
          cases h5
          rename_i dx dy
          refine ixT0 (.tup h1 h2 (.cons hx (.cons hy .nil))) (fun x' hx' => ?_)
          refine u_is_frac hx' ?_
          walk_at "vc"
          have e1 : spB (.tuple [dx, dy]) = (frB dx && frB dy) := rfl
          rw [e1] at k
          cases w1 : frB dx with
          | false =>
            rw [w1] at k
            walk_at "vc"
            exact k
          | true =>
            rw [w1] at k
            walk_at "vc"
            refine ixT1 (.tup h1 h2 (.cons hx (.cons hy .nil))) (fun y' hy' => ?_)
            exact u_is_frac hy' k
    | _ =>
      simp only [isTup, Bool.not_false, if_true]
      exact k
theorem u_is_spot {x : V} {d : PyData} {r : Addr} {H : Hp} {Q : VK} {E : XK} (hx : Rp r H x d) (k : Q (.bl (spB d)) H) : sp_is_spot [x] H Q E := ⟨x, d, r, rfl, hx, k⟩
local macro_rules | `(tactic| walk_at "call") => `(tactic| ((with_reducible refine' u_is_spot ?h1 ?k); (case h1 => walk_at "rp1")))
abbrev s_twice_of : Stmt := top 30
theorem sc_twice_of : FnScope ["one", "other", "third", "along", "across"] ["one", "other", "third"] (defScope s_twice_of) := ⟨rfl, rfl, rfl, by decide +kernel, rfl, by decide +kernel, by decide +kernel⟩
def sp_twice_of : Sp := fun vs H Q _ => ∃ (x y z : V) (a b c : Rat × Rat) (m : Nat), vs = [x, y, z] ∧ Spt m H x a ∧ Spt m H y b ∧ Spt m H z c ∧ 8 * m + 5 ≤ 8000 ∧ ∀ v H', Same H H' → Fr (8 * m + 5) H' v (tw a b c) → Q v H'

set_option maxHeartbeats 4000000 in
theorem ok_twice_of {f : Addr} {fd : FuncData} (F : Fun K "twice_of" "twice_of" s_twice_of f fd) (m : mg "twice_of" = some (.ref f)) (b : Binds K fd ["one", "other", "third"] []) (C_multiplied : Cal P w K mg base 3 "multiplied" ["one", "other"] sp_multiplied) (C_lessened : Cal P w K mg base 3 "lessened" ["one", "other"] sp_lessened) : Cal P w K mg base 4 "twice_of" ["one", "other", "third"] sp_twice_of := by
  refine cal_ofW F sc_twice_of m b (fun vs H Q E h => ?_) (fun cdv A outer s H vs Q E hr h => ?_)
  · obtain ⟨x, y, z, a, b, c, m, rfl, _⟩ := h
    rfl
  · obtain ⟨x, y, z, a, b, c, m, rfl, hx, hy, hz, hm, k⟩ := h
    refine ⟨_, (wss_cons ⟨(ps_set (i := 3) sc_twice_of.nd rfl (by first | exact Or.inl rfl | exact Or.inr rfl) (pe_callC C_multiplied hr (by decide) (by rfl) (pa_cons (pe_callC C_lessened hr (by decide) (by rfl) (pa_cons (pe_ix ix_seq (pv 1) pe_int (fun _ _ => rfl)) (pa_cons (pe_ix ix_seq (pv 0) pe_int (fun _ _ => rfl)) pa_nil se_Subscript) se_Subscript) (by decide) se_Subscript (se_any rfl)) (pa_cons (pe_callC C_lessened hr (by decide) (by rfl) (pa_cons (pe_ix ix_seq (pv 2) pe_int (fun _ _ => rfl)) (pa_cons (pe_ix ix_seq (pv 0) pe_int (fun _ _ => rfl)) pa_nil se_Subscript) se_Subscript) (by decide) se_Subscript (se_any rfl)) pa_nil se_Call) se_Call) (by decide) se_Call (se_any rfl)))⟩
        (wss_cons ⟨(ps_set (i := 4) sc_twice_of.nd rfl (by first | exact Or.inl rfl | exact Or.inr rfl) (pe_callC C_multiplied hr (by decide) (by rfl) (pa_cons (pe_callC C_lessened hr (by decide) (by rfl) (pa_cons (pe_ix ix_seq (pv 2) pe_int (fun _ _ => rfl)) (pa_cons (pe_ix ix_seq (pv 0) pe_int (fun _ _ => rfl)) pa_nil se_Subscript) se_Subscript) (by decide) se_Subscript (se_any rfl)) (pa_cons (pe_callC C_lessened hr (by decide) (by rfl) (pa_cons (pe_ix ix_seq (pv 1) pe_int (fun _ _ => rfl)) (pa_cons (pe_ix ix_seq (pv 0) pe_int (fun _ _ => rfl)) pa_nil se_Subscript) se_Subscript) (by decide) se_Subscript (se_any rfl)) pa_nil se_Call) se_Call) (by decide) se_Call (se_any rfl)))⟩
        (wss_one ⟨(ps_ret (pe_callC C_lessened hr (by decide) (by rfl) (pa_cons (pv 3) (pa_cons (pv 4) pa_nil se_Name) se_Name) (by decide) se_Name (se_any rfl)))⟩))), ?_⟩
    have e : start ["one", "other", "third", "along", "across"] [x, y, z] = [some x, some y, some z, none, none] := rfl
    rw [e]
    walk_at "go"
    refine k _ _ ?_ ?_
    · walk_at "same"
    · refine Fr.le ?_ (by assumption)
      omega
theorem u_twice_of {x y z : V} {a b c : Rat × Rat} {m : Nat} {H : Hp} {Q : VK} {E : XK} (hx : Spt m H x a) (hy : Spt m H y b) (hz : Spt m H z c) (h : 8 * m + 5 ≤ 8000) (k : ∀ v H', Same H H' → Fr (8 * m + 5) H' v (tw a b c) → Q v H') : sp_twice_of [x, y, z] H Q E := ⟨x, y, z, a, b, c, m, rfl, hx, hy, hz, h, k⟩
theorem u_twice_of3 {x y z : V} {a b c : Rat × Rat} {m1 m2 m3 : Nat} {H : Hp} {Q : VK} {E : XK} (hx : Spt m1 H x a) (hy : Spt m2 H y b) (hz : Spt m3 H z c) (h : 8 * (m1 + m2 + m3) + 5 ≤ 8000) (k : ∀ v H', Same H H' → Fr (8 * (m1 + m2 + m3) + 5) H' v (tw a b c) → Q v H') : sp_twice_of [x, y, z] H Q E := u_twice_of (hx.le (by omega)) (hy.le (by omega)) (hz.le (by omega)) h k
local macro_rules | `(tactic| walk_at "call") => `(tactic| ((with_reducible refine' u_twice_of3 ?h1 ?h2 ?h3 ?h4 ?k); (case h1 => walk_at "fr"); (case h2 => walk_at "fr"); (case h3 => walk_at "fr"); (case h4 => omega); intro _ _ _ _))
local macro_rules | `(tactic| walk_at "call") => `(tactic| ((with_reducible refine' u_twice_of ?h1 ?h2 ?h3 ?h4 ?k); (case h1 => walk_at "fr"); (case h2 => walk_at "fr"); (case h3 => walk_at "fr"); (case h4 => omega); intro _ _ _ _))
abbrev s_gap : Stmt := top 31
theorem sc_gap : FnScope ["one", "other"] ["one", "other"] (defScope s_gap) := ⟨rfl, rfl, rfl, by decide +kernel, rfl, by decide +kernel, by decide +kernel⟩
def sp_gap : Sp := fun vs H Q _ => ∃ (x y : V) (a b : Rat) (m : Nat), vs = [x, y] ∧ Fr m H x a ∧ Fr m H y b ∧ m ≤ 3000 ∧ ∀ v H', Same H H' → TupI H' v (lsN a b) (lsD a b) → (lsN a b).natAbs < 2 ^ (m + m + 1) → (lsD a b).natAbs < 2 ^ (m + m) → Q v H'

set_option maxHeartbeats 4000000 in
theorem ok_gap {f : Addr} {fd : FuncData} (F : Fun K "gap" "gap" s_gap f fd) (m : mg "gap" = some (.ref f)) (b : Binds K fd ["one", "other"] []) : Cal P w K mg base 1 "gap" ["one", "other"] sp_gap := by
  refine cal_ofW F sc_gap m b (fun vs H Q E h => ?_) (fun cdv A outer s H vs Q E hr h => ?_)
  · obtain ⟨x, y, a, b, m, rfl, _⟩ := h
    rfl
  · obtain ⟨x, y, a, b, m, rfl, hx, hy, hm, k⟩ := h
    refine ⟨_, (wss_one ⟨(ps_ret (pe_tup (pa_cons (pe_op op_sub (pe_op op_mulB (pe_ix ix_seq (pv 0) pe_int (fun _ _ => rfl)) (pe_ix ix_seq (pv 1) pe_int (fun _ _ => rfl))) (pe_op op_mulB (pe_ix ix_seq (pv 1) pe_int (fun _ _ => rfl)) (pe_ix ix_seq (pv 0) pe_int (fun _ _ => rfl)))) (pa_cons (pe_op op_mulB (pe_ix ix_seq (pv 0) pe_int (fun _ _ => rfl)) (pe_ix ix_seq (pv 1) pe_int (fun _ _ => rfl))) pa_nil se_BinOp) se_BinOp)))⟩), ?_⟩
    have e : start ["one", "other"] [x, y] = [some x, some y] := rfl
    rw [e]
    walk_at "go"
    refine ⟨mulOk hx.nb (den_bd hy.db) (by omega), ?_⟩
    walk_at "go"
    refine ⟨mulOk hy.nb (den_bd hx.db) (by omega), ?_⟩
    walk_at "go"
    refine ⟨mulOk (den_bd hx.db) (den_bd hy.db) (by omega), ?_⟩
    refine newT (Nat.le_of_ble_eq_true rfl) (fun p H' s hp e2 => ?_)
    exact k _ _ s ⟨p, rfl, e2⟩ (sub_bd hx.nb (den_bd hy.db) hy.nb (den_bd hx.db)) (mul_bd (den_bd hx.db) (den_bd hy.db))
theorem u_gap {x y : V} {a b : Rat} {m : Nat} {H : Hp} {Q : VK} {E : XK} (hx : Fr m H x a) (hy : Fr m H y b) (hm : m ≤ 3000) (k : ∀ v H', Same H H' → TupI H' v (lsN a b) (lsD a b) → (lsN a b).natAbs < 2 ^ (m + m + 1) → (lsD a b).natAbs < 2 ^ (m + m) → Q v H') : sp_gap [x, y] H Q E := ⟨x, y, a, b, m, rfl, hx, hy, hm, k⟩
local macro_rules | `(tactic| walk_at "call") => `(tactic| ((with_reducible refine' u_gap ?h1 ?h2 ?h4 ?k); (case h1 => walk_at "fr"); (case h2 => walk_at "fr"); (case h4 => omega); intro _ _ _ _ _ _))
abbrev s_turn_of : Stmt := top 32
theorem sc_turn_of : FnScope ["one", "other", "third", "wide", "wide_by", "high", "high_by", "out", "out_by", "up", "up_by", "along", "across"] ["one", "other", "third"] (defScope s_turn_of) := ⟨rfl, rfl, rfl, by decide +kernel, rfl, by decide +kernel, by decide +kernel⟩
def sp_turn_of : Sp := fun vs H Q _ => ∃ (x y z : V) (a b c : Rat × Rat) (m : Nat), vs = [x, y, z] ∧ Spt m H x a ∧ Spt m H y b ∧ Spt m H z c ∧ m ≤ 1000 ∧ ∀ H', Same H H' → Q (.int (sgQ (tw a b c))) H'

set_option maxHeartbeats 4000000 in
theorem ok_turn_of {f : Addr} {fd : FuncData} (F : Fun K "turn_of" "turn_of" s_turn_of f fd) (m : mg "turn_of" = some (.ref f)) (b : Binds K fd ["one", "other", "third"] []) (C_gap : Cal P w K mg base 1 "gap" ["one", "other"] sp_gap) : Cal P w K mg base 2 "turn_of" ["one", "other", "third"] sp_turn_of := by
  refine cal_ofW F sc_turn_of m b (fun vs H Q E h => ?_) (fun cdv A outer s H vs Q E hr h => ?_)
  · obtain ⟨x, y, z, a, b, c, m, rfl, _⟩ := h
    rfl
  · obtain ⟨x, y, z, a, b, c, m, rfl, hx, hy, hz, hm, k⟩ := h
    refine ⟨_, (wss_cons ⟨(ps_asg (pe_callC C_gap hr (by decide) (by rfl) (pa_cons (pe_ix ix_seq (pv 1) pe_int (fun _ _ => rfl)) (pa_cons (pe_ix ix_seq (pv 0) pe_int (fun _ _ => rfl)) pa_nil se_Subscript) se_Subscript) (by decide) se_Subscript (se_any rfl)) (pg_seq (n := 2) (by rfl) (pgs_cons (pg_name (i := 3) sc_turn_of.nd rfl (by first | exact Or.inl rfl | exact Or.inr rfl)) (pgs_cons (pg_name (i := 4) sc_turn_of.nd rfl (by first | exact Or.inl rfl | exact Or.inr rfl)) pgs_nil))))⟩
        (wss_cons ⟨(ps_asg (pe_callC C_gap hr (by decide) (by rfl) (pa_cons (pe_ix ix_seq (pv 1) pe_int (fun _ _ => rfl)) (pa_cons (pe_ix ix_seq (pv 0) pe_int (fun _ _ => rfl)) pa_nil se_Subscript) se_Subscript) (by decide) se_Subscript (se_any rfl)) (pg_seq (n := 2) (by rfl) (pgs_cons (pg_name (i := 5) sc_turn_of.nd rfl (by first | exact Or.inl rfl | exact Or.inr rfl)) (pgs_cons (pg_name (i := 6) sc_turn_of.nd rfl (by first | exact Or.inl rfl | exact Or.inr rfl)) pgs_nil))))⟩
        (wss_cons ⟨(ps_asg (pe_callC C_gap hr (by decide) (by rfl) (pa_cons (pe_ix ix_seq (pv 2) pe_int (fun _ _ => rfl)) (pa_cons (pe_ix ix_seq (pv 0) pe_int (fun _ _ => rfl)) pa_nil se_Subscript) se_Subscript) (by decide) se_Subscript (se_any rfl)) (pg_seq (n := 2) (by rfl) (pgs_cons (pg_name (i := 7) sc_turn_of.nd rfl (by first | exact Or.inl rfl | exact Or.inr rfl)) (pgs_cons (pg_name (i := 8) sc_turn_of.nd rfl (by first | exact Or.inl rfl | exact Or.inr rfl)) pgs_nil))))⟩
        (wss_cons ⟨(ps_asg (pe_callC C_gap hr (by decide) (by rfl) (pa_cons (pe_ix ix_seq (pv 2) pe_int (fun _ _ => rfl)) (pa_cons (pe_ix ix_seq (pv 0) pe_int (fun _ _ => rfl)) pa_nil se_Subscript) se_Subscript) (by decide) se_Subscript (se_any rfl)) (pg_seq (n := 2) (by rfl) (pgs_cons (pg_name (i := 9) sc_turn_of.nd rfl (by first | exact Or.inl rfl | exact Or.inr rfl)) (pgs_cons (pg_name (i := 10) sc_turn_of.nd rfl (by first | exact Or.inl rfl | exact Or.inr rfl)) pgs_nil))))⟩
        (wss_cons ⟨(ps_set (i := 11) sc_turn_of.nd rfl (by first | exact Or.inl rfl | exact Or.inr rfl) (pe_op op_mulB (pe_op op_mulB (pe_op op_mulB (pv 3) (pv 9)) (pv 8)) (pv 6)))⟩
        (wss_cons ⟨(ps_set (i := 12) sc_turn_of.nd rfl (by first | exact Or.inl rfl | exact Or.inr rfl) (pe_op op_mulB (pe_op op_mulB (pe_op op_mulB (pv 7) (pv 5)) (pv 4)) (pv 10)))⟩
        (wss_cons (ws_if (pt_cmpR op_gt (pv 11) (pv 12) (nomark _)) (wss_one ⟨(ps_ret pe_int)⟩) wss_nil)
        (wss_cons (ws_if (pt_cmpR op_lt (pv 11) (pv 12) (nomark _)) (wss_one ⟨(ps_ret (pe_un un_neg pe_int))⟩) wss_nil)
        (wss_one ⟨(ps_ret pe_int)⟩))))))))), ?_⟩
    have e : start ["one", "other", "third", "wide", "wide_by", "high", "high_by", "out", "out_by", "up", "up_by", "along", "across"] [x, y, z] = [some x, some y, some z, none, none, none, none, none, none, none, none, none, none] := rfl
    rw [e]
    walk_at "go"
    rename_i v1 H1 s1 t1 n1 d1
    refine seq_ti t1 ?_
    walk_at "go"
    rename_i v2 H2 s2 t2 n2 d2
    refine seq_ti t2 ?_
    walk_at "go"
    rename_i v3 H3 s3 t3 n3 d3
    refine seq_ti t3 ?_
    walk_at "go"
    rename_i v4 H4 s4 t4 n4 d4
    refine seq_ti t4 ?_
    walk_at "go"
    have p1 := mul_bd n1 n4
    have p2 := mul_bd p1 d3
    have p3 := mul_bd p2 d2
    have q1 := mul_bd n3 n2
    have q2 := mul_bd q1 d1
    have q3 := mul_bd q2 d4
    refine ⟨mulOk n1 n4 (by omega), mulOk p1 d3 (by omega), mulOk p2 d2 (by omega), mulOk n3 n2 (by omega), mulOk q1 d1 (by omega), mulOk q2 d4 (by omega), ?_⟩
    have kk := k _ (show Same H H4 by walk_at "same")
    rw [lw_sg] at kk
    have e2 : lwT a b c = lsN b.1 a.1 * lsN c.2 a.2 * lsD c.1 a.1 * lsD b.2 a.2 - lsN c.1 a.1 * lsN b.2 a.2 * lsD b.1 a.1 * lsD c.2 a.2 := rfl
    rw [e2] at kk
    refine ite_d (fun c1 => ?_) (fun c1 => ite_d (fun c2 => ?_) (fun c2 => ?_))
    · rw [if_pos (by omega), if_neg (by omega)] at kk
      exact kk
    · rw [if_neg (by omega), if_pos (by omega)] at kk
      exact kk
    · rw [if_neg (by omega), if_neg (by omega)] at kk
      exact kk
theorem u_turn_of {x y z : V} {a b c : Rat × Rat} {m : Nat} {H : Hp} {Q : VK} {E : XK} (hx : Spt m H x a) (hy : Spt m H y b) (hz : Spt m H z c) (h : m ≤ 1000) (k : ∀ H', Same H H' → Q (.int (sgQ (tw a b c))) H') : sp_turn_of [x, y, z] H Q E := ⟨x, y, z, a, b, c, m, rfl, hx, hy, hz, h, k⟩
local macro_rules | `(tactic| walk_at "call") => `(tactic| ((with_reducible refine' u_turn_of ?h1 ?h2 ?h3 ?h4 ?k); (case h1 => walk_at "fr"); (case h2 => walk_at "fr"); (case h3 => walk_at "fr"); (case h4 => omega); intro _ _))
abbrev s_part_on : Stmt := top 33
theorem sc_part_on : FnScope ["start", "end", "part"] ["start", "end", "part"] (defScope s_part_on) := ⟨rfl, rfl, rfl, by decide +kernel, rfl, by decide +kernel, by decide +kernel⟩
def sp_part_on : Sp := fun vs H Q _ => ∃ (x y z : V) (a b c : Rat) (m n : Nat), vs = [x, y, z] ∧ Fr m H x a ∧ Fr m H y b ∧ Fr n H z c ∧ 3 * m + n + 2 ≤ 8000 ∧ ∀ v H', Same H H' → Fr (3 * m + n + 2) H' v (a + c * (b - a)) → Q v H'

set_option maxHeartbeats 4000000 in
theorem ok_part_on {f : Addr} {fd : FuncData} (F : Fun K "part_on" "part_on" s_part_on f fd) (m : mg "part_on" = some (.ref f)) (b : Binds K fd ["start", "end", "part"] []) (C_added : Cal P w K mg base 3 "added" ["one", "other"] sp_added) (C_multiplied : Cal P w K mg base 3 "multiplied" ["one", "other"] sp_multiplied) (C_lessened : Cal P w K mg base 3 "lessened" ["one", "other"] sp_lessened) : Cal P w K mg base 4 "part_on" ["start", "end", "part"] sp_part_on := by
  refine cal_ofW F sc_part_on m b (fun vs H Q E h => ?_) (fun cdv A outer s H vs Q E hr h => ?_)
  · obtain ⟨x, y, z, a, b, c, m, n, rfl, _⟩ := h
    rfl
  · obtain ⟨x, y, z, a, b, c, m, n, rfl, hx, hy, hz, hm, k⟩ := h
    refine ⟨_, (wss_one ⟨(ps_ret (pe_callC C_added hr (by decide) (by rfl) (pa_cons (pv 0) (pa_cons (pe_callC C_multiplied hr (by decide) (by rfl) (pa_cons (pv 2) (pa_cons (pe_callC C_lessened hr (by decide) (by rfl) (pa_cons (pv 1) (pa_cons (pv 0) pa_nil se_Name) se_Name) (by decide) se_Name (se_any rfl)) pa_nil se_Call) se_Name) (by decide) se_Name (se_any rfl)) pa_nil se_Call) se_Name) (by decide) se_Name (se_any rfl)))⟩), ?_⟩
    have e : start ["start", "end", "part"] [x, y, z] = [some x, some y, some z] := rfl
    rw [e]
    walk_at "go"
    exact k _ _ (by walk_at "same") (by walk_at "frle")
theorem u_part_on {x y z : V} {a b c : Rat} {m n : Nat} {H : Hp} {Q : VK} {E : XK} (hx : Fr m H x a) (hy : Fr m H y b) (hz : Fr n H z c) (h : 3 * m + n + 2 ≤ 8000) (k : ∀ v H', Same H H' → Fr (3 * m + n + 2) H' v (a + c * (b - a)) → Q v H') : sp_part_on [x, y, z] H Q E := ⟨x, y, z, a, b, c, m, n, rfl, hx, hy, hz, h, k⟩
local macro_rules | `(tactic| walk_at "call") => `(tactic| ((with_reducible refine' u_part_on ?h1 ?h2 ?h3 ?h4 ?k); (case h1 => walk_at "fr"); (case h2 => walk_at "fr"); (case h3 => walk_at "fr"); (case h4 => omega); intro _ _ _ _))
abbrev s_on_way : Stmt := top 34
theorem sc_on_way : FnScope ["one", "other", "part"] ["one", "other", "part"] (defScope s_on_way) := ⟨rfl, rfl, rfl, by decide +kernel, rfl, by decide +kernel, by decide +kernel⟩
def sp_on_way : Sp := fun vs H Q _ => ∃ (x y z : V) (a b : Rat × Rat) (c : Rat) (m n : Nat), vs = [x, y, z] ∧ Spt m H x a ∧ Spt m H y b ∧ Fr n H z c ∧ 3 * m + n + 2 ≤ 8000 ∧ ∀ v H', Same H H' → Spt (3 * m + n + 2) H' v (onW a b c) → Q v H'
set_option maxHeartbeats 4000000 in
theorem ok_on_way {f : Addr} {fd : FuncData} (F : Fun K "on_way" "on_way" s_on_way f fd) (m : mg "on_way" = some (.ref f)) (b : Binds K fd ["one", "other", "part"] []) (C_part_on : Cal P w K mg base 4 "part_on" ["start", "end", "part"] sp_part_on) : Cal P w K mg base 5 "on_way" ["one", "other", "part"] sp_on_way := by
  refine cal_ofW F sc_on_way m b (fun vs H Q E h => ?_) (fun cdv A outer s H vs Q E hr h => ?_)
  · obtain ⟨x, y, z, a, b, c, m, n, rfl, _⟩ := h
    rfl
  · obtain ⟨x, y, z, a, b, c, m, n, rfl, hx, hy, hz, hm, k⟩ := h
    refine ⟨_, (wss_one ⟨(ps_ret (pe_tup (pa_cons (pe_callC C_part_on hr (by decide) (by rfl) (pa_cons (pe_ix ix_seq (pv 0) pe_int (fun _ _ => rfl)) (pa_cons (pe_ix ix_seq (pv 1) pe_int (fun _ _ => rfl)) (pa_cons (pv 2) pa_nil se_Name) se_Subscript) se_Subscript) (by decide) se_Subscript (se_any rfl)) (pa_cons (pe_callC C_part_on hr (by decide) (by rfl) (pa_cons (pe_ix ix_seq (pv 0) pe_int (fun _ _ => rfl)) (pa_cons (pe_ix ix_seq (pv 1) pe_int (fun _ _ => rfl)) (pa_cons (pv 2) pa_nil se_Name) se_Subscript) se_Subscript) (by decide) se_Subscript (se_any rfl)) pa_nil se_Call) se_Call)))⟩), ?_⟩
    have e : start ["one", "other", "part"] [x, y, z] = [some x, some y, some z] := rfl
    rw [e]
    walk_at "go"
    refine ⟨by walk_at "sz", fun p hp => ?_⟩
    exact k _ _ (by walk_at "same") (spt_new hp (by walk_at "fr") (by walk_at "fr"))
theorem u_on_way {x y z : V} {a b : Rat × Rat} {c : Rat} {m n : Nat} {H : Hp} {Q : VK} {E : XK} (hx : Spt m H x a) (hy : Spt m H y b) (hz : Fr n H z c) (h : 3 * m + n + 2 ≤ 8000) (k : ∀ v H', Same H H' → Spt (3 * m + n + 2) H' v (onW a b c) → Q v H') : sp_on_way [x, y, z] H Q E := ⟨x, y, z, a, b, c, m, n, rfl, hx, hy, hz, h, k⟩
local macro_rules | `(tactic| walk_at "call") => `(tactic| ((with_reducible refine' u_on_way ?h1 ?h2 ?h3 ?h4 ?k); (case h1 => walk_at "fr"); (case h2 => walk_at "fr"); (case h3 => walk_at "fr"); (case h4 => omega); intro _ _ _ _))
abbrev s_law_take : Stmt := top 53
theorem sc_law_take : FnScope ["_law_row", "_law_base", "_law_rest", "_law_number"] ["_law_row", "_law_base"] (defScope s_law_take) := ⟨rfl, rfl, rfl, by decide +kernel, rfl, by decide +kernel, by decide +kernel⟩
def sp_law_take : Sp := fun vs H Q _ => ∃ (r : Addr) (b : Int) (n : Nat), vs = [.ref r, .int b] ∧ Row n H r ∧ n ≤ 1000000 ∧ 0 < b ∧ b < 2 ^ 200 ∧ ∀ v H', 0 ≤ v → v < b → Row (n + 1) H' r → Kp r H H' → Tk H H' → Q (.int v) H'
set_option maxHeartbeats 4000000 in
theorem ok_law_take {f : Addr} {fd : FuncData} (F : Fun K "_law_take" "_law_take" s_law_take f fd) (m : mg "_law_take" = some (.ref f)) (b : Binds K fd ["_law_row", "_law_base"] []) (z_int : mg "int" = none) : Cal P w K mg base 1 "_law_take" ["_law_row", "_law_base"] sp_law_take := by
  refine cal_ofW F sc_law_take m b (fun vs H Q E h => ?_) (fun cdv A outer s H vs Q E hr h => ?_)
  · obtain ⟨r, b, n, rfl, _⟩ := h
    rfl
  · obtain ⟨r, b, n, rfl, hrow, hn, hb, hb2, k⟩ := h
    refine ⟨_, (wss_cons ⟨(ps_asg (pe_op op_addA (pe_ix ix_seq (pv 0) pe_int (fun _ _ => rfl)) pe_int) (pg_sub (pv 0) pe_int set_list))⟩
        (wss_cons (ws_if (pt_cmpR op_ge (pe_ix ix_seq (pv 0) pe_int (fun _ _ => rfl)) (pe_op op_pow pe_int pe_int) (nomark _)) (wss_cons ⟨(ps_set (i := 2) sc_law_take.nd rfl (by first | exact Or.inl rfl | exact Or.inr rfl) (pe_op op_sub (pe_op op_fdivB (pe_ix ix_seq (pv 0) pe_int (fun _ _ => rfl)) (pe_op op_pow pe_int pe_int)) pe_int))⟩
        (wss_cons ⟨(ps_asg (pe_op op_addA (pe_op op_mulB (pe_op op_mulB (pe_op op_addA (pe_op op_fdivB (pv 2) (pv 1)) pe_int) (pe_op op_pow pe_int pe_int)) (pe_callTy call_int1 (by rfl) z_int bt_int (pa_cons (pe_cmpR op_ge (pv 2) (pv 1) (nomark _)) pa_nil se_Compare))) (pe_op op_modN (pe_ix ix_seq (pv 0) pe_int (fun _ _ => rfl)) (pe_op op_pow pe_int pe_int))) (pg_sub (pv 0) pe_int set_list))⟩
        (wss_one ⟨(ps_ret (pe_op op_modN (pv 2) (pv 1)))⟩))) wss_nil)
        (wss_cons ⟨(ps_set (i := 3) sc_law_take.nd rfl (by first | exact Or.inl rfl | exact Or.inr rfl) (pe_op op_modN (pe_op op_addA (pe_op op_addA (pe_op op_mulB (pe_op op_modN (pe_ix ix_seq (pv 0) pe_int (fun _ _ => rfl)) pe_int) pe_int) (pe_op op_mulB (pe_op op_mulB pe_int (pe_ix ix_seq (pv 0) pe_int (fun _ _ => rfl))) (pe_ix ix_seq (pv 0) pe_int (fun _ _ => rfl)))) pe_int) pe_int))⟩
        (wss_cons ⟨(ps_set (i := 3) sc_law_take.nd rfl (by first | exact Or.inl rfl | exact Or.inr rfl) (pe_op op_modN (pe_op op_mulB (pv 3) (pe_op op_addA (pe_op op_modN (pv 3) pe_int) pe_int)) pe_int))⟩
        (wss_one ⟨(ps_ret (pe_op op_modN (pe_op op_fdivB (pv 3) pe_int) (pv 1)))⟩))))), ?_⟩
    have e : start ["_law_row", "_law_base", "_law_rest", "_law_number"] [V.ref r, V.int b] = [some (V.ref r), some (V.int b), none, none] := rfl
    rw [e]
    walk_at "vc"
    obtain ⟨c, i, e1, i0, i1⟩ := hrow.ex
    have fin : ∀ (z c' : Int), Q (.int (z.fmod b)) (upd H r (.lst [.int c', .int (i + 1)])) := fun z c' => k _ _ (Int.fmod_nonneg_of_pos _ hb) (Int.fmod_lt_of_pos _ hb) (row_up i0 i1) kp_upd (tk_upd e1)
    refine ix_lst1 e1 ?_
    walk_at "vc"
    refine set_l1 e1 ?_
    refine ix_lst0 upd_same ?_
    walk_at "vc"
    refine ite_d (fun c1 => ?_) (fun c1 => ?_)
    · refine ix_lst0 upd_same ?_
      walk_at "vc"
      refine ⟨⟨by decide, by decide⟩, ?_⟩
      refine ⟨small_ok (Int.le_of_lt hb) hb2 (by decide) hb, mulOkR (by decide), ?_⟩
      refine .inr ?_
      refine ⟨mulOkR (by split <;> decide), ?_⟩
      refine ix_lst0 upd_same ?_
      walk_at "vc"
      refine ⟨by decide, ?_⟩
      refine set_l0 upd_same ?_
      rw [upd_upd]
      exact ⟨by omega, fin _ _⟩
    · refine ix_lst0 upd_same ?_
      walk_at "vc"
      have m1 := Int.fmod_nonneg_of_pos c (show (0 : Int) < 2147483629 by decide)
      have m2 := Int.fmod_lt_of_pos c (show (0 : Int) < 2147483629 by decide)
      refine ⟨by decide, mulOkR (by decide), ?_⟩
      refine ix_lst1 upd_same ?_
      walk_at "vc"
      refine ⟨mulOkL (by decide), ?_⟩
      refine ix_lst1 upd_same ?_
      walk_at "vc"
      refine ⟨mulOkR (bd64 (by omega) (by omega)), by decide, by decide, ?_⟩
      generalize hA : (c.fmod 2147483629 * 48271 + 104729 * (i + 1) * (i + 1) + 17).fmod 2147483647 = A
      have a1 : 0 ≤ A := hA ▸ Int.fmod_nonneg_of_pos _ (by decide)
      have a2 : A < 2147483647 := hA ▸ Int.fmod_lt_of_pos _ (by decide)
      refine ⟨mulOkL (bd64 (by omega) (by omega)), by decide, ?_⟩
      refine ⟨⟨by decide, by decide⟩, by omega, ?_⟩
      exact fin _ _
theorem u_law_take {r : Addr} {b : Int} {n : Nat} {H : Hp} {Q : VK} {E : XK} (h : Row n H r) (hn : n ≤ 1000000) (hb : 0 < b) (hb2 : b < 2 ^ 200) (k : ∀ v H', 0 ≤ v → v < b → Row (n + 1) H' r → Kp r H H' → Tk H H' → Q (.int v) H') : sp_law_take [.ref r, .int b] H Q E := ⟨r, b, n, rfl, h, hn, hb, hb2, k⟩
local macro_rules | `(tactic| walk_at "call") => `(tactic| ((with_reducible refine' u_law_take ?h1 ?h2 ?h3 ?h4 ?k); (case h1 => walk_at "row"); (case h2 => omega); (case h3 => omega); (case h4 => first | decide | omega); intro _ _ _ _ _ _ _))
abbrev s_after : Stmt := top 38
theorem sc_after : FnScope ["corners", "k"] ["corners", "k"] (defScope s_after) := ⟨rfl, rfl, rfl, by decide +kernel, rfl, by decide +kernel, by decide +kernel⟩
def cj (j : Nat) (p : Rat × Rat) : Rat := if j = 0 then p.1 else p.2
def SpL (m : Nat) (H : Hp) (xs : List V) (ps : List (Rat × Rat)) : Prop := xs.length = ps.length ∧ ∀ (i : Nat) x, xs[i]? = some x → ∃ p, ps[i]? = some p ∧ Spt m H x p
theorem SpL.tk {m : Nat} {H H' : Hp} {xs : List V} {ps : List (Rat × Rat)} (t : Tk H H') (h : SpL m H xs ps) : SpL m H' xs ps := ⟨h.1, fun i x e => let ⟨q, e1, e2⟩ := h.2 i x e; ⟨q, e1, e2.tk t⟩⟩
theorem mid_end {S : Rat} {t b W : Int} (hb : b ≠ 0) (hW : W ≠ 0) (h : (t : Rat) = S * (b : Rat)) : Rat.divInt t (b * W) = S / (W : Rat) := by
  rw [Rat.divInt_eq_div, h, Rat.intCast_mul]
  have hb' : (b : Rat) ≠ 0 := fun z => hb (by exact_mod_cast z)
  have hW' : (W : Rat) ≠ 0 := fun z => hW (by exact_mod_cast z)
  rw [Rat.div_def, Rat.div_def, Rat.inv_mul_rev]
  have := Rat.mul_inv_cancel _ hb'
  grind
theorem sum_bd {t : Nat} : ∀ {ns : List Int}, (∀ n ∈ ns, n.natAbs < 2 ^ t) → ns.sum.natAbs ≤ ns.length * 2 ^ t
  | [], _ => by simp
  | n :: ns, h => by
    have h1 := h n List.mem_cons_self
    have h2 := sum_bd (t := t) fun k hk => h k (List.mem_cons_of_mem _ hk)
    rw [List.sum_cons, List.length_cons, Nat.add_mul, Nat.one_mul]
    have := Int.natAbs_add_le n ns.sum
    omega
def aft (n k : Nat) : Nat := (k + 1) % n
def gp (ps : List (Rat × Rat)) (k : Nat) : Rat × Rat := ps.getD k (0, 0)
def olB (ps : List (Rat × Rat)) (k : Nat) : Bool := (List.range ps.length).all fun j => decide (j = k) || decide (j = aft ps.length k) || decide (sgQ (tw (gp ps k) (gp ps (aft ps.length k)) (gp ps j)) = 1)
structure Tps (m : Nat) (H : Hp) (p : Addr) (ps : List (Rat × Rat)) : Prop where
  ex : ∃ xs, H p = some (.tup xs) ∧ SpL m H xs ps
theorem Tps.tk {m : Nat} {H H' : Hp} {p : Addr} {ps : List (Rat × Rat)} (t : Tk H H') (h : Tps m H p ps) : Tps m H' p ps := let ⟨xs, e, hs⟩ := h.ex; ⟨xs, t _ _ e, hs.tk t⟩
theorem Tps.ix {K : PySem.W.Frag} {m : Nat} {H : Hp} {p : Addr} {ps : List (Rat × Rat)} {k : Nat} {i : Int} {Q : VK} (h : Tps m H p ps) (hi : i = k) (hk : k < ps.length) (q : ∀ v, Spt m H v (gp ps k) → Q v H) : rIx K (.ref p) (.int i) H Q := by
  subst hi
  obtain ⟨xs, e, hl, hs⟩ := h.ex
  have hx : xs[k]? = some xs[k] := List.getElem?_eq_getElem (by omega)
  obtain ⟨s, es, hv⟩ := hs k _ hx
  refine .inr (.inl ⟨p, xs, k, xs[k], rfl, rfl, SqT.of e, atI_nat hx, q _ ?_⟩)
  unfold gp
  rw [List.getD_eq_getElem?_getD, es]
  exact hv
def sp_after : Sp := fun vs H Q _ => ∃ (p : Addr) (xs : List V) (k : Nat), vs = [.ref p, .int k] ∧ H p = some (.tup xs) ∧ 0 < xs.length ∧ Q (.int (aft xs.length k : Nat)) H

set_option maxHeartbeats 4000000 in
theorem ok_after {f : Addr} {fd : FuncData} (F : Fun K "after" "after" s_after f fd) (m : mg "after" = some (.ref f)) (b : Binds K fd ["corners", "k"] []) (z_len : mg "len" = none) : Cal P w K mg base 1 "after" ["corners", "k"] sp_after := by
  refine cal_ofW F sc_after m b (fun vs H Q E h => ?_) (fun cdv A outer s H vs Q E hr h => ?_)
  · obtain ⟨p, xs, k, rfl, _⟩ := h
    rfl
  · obtain ⟨p, xs, k, rfl, e1, hn, kk⟩ := h
    refine ⟨_, (wss_one ⟨(ps_ret (pe_op op_modN (pe_op op_addA (pv 1) pe_int) (pe_callB call_lenA (by rfl) z_len bt_len (pa_cons (pv 0) pa_nil se_Name))))⟩), ?_⟩
    have e : start ["corners", "k"] [V.ref p, V.int k] = [some (.ref p), some (.int k)] := rfl
    rw [e]
    try walk_at "vc"
    refine len_t e1 ?_
    try walk_at "vc"
    refine ⟨by omega, ?_⟩
    have e2 : Int.fmod ((k : Int) + 1) (xs.length : Int) = ((aft xs.length k : Nat) : Int) := by
      unfold aft
      rw [Int.fmod_eq_emod_of_nonneg _ (by omega)]
      rfl
    rw [e2]
    exact kk
theorem u_after {p : Addr} {xs : List V} {k : Nat} {H : Hp} {Q : VK} {E : XK} (e : H p = some (.tup xs)) (hn : 0 < xs.length) (q : Q (.int (aft xs.length k : Nat)) H) : sp_after [.ref p, .int k] H Q E := ⟨p, xs, k, rfl, e, hn, q⟩
abbrev s_others_left : Stmt := top 39
theorem sc_others_left : FnScope ["corners", "k", "end", "j"] ["corners", "k"] (defScope s_others_left) := ⟨rfl, rfl, rfl, by decide +kernel, rfl, by decide +kernel, by decide +kernel⟩
def sp_others_left (tbs : List Addr) : Sp := fun vs H Q _ => ∃ (p : Addr) (ps : List (Rat × Rat)) (k m : Nat), vs = [.ref p, .int k] ∧ Tps m H p ps ∧ k < ps.length ∧ m ≤ 1000 ∧ ps.length ≤ 1000 ∧ Tbs tbs H ∧ ∀ H', Same H H' → Q (.bl (olB ps k)) H'

set_option maxHeartbeats 4000000 in
theorem ok_others_left {f : Addr} {fd : FuncData} {q_others_left t_others_left : Addr} (F : Fun K "others_left" "others_left" s_others_left f fd) (m : mg "others_left" = some (.ref f)) (b : Binds K fd ["corners", "k"] []) (z_all : mg "all" = none) (z_range : mg "range" = none) (z_len : mg "len" = none) (C_after : Cal P w K mg base 1 "after" ["corners", "k"] sp_after) (C_turn_of : Cal P w K mg base 2 "turn_of" ["one", "other", "third"] sp_turn_of) (CK_others_left : CodeK K fd.code q_others_left t_others_left) (TB_others_left : t_others_left ∈ tbs) (BM : ∃ bm ob, BMod base mainGlobals mg bm ob) : Cal P w K mg base 4 "others_left" ["corners", "k"] (sp_others_left tbs) := by
  refine cal_ofG F sc_others_left m b (fun vs H Q E h => ?_) (fun A outer s H vs Q E hr h => ?_)
  · obtain ⟨p, ps, k, m, rfl, _⟩ := h
    rfl
  · obtain ⟨p, ps, k, m, rfl, hp, hk, hm, hl, hT, kk⟩ := h
    refine ⟨_, (wss_cons ⟨(ps_set (i := 2) sc_others_left.nd rfl (by first | exact Or.inl rfl | exact Or.inr rfl) (pe_callC C_after hr (by decide) (by rfl) (pa_cons (pv 0) (pa_cons (pv 1) pa_nil se_Name) se_Name) (by decide) se_Name (se_any rfl)))⟩
        (wss_one ⟨(ps_ret (pe_allG (own := [("j", 3)]) (g := (gName 3)) (k := 2) (by rfl) sc_others_left.nd CK_others_left BM (hr.mono (by decide)) (by rfl) z_all (pi_range1 (by rfl) z_range (pa_cons (pe_callB call_lenA (by rfl) z_len bt_len (pa_cons (pv 0) pa_nil se_Name)) pa_nil se_Call)) (blkOk_by (own := [("j", 3)]) (N := ["corners", "k", "end", "j"]) (sc := defScope s_others_left) (by decide +kernel)) rfl rfl rfl (fun _ _ _ _ _ _ _ hr => (pg_name (i := 3) sc_others_left.nd rfl (by first | exact Or.inl rfl | exact Or.inr rfl))) (fun _ _ _ _ _ _ _ hr => (pts_one (PW.pt (pw_and (pt_cmpR (op_neK hr.units rfl) (pv 3) (pv 1) (nomark _)) (pw_and1 (pt_cmpR (op_neK hr.units rfl) (pv 3) (pv 2) (nomark _))))))) (fun _ _ _ _ _ _ _ hr => (pe_cmpR (op_eqK hr.units rfl) (pe_callC C_turn_of hr (by decide) (by rfl) (pa_cons (pe_ix (ix_seqK rfl) (pv 0) (pv 1) (fun _ _ => rfl)) (pa_cons (pe_ix (ix_seqK rfl) (pv 0) (pv 2) (fun _ _ => rfl)) (pa_cons (pe_ix (ix_seqK rfl) (pv 0) (pv 3) (fun _ _ => rfl)) pa_nil se_Subscript) se_Subscript) se_Subscript) (by decide) se_Subscript (se_any rfl)) pe_int (nomark _)))))⟩)), ?_⟩
    have e : start ["corners", "k", "end", "j"] [V.ref p, V.int k] = [some (.ref p), some (.int k), none, none] := rfl
    rw [e]
    try walk_at "vc"
    obtain ⟨xs, ep, hx⟩ := hp.ex
    have hlx := hx.1
    refine u_after ep (by omega) ?_
    refine len_t ep ?_
    try walk_at "vc"
    refine ⟨by omega, by omega, hT _ TB_others_left, ?_⟩
    rw [hlx]
    have hA : aft ps.length k < ps.length := Nat.mod_lt _ (by omega)
    refine allR (fun j => decide (j = k) || decide (j = aft ps.length k) || decide (sgQ (tw (gp ps k) (gp ps (aft ps.length k)) (gp ps j)) = 1)) (fun j H2 Nx hj s2 h1 h0 => ?_) (fun H' s' => ?_)
    · have hj : j < ps.length := by omega
      try walk_at "vc"
      refine ne_i ?_
      try walk_at "vc"
      refine ite_n (fun c1 => ?_) (fun c1 => ?_)
      · refine ne_i ?_
        try walk_at "vc"
        refine ite_n (fun c2 => ?_) (fun c2 => ?_)
        · have hp2 := hp.tk s2.tk
          refine hp2.ix rfl hk (fun v1 f1 => ?_)
          refine hp2.ix rfl hA (fun v2 f2 => ?_)
          refine hp2.ix (k := j) (by omega) hj (fun v3 f3 => ?_)
          refine u_turn_of f1 f2 f3 hm (fun H3 s3 => ?_)
          refine eq_i ?_
          have d1 : decide (j = k) = false := decide_eq_false (by omega)
          have d2 : decide (j = aft ps.length k) = false := decide_eq_false (by omega)
          refine ⟨_, rfl, ?_⟩
          exact sel_all (show decide (sgQ (tw (gp ps k) (gp ps (aft ps.length k)) (gp ps j)) = 1) = (decide (j = k) || decide (j = aft ps.length k) || decide (sgQ (tw (gp ps k) (gp ps (aft ps.length k)) (gp ps j)) = 1)) by rw [d1, d2]; rfl) h1 h0 (s2.trans s3)
        · exact h1 (by rw [decide_eq_true (show j = aft ps.length k by omega)]; simp) _ s2
      · exact h1 (by rw [decide_eq_true (show j = k by omega)]; simp) _ s2
    · have := kk H' s'
      rw [show ((ps.length : Nat) : Int).toNat = ps.length by omega]
      exact this
theorem u_others_left {tbs : List Addr} {p : Addr} {ps : List (Rat × Rat)} {k m : Nat} {H : Hp} {Q : VK} {E : XK} (hp : Tps m H p ps) (hk : k < ps.length) (hm : m ≤ 1000) (hl : ps.length ≤ 1000) (hT : Tbs tbs H) (q : ∀ H', Same H H' → Q (.bl (olB ps k)) H') : sp_others_left tbs [.ref p, .int k] H Q E := ⟨p, ps, k, m, rfl, hp, hk, hm, hl, hT, q⟩
abbrev s_is_field : Stmt := top 40
theorem sc_is_field : FnScope ["thing", "corner", "k"] ["thing"] (defScope s_is_field) := ⟨rfl, rfl, rfl, by decide +kernel, rfl, by decide +kernel, by decide +kernel⟩
def fdP (ps : List (Rat × Rat)) : Bool := decide (3 ≤ ps.length) && decide (ps.length ≤ 6) && (List.range ps.length).all (olB ps)
def fdB : PyData → Bool
  | .tuple ds => decide (3 ≤ ds.length) && decide (ds.length ≤ 6) && ds.all spB && (List.range ds.length).all (olB (ds.map toS))
  | _ => false
theorem range_all {ds : List PyData} {p : PyData → Bool} : (List.range ds.length).all (fun i => p (ds.getD i .none)) = ds.all p := by
  induction ds with
  | nil => rfl
  | cons d ds ih =>
    rw [List.length_cons, List.range_succ_eq_map, List.all_cons, List.all_map, List.all_cons, ← ih]
    rfl
theorem spl_rp {n : Nat} {r : Addr} {H : Hp} : ∀ {xs : List V} {ds : List PyData}, RpAll r H xs ds → bdDs n ds → ds.all spB = true → SpL n H xs (ds.map toS)
  | _, _, .nil, _, _ => ⟨rfl, fun i x e => by cases e⟩
  | _, _, .cons hx hxs, hb, ha => by
    rw [List.all_cons, Bool.and_eq_true] at ha
    obtain ⟨b1, b2⟩ := hb
    obtain ⟨hl, ih⟩ := spl_rp hxs b2 ha.2
    have e := spB_eq ha.1
    rw [e] at hx b1
    refine ⟨by rw [List.length_cons, List.map_cons, List.length_cons, hl], fun i x hi => ?_⟩
    cases i with
    | zero => cases hi; exact ⟨_, rfl, spt_of hx b1⟩
    | succ i => exact ih i x hi
def sp_is_field (tbs : List Addr) : Sp := fun vs H Q _ => ∃ (x : V) (d : PyData) (r : Addr) (n : Nat), vs = [x] ∧ Rp r H x d ∧ bdD n d ∧ n ≤ 1000 ∧ Tbs tbs H ∧ ∀ H', Same H H' → Q (.bl (fdB d)) H'

set_option maxHeartbeats 4000000 in
theorem ok_is_field {f : Addr} {fd : FuncData} {q_is_field t_is_field : Addr} (F : Fun K "is_field" "is_field" s_is_field f fd) (m : mg "is_field" = some (.ref f)) (b : Binds K fd ["thing"] []) (z_all : mg "all" = none) (z_isinstance : mg "isinstance" = none) (z_tuple : mg "tuple" = none) (z_len : mg "len" = none) (z_range : mg "range" = none) (C_others_left : Cal P w K mg base 4 "others_left" ["corners", "k"] (sp_others_left tbs)) (C_is_spot : Cal P w K mg base 3 "is_spot" ["thing"] sp_is_spot) (N_FEWEST : ∃ t, mg "FEWEST" = some (.int 3 t)) (N_MOST : ∃ t, mg "MOST" = some (.int 6 t)) (CK_is_field : CodeK K fd.code q_is_field t_is_field) (TB_is_field : t_is_field ∈ tbs) (BM : ∃ bm ob, BMod base mainGlobals mg bm ob) : Cal P w K mg base 6 "is_field" ["thing"] (sp_is_field tbs) := by
  refine cal_ofG F sc_is_field m b (fun vs H Q E h => ?_) (fun A outer s H vs Q E hr h => ?_)
  · obtain ⟨x, d, r, n, rfl, _⟩ := h
    rfl
  · obtain ⟨x, d, r, n, rfl, hx, hb, hn, hT, k⟩ := h
    refine ⟨_, (wss_cons (ws_if (PW.pt (pw_or (pt_not (pt_val (pe_callB call_isi (by rfl) z_isinstance bt_isinstance (pa_cons (pv 0) (pa_cons (pe_bltn (v := .ty "tuple") (by rfl) z_tuple bt_tuple rfl) pa_nil se_Name) se_Name)))) (pw_or1 (pt_not (pt_chain op_le op_le (pe_globI (by rfl) N_FEWEST) (pe_callB call_lenA (by rfl) z_len bt_len (pa_cons (pv 0) pa_nil se_Name)) (pe_globI (by rfl) N_MOST)))))) (wss_one ⟨(ps_ret pe_bl)⟩) wss_nil)
        (wss_cons (ws_if (pt_not (pt_val (pe_allG (own := [("corner", 1)]) (g := (gName 1)) (k := 3) (by rfl) sc_is_field.nd CK_is_field BM (hr.mono (by decide)) (by rfl) z_all (pi_tup (pv 0)) (blkOk_by (own := [("corner", 1)]) (N := ["thing", "corner", "k"]) (sc := defScope s_is_field) (by decide +kernel)) rfl rfl rfl (fun _ _ _ _ _ _ _ hr => (pg_name (i := 1) sc_is_field.nd rfl (by first | exact Or.inl rfl | exact Or.inr rfl))) (fun _ _ _ _ _ _ _ hr => pts_nil) (fun _ _ _ _ _ _ _ hr => (pe_callC C_is_spot hr (by decide) (by rfl) (pa_cons (pv 1) pa_nil se_Name) (by decide) se_Name (se_any rfl)))))) (wss_one ⟨(ps_ret pe_bl)⟩) wss_nil)
        (wss_one ⟨(ps_ret (pe_allG (own := [("k", 2)]) (g := (gName 2)) (k := 4) (by rfl) sc_is_field.nd CK_is_field BM (hr.mono (by decide)) (by rfl) z_all (pi_range1 (by rfl) z_range (pa_cons (pe_callB call_lenA (by rfl) z_len bt_len (pa_cons (pv 0) pa_nil se_Name)) pa_nil se_Call)) (blkOk_by (own := [("k", 2)]) (N := ["thing", "corner", "k"]) (sc := defScope s_is_field) (by decide +kernel)) rfl rfl rfl (fun _ _ _ _ _ _ _ hr => (pg_name (i := 2) sc_is_field.nd rfl (by first | exact Or.inl rfl | exact Or.inr rfl))) (fun _ _ _ _ _ _ _ hr => pts_nil) (fun _ _ _ _ _ _ _ hr => (pe_callC C_others_left hr (by decide) (by rfl) (pa_cons (pv 0) (pa_cons (pv 2) pa_nil se_Name) se_Name) (by decide) se_Name (se_any rfl)))))⟩))), ?_⟩
    have e : start ["thing", "corner", "k"] [x] = [some x, none, none] := rfl
    rw [e]
    try walk_at "vc"
    refine isi_tup hx ?_
    try walk_at "vc"
    cases hx with
    | tup h1 h2 h3 =>
      rename_i aa xx dd
      simp only [isTup, Bool.not_true, Bool.false_eq_true, if_false]
      have hll := h3.len
      have eF : fdB (.tuple dd) = (decide (3 ≤ dd.length) && decide (dd.length ≤ 6) && dd.all spB && (List.range dd.length).all (olB (dd.map toS))) := rfl
      try walk_at "vc"
      unfold tChain
      try walk_at "vc"
      refine len_t h1 ?_
      try walk_at "vc"
      have kf : fdB (.tuple dd) = false → ∀ H', Same H H' → Q (.bl false) H' := fun z H' s => z ▸ k H' s
      refine ite_d (fun c1 => ?_) (fun c1 => kf (by rw [eF, decide_eq_false (show ¬ 3 ≤ dd.length by omega)]; rfl) _ (Same.refl _))
      refine ite_n (fun c2 => kf (by rw [eF, decide_eq_false (show ¬ dd.length ≤ 6 by omega)]; simp) _ (Same.refl _)) (fun c2 => ?_)
      have d1 : decide (3 ≤ dd.length) = true := decide_eq_true (by omega)
      have d2 : decide (dd.length ≤ 6) = true := decide_eq_true (by omega)
      refine ⟨⟨_, SqT.of h1⟩, hT _ TB_is_field, ?_⟩
      refine allT (xs := xx) (fun i => spB (dd.getD i .none)) (SqT.of h1) (fun H' s' => SqT.of (s' _ _ h1)) (fun i x H2 Nx hi s2 hN h0 => ?_) (fun H1 s1 => ?_)
      · obtain ⟨x', d', e1, e2, hx'⟩ := h3.at_ (i := i) (by have := (List.getElem?_eq_some_iff.mp hi).1; omega)
        rw [hi] at e1
        cases e1
        try walk_at "vc"
        refine u_is_spot (hx'.up s2.kp) ?_
        try walk_at "vc"
        exact sel_all (by rw [List.getD_eq_getElem?_getD, e2]; rfl) hN h0 s2
      rw [hll, range_all]
      try walk_at "vc"
      cases ha : dd.all spB with
      | false =>
        try walk_at "vc"
        exact kf (by rw [eF, ha]; simp) _ s1
      | true =>
        try walk_at "vc"
        have hsp := spl_rp h3 hb ha
        have h11 := s1 _ _ h1
        refine len_t h11 ?_
        try walk_at "vc"
        refine ⟨by omega, by omega, hT.mono s1 _ TB_is_field, ?_⟩
        have hTp : Tps n H1 aa (dd.map toS) := ⟨_, h11, hsp.tk s1.tk⟩
        refine allR (olB (dd.map toS)) (fun j H2 Nx hj s2 hN h0 => ?_) (fun H2 s2 => ?_)
        · try walk_at "vc"
          have hj2 : (0 : Int) + (j : Int) = (j : Nat) := by omega
          rw [hj2]
          refine u_others_left (hTp.tk s2.tk) (by rw [List.length_map]; omega) hn (by rw [List.length_map]; omega) ((hT.mono s1).mono s2) (fun H3 s3 => ?_)
          try walk_at "vc"
          exact sel_all rfl hN h0 (s2.trans s3)
        · have := k H2 (s1.trans s2)
          rw [eF, d1, d2, ha] at this
          rw [hll, show ((dd.length : Nat) : Int).toNat = dd.length by omega]
          exact this
    | _ =>
      simp only [isTup, Bool.not_false, if_true]
      exact k _ (Same.refl _)
theorem u_is_field {tbs : List Addr} {x : V} {d : PyData} {r : Addr} {n : Nat} {H : Hp} {Q : VK} {E : XK} (hx : Rp r H x d) (hb : bdD n d) (hn : n ≤ 1000) (hT : Tbs tbs H) (k : ∀ H', Same H H' → Q (.bl (fdB d)) H') : sp_is_field tbs [x] H Q E := ⟨x, d, r, n, rfl, hx, hb, hn, hT, k⟩
abbrev s_look_field : Stmt := top 41
theorem sc_look_field : FnScope ["thing"] ["thing"] (defScope s_look_field) := ⟨rfl, rfl, rfl, by decide +kernel, rfl, by decide +kernel, by decide +kernel⟩
def sp_look_field (tbs : List Addr) (c_NoField : Addr) : Sp := fun vs H Q E => ∃ (x : V) (d : PyData) (r : Addr) (n : Nat), vs = [x] ∧ Rp r H x d ∧ bdD n d ∧ n ≤ 1000 ∧ Tbs tbs H ∧ (fdB d = false → ∀ H' x, Same H H' → IsExc H' x c_NoField → E (.ref c_NoField) (some x) H') ∧ (fdB d = true → ∀ H', Same H H' → Q .non H')

set_option maxHeartbeats 4000000 in
theorem ok_look_field {f : Addr} {fd : FuncData} (F : Fun K "look_field" "look_field" s_look_field f fd) (m : mg "look_field" = some (.ref f)) (b : Binds K fd ["thing"] []) (C_is_field : Cal P w K mg base 6 "is_field" ["thing"] (sp_is_field tbs)) (X_NoField : XC K mg base "NoField" c_NoField c_ShardError) : Cal2 P w K mg base 7 "look_field" ["thing"] (sp_look_field tbs c_NoField) := by
  refine cal2_ofW F sc_look_field m b (fun vs H Q E h => ?_) (fun cdv A outer s H vs Q E hr h => ?_)
  · obtain ⟨x, d, r, n, rfl, _⟩ := h
    rfl
  · obtain ⟨x, d, r, n, rfl, hx, hb, hn, hT, k0, k1⟩ := h
    refine ⟨_, (wss_one (ws_if (pt_not (pt_val (pe_callC C_is_field hr (by decide) (by rfl) (pa_cons (pv 0) pa_nil se_Name) (by decide) se_Name (se_any rfl)))) (wss_one (ws_raise2 X_NoField.own (by rfl) pe_str rfl)) wss_nil)), ?_⟩
    have e : start ["thing"] [x] = [some x] := rfl
    rw [e]
    try walk_at "vc"
    refine u_is_field hx hb hn hT (fun H1 s1 => ?_)
    try walk_at "vc"
    cases h1 : fdB d with
    | true =>
      try walk_at "vc"
      exact k1 h1 _ s1
    | false =>
      try walk_at "vc"
      exact ⟨rfl, fun x hx => k0 h1 _ x (s1.trans (same_upd hx)) (IsExc.x upd_same)⟩
theorem u_look_field {tbs : List Addr} {cc : Addr} {x : V} {d : PyData} {r : Addr} {n : Nat} {H : Hp} {Q : VK} {E : XK} (hx : Rp r H x d) (hb : bdD n d) (hn : n ≤ 1000) (hT : Tbs tbs H) (k0 : fdB d = false → ∀ H' x, Same H H' → IsExc H' x cc → E (.ref cc) (some x) H') (k1 : fdB d = true → ∀ H', Same H H' → Q .non H') : sp_look_field tbs cc [x] H Q E := ⟨x, d, r, n, rfl, hx, hb, hn, hT, k0, k1⟩
abbrev s_frac_of : Stmt := top 23
theorem sc_frac_of : FnScope ["top", "bottom"] ["top", "bottom"] (defScope s_frac_of) := ⟨rfl, rfl, rfl, by decide +kernel, rfl, by decide +kernel, by decide +kernel⟩
def sp_frac_of : Sp := fun vs H Q _ => ∃ (a b : Int) (n : Nat), vs = [.int a, .int b] ∧ a.natAbs < 2 ^ n ∧ b.natAbs < 2 ^ n ∧ n ≤ 8000 ∧ b ≠ 0 ∧ ∀ v H', Same H H' → Fr n H' v (Rat.divInt a b) → Q v H'

set_option maxHeartbeats 4000000 in
theorem ok_frac_of {f : Addr} {fd : FuncData} (F : Fun K "frac_of" "frac_of" s_frac_of f fd) (m : mg "frac_of" = some (.ref f)) (b : Binds K fd ["top", "bottom"] []) (C_in_lowest : Cal P w K mg base 2 "in_lowest" ["top", "bottom"] sp_in_lowest) (C_is_whole : Cal P w K mg base 1 "is_whole" ["thing"] sp_is_whole) : Cal P w K mg base 3 "frac_of" ["top", "bottom"] sp_frac_of := by
  refine cal_ofW F sc_frac_of m b (fun vs H Q E h => ?_) (fun cdv A outer s H vs Q E hr h => ?_)
  · obtain ⟨a, b, n, rfl, _⟩ := h
    rfl
  · obtain ⟨a, b, n, rfl, h1, h2, hn, k0, k1⟩ := h
    refine ⟨_, (wss_cons (ws_if (PW.pt (pw_or (pt_not (pt_val (pe_callC C_is_whole hr (by decide) (by rfl) (pa_cons (pv 0) pa_nil se_Name) (by decide) se_Name (se_any rfl)))) (pw_or1 (pt_not (pt_val (pe_callC C_is_whole hr (by decide) (by rfl) (pa_cons (pv 1) pa_nil se_Name) (by decide) se_Name (se_any rfl))))))) (wss_one ws_never) wss_nil)
        (wss_cons (ws_if (pt_cmpR (op_eqA hr.units) (pv 1) pe_int (nomark _)) (wss_one ws_never) wss_nil)
        (wss_one ⟨(ps_ret (pe_callC C_in_lowest hr (by decide) (by rfl) (pa_cons (pv 0) (pa_cons (pv 1) pa_nil se_Name) se_Name) (by decide) se_Name (se_any rfl)))⟩))), ?_⟩
    have e : start ["top", "bottom"] [V.int a, V.int b] = [some (V.int a), some (V.int b)] := rfl
    rw [e]
    try walk_at "vc"
    refine u_is_whole (r := 0) (.int a) ?_
    try walk_at "vc"
    simp only [isWh, Bool.not_true, Bool.false_eq_true, if_false]
    refine u_is_whole (r := 0) (.int b) ?_
    try walk_at "vc"
    simp only [isWh, Bool.not_true, Bool.false_eq_true, if_false]
    refine eq_i ?_
    try walk_at "vc"
    refine ite_d (fun c => absurd c k0) (fun c => ?_)
    exact ⟨a, b, n, rfl, c, h1, h2, hn, k1⟩
theorem u_frac_of (n : Nat) {a b : Int} {H : Hp} {Q : VK} {E : XK} (hb : b ≠ 0) (h1 : a.natAbs < 2 ^ n) (h2 : b.natAbs < 2 ^ n) (hn : n ≤ 8000) (k : ∀ v H', Same H H' → Fr n H' v (Rat.divInt a b) → Q v H') : sp_frac_of [.int a, .int b] H Q E := ⟨a, b, n, rfl, h1, h2, hn, hb, k⟩
abbrev s_is_corner_number : Stmt := top 42
theorem sc_is_corner_number : FnScope ["field", "thing"] ["field", "thing"] (defScope s_is_corner_number) := ⟨rfl, rfl, rfl, by decide +kernel, rfl, by decide +kernel, by decide +kernel⟩
def cnB (m : Nat) : PyData → Bool
  | .int i => decide (0 ≤ i) && decide (i < m)
  | _ => false
def sp_is_corner_number : Sp := fun vs H Q _ => ∃ (p : Addr) (x : V) (xs : List V) (d : PyData) (r : Addr), vs = [.ref p, x] ∧ H p = some (.tup xs) ∧ Rp r H x d ∧ Q (.bl (cnB xs.length d)) H

set_option maxHeartbeats 4000000 in
theorem ok_is_corner_number {f : Addr} {fd : FuncData} (F : Fun K "is_corner_number" "is_corner_number" s_is_corner_number f fd) (m : mg "is_corner_number" = some (.ref f)) (b : Binds K fd ["field", "thing"] []) (z_len : mg "len" = none) (C_is_whole : Cal P w K mg base 1 "is_whole" ["thing"] sp_is_whole) : Cal P w K mg base 2 "is_corner_number" ["field", "thing"] sp_is_corner_number := by
  refine cal_ofW F sc_is_corner_number m b (fun vs H Q E h => ?_) (fun cdv A outer s H vs Q E hr h => ?_)
  · obtain ⟨p, x, xs, d, r, rfl, _⟩ := h
    rfl
  · obtain ⟨p, x, xs, d, r, rfl, ep, hx, k⟩ := h
    refine ⟨_, (wss_one ⟨(ps_ret (pe_and (pe_callC C_is_whole hr (by decide) (by rfl) (pa_cons (pv 1) pa_nil se_Name) (by decide) se_Name (se_any rfl)) (pe_one (pe_chain op_le op_lt pe_int (pv 1) (pe_callB call_lenA (by rfl) z_len bt_len (pa_cons (pv 0) pa_nil se_Name))))))⟩), ?_⟩
    have e : start ["field", "thing"] [V.ref p, x] = [some (V.ref p), some x] := rfl
    rw [e]
    try walk_at "vc"
    refine u_is_whole hx ?_
    try walk_at "vc"
    cases d with
    | int i =>
      cases hx
      simp only [isWh, if_true]
      try walk_at "vc"
      unfold tChain
      try walk_at "vc"
      refine ite_d (fun c => ?_) (fun c => ?_)
      · refine len_t ep ?_
        have : cnB xs.length (.int i) = decide (i < (xs.length : Int)) := by
          show (decide (0 ≤ i) && decide (i < (xs.length : Int))) = _
          rw [decide_eq_true c, Bool.true_and]
        rw [this] at k
        try walk_at "vc"
        exact k
      · have : cnB xs.length (.int i) = false := by
          show (decide (0 ≤ i) && decide (i < (xs.length : Int))) = _
          rw [decide_eq_false c, Bool.false_and]
        rw [this] at k
        exact k
    | _ =>
      simp only [isWh, if_false, Bool.false_eq_true]
      exact k
theorem u_is_corner_number {p : Addr} {x : V} {xs : List V} {d : PyData} {r : Addr} {H : Hp} {Q : VK} {E : XK} (ep : H p = some (.tup xs)) (hx : Rp r H x d) (k : Q (.bl (cnB xs.length d)) H) : sp_is_corner_number [.ref p, x] H Q E := ⟨p, x, xs, d, r, rfl, ep, hx, k⟩
abbrev s_fan_of : Stmt := top 45
theorem sc_fan_of : FnScope ["field", "c", "begun", "k"] ["field", "c"] (defScope s_fan_of) := ⟨rfl, rfl, rfl, by decide +kernel, rfl, by decide +kernel, by decide +kernel⟩
theorem cut_drop {xs : List V} {k : Int} (h0 : 0 ≤ k) (h1 : k ≤ xs.length) : cutV xs (some k) none = xs.drop k.toNat := by
  unfold cutV HT.sIx
  simp only
  rw [if_neg (by omega), Nat.min_eq_left (by omega)]
  exact List.take_of_length_le (by rw [List.length_drop]; exact Nat.le_refl _)
theorem cut_take {xs : List V} {k : Int} (h0 : 0 ≤ k) (h1 : k ≤ xs.length) : cutV xs none (some k) = xs.take k.toNat := by
  unfold cutV HT.sIx
  simp only
  rw [if_neg (by omega), Nat.min_eq_left (by omega), List.drop_zero, Nat.sub_zero]
theorem spl_app {m : Nat} {H : Hp} : ∀ {xs : List V} {ps : List (Rat × Rat)} {ys : List V} {qs : List (Rat × Rat)}, SpL m H xs ps → SpL m H ys qs → SpL m H (xs ++ ys) (ps ++ qs) := fun {xs ps ys qs} h1 h2 => by
  refine ⟨by rw [List.length_append, List.length_append, h1.1, h2.1], fun i x e => ?_⟩
  by_cases c : i < xs.length
  · rw [List.getElem?_append_left c] at e
    obtain ⟨p, e1, hp⟩ := h1.2 i x e
    exact ⟨p, by rw [List.getElem?_append_left (by rw [← h1.1]; exact c)]; exact e1, hp⟩
  · rw [List.getElem?_append_right (by omega)] at e
    obtain ⟨p, e1, hp⟩ := h2.2 _ x e
    exact ⟨p, by rw [List.getElem?_append_right (by rw [← h1.1]; omega), ← h1.1]; exact e1, hp⟩
theorem spl_drop {m : Nat} {H : Hp} {xs : List V} {ps : List (Rat × Rat)} (k : Nat) (h : SpL m H xs ps) : SpL m H (xs.drop k) (ps.drop k) := ⟨by rw [List.length_drop, List.length_drop, h.1], fun i x e => by
  rw [List.getElem?_drop] at e
  obtain ⟨p, e1, hp⟩ := h.2 _ x e
  exact ⟨p, by rw [List.getElem?_drop]; exact e1, hp⟩⟩
theorem spl_take {m : Nat} {H : Hp} {xs : List V} {ps : List (Rat × Rat)} (k : Nat) (h : SpL m H xs ps) : SpL m H (xs.take k) (ps.take k) := ⟨by rw [List.length_take, List.length_take, h.1], fun i x e => by
  rw [List.getElem?_take] at e
  by_cases c : i < k
  · rw [if_pos c] at e
    obtain ⟨p, e1, hp⟩ := h.2 _ x e
    exact ⟨p, by rw [List.getElem?_take, if_pos c]; exact e1, hp⟩
  · rw [if_neg c] at e; cases e⟩
def psOf : PyData → List (Rat × Rat)
  | .tuple ds => ds.map toS
  | _ => []
theorem fd_tps {r : Addr} {H : Hp} {x : V} {d : PyData} {n : Nat} (hx : Rp r H x d) (hb : bdD n d) (hF : fdB d = true) : ∃ p, x = .ref p ∧ p ≠ r ∧ Tps n H p (psOf d) ∧ 3 ≤ (psOf d).length ∧ (psOf d).length ≤ 6 := by
  cases hx with
  | tup h1 h2 h3 =>
    rename_i aa xx dd
    have eF : fdB (.tuple dd) = (decide (3 ≤ dd.length) && decide (dd.length ≤ 6) && dd.all spB && (List.range dd.length).all (olB (dd.map toS))) := rfl
    rw [eF, Bool.and_eq_true, Bool.and_eq_true, Bool.and_eq_true, decide_eq_true_eq, decide_eq_true_eq] at hF
    refine ⟨aa, rfl, h2, ⟨_, h1, spl_rp h3 hb hF.1.2⟩, ?_, ?_⟩
    · show 3 ≤ (dd.map toS).length; rw [List.length_map]; exact hF.1.1.1
    · show (dd.map toS).length ≤ 6; rw [List.length_map]; exact hF.1.1.2
  | _ => cases hF
theorem cn_nat {m : Nat} {d : PyData} (h : cnB m d = true) : ∃ c : Nat, d = .int c ∧ c < m := by
  cases d with
  | int i =>
    have h : (decide (0 ≤ i) && decide (i < (m : Int))) = true := h
    rw [Bool.and_eq_true, decide_eq_true_eq, decide_eq_true_eq] at h
    exact ⟨i.toNat, by congr 1; omega, by omega⟩
  | _ => cases h
def rotP (ps : List (Rat × Rat)) (c : Nat) : List (Rat × Rat) := ps.drop c ++ ps.take c
theorem rotP_len {ps : List (Rat × Rat)} {c : Nat} (h : c ≤ ps.length) : (rotP ps c).length = ps.length := by
  unfold rotP
  rw [List.length_append, List.length_drop, List.length_take]
  omega
/-- the pieces of a fan -/
def fanP (qs : List (Rat × Rat)) : List (List (Rat × Rat)) := (List.range (qs.length - 2)).map fun k => [gp qs 0, gp qs (k + 1), gp qs (k + 2)]
/-- a list of tuples of spots -/
structure Pcs (m : Nat) (H : Hp) (xs : List V) (pss : List (List (Rat × Rat))) : Prop where
  len : xs.length = pss.length
  at_ : ∀ (i : Nat) x, xs[i]? = some x → ∃ p ps, x = .ref p ∧ pss[i]? = some ps ∧ Tps m H p ps
theorem Pcs.tk {m : Nat} {H H' : Hp} {xs : List V} {pss : List (List (Rat × Rat))} (t : Tk H H') (h : Pcs m H xs pss) : Pcs m H' xs pss := ⟨h.len, fun i x e => let ⟨p, ps, e1, e2, hp⟩ := h.at_ i x e; ⟨p, ps, e1, e2, hp.tk t⟩⟩
theorem Pcs.nil {m : Nat} {H : Hp} : Pcs m H [] [] := ⟨rfl, fun i x e => by cases e⟩
theorem Pcs.snoc {m : Nat} {H : Hp} {xs : List V} {pss : List (List (Rat × Rat))} {p : Addr} {ps : List (Rat × Rat)} (h : Pcs m H xs pss) (hp : Tps m H p ps) : Pcs m H (xs ++ [.ref p]) (pss ++ [ps]) := by
  refine ⟨by rw [List.length_append, List.length_append, h.len]; rfl, fun i x e => ?_⟩
  by_cases c : i < xs.length
  · rw [List.getElem?_append_left c] at e
    obtain ⟨q, qs, e1, e2, hq⟩ := h.at_ i x e
    exact ⟨q, qs, e1, by rw [List.getElem?_append_left (by rw [← h.len]; exact c)]; exact e2, hq⟩
  · rw [List.getElem?_append_right (by omega)] at e
    have hl := h.len
    cases z : i - xs.length with
    | zero =>
      rw [z] at e
      cases e
      exact ⟨p, ps, rfl, by rw [List.getElem?_append_right (by omega), ← hl, z]; rfl, hp⟩
    | succ q => rw [z] at e; simp at e
theorem Pcs.app {m : Nat} {H : Hp} {xs ys : List V} {pss qss : List (List (Rat × Rat))} (h : Pcs m H xs pss) (h' : Pcs m H ys qss) : Pcs m H (xs ++ ys) (pss ++ qss) := by
  refine ⟨by rw [List.length_append, List.length_append, h.len, h'.len], fun i x e => ?_⟩
  have hl := h.len
  by_cases c : i < xs.length
  · rw [List.getElem?_append_left c] at e
    obtain ⟨q, qs, e1, e2, hq⟩ := h.at_ i x e
    exact ⟨q, qs, e1, by rw [List.getElem?_append_left (by omega)]; exact e2, hq⟩
  · rw [List.getElem?_append_right (by omega)] at e
    obtain ⟨q, qs, e1, e2, hq⟩ := h'.at_ _ x e
    exact ⟨q, qs, e1, by rw [List.getElem?_append_right (by omega), ← hl]; exact e2, hq⟩
theorem newP3 {m : Nat} {H : Hp} {Q : VK} {x y z : V} {a b c : Rat × Rat} (h1 : Spt m H x a) (h2 : Spt m H y b) (h3 : Spt m H z c) (k : ∀ p H', Same H H' → H p = none → Tps m H' p [a, b, c] → Q (.ref p) H') : NewT [x, y, z] H Q :=
  newT (Nat.le_of_ble_eq_true rfl) fun p H' s hp e => k p H' s hp ⟨_, e, rfl, fun i v ei => by
    match i, ei with
    | 0, ei => cases ei; exact ⟨_, rfl, h1.tk s.tk⟩
    | 1, ei => cases ei; exact ⟨_, rfl, h2.tk s.tk⟩
    | 2, ei => cases ei; exact ⟨_, rfl, h3.tk s.tk⟩
    | i + 3, ei => simp at ei⟩
theorem Tps.rot {K : PySem.W.Frag} {m : Nat} {H : Hp} {p : Addr} {ps : List (Rat × Rat)} {c : Nat} {Q : VK} (h : Tps m H p ps) (hc : c ≤ ps.length) (hl : ps.length ≤ 500) (k : ∀ q H', Same H H' → (q = p ∨ H q = none) → Tps m H' q (rotP ps c) → Q (.ref q) H') :
    rSlTA K (.ref p) (some (c : Int)) none H fun x H1 => rSlTA K (.ref p) none (some (c : Int)) H1 fun y H2 => rCatA K x y H2 Q := by
  obtain ⟨xs, e, hx⟩ := h.ex
  have hl2 := hx.1
  refine slTB e (fun q1 H1 s1 e1 n1 => ?_)
  refine slTB (s1 _ _ e) (fun q2 H2 s2 e2 n2 => ?_)
  rw [cut_drop (by omega) (by omega)] at e1
  rw [cut_take (by omega) (by omega)] at e2
  refine catTB (s2 _ _ e1) e2 (by rw [List.length_drop, List.length_take]; omega) (fun q H3 s3 e3 n3 => ?_)
  have S := s1.trans (s2.trans s3)
  refine k q H3 S ?_ ⟨_, e3, ?_⟩
  · rcases n3 with rfl | rfl | n
    · exact n1
    · rcases n2 with n | n
      · exact .inl n
      · exact .inr (none_of s1 n)
    · exact .inr (none_of (s1.trans s2) n)
  · have := spl_app (spl_drop c (hx.tk S.tk)) (spl_take c (hx.tk S.tk))
    exact this
def sp_fan_of (tbs : List Addr) (c_NoField c_NoWay : Addr) : Sp := fun vs H Q E => ∃ (x cv : V) (d dc : PyData) (r : Addr) (n : Nat), vs = [x, cv] ∧ Rp r H x d ∧ bdD n d ∧ n ≤ 1000 ∧ Rp r H cv dc ∧ Tbs tbs H ∧ (fdB d = false → ∀ H' x, Same H H' → IsExc H' x c_NoField → E (.ref c_NoField) (some x) H') ∧
  (fdB d = true → cnB (psOf d).length dc = false → ∀ H' x, Same H H' → IsExc H' x c_NoWay → E (.ref c_NoWay) (some x) H') ∧
  (fdB d = true → ∀ c : Nat, dc = .int c → c < (psOf d).length → ∀ p xs H', Same H H' → H p = none → H' p = some (.lst xs) → Pcs n H' xs (fanP (rotP (psOf d) c)) → Q (.ref p) H')

set_option maxHeartbeats 4000000 in
theorem ok_fan_of {f : Addr} {fd : FuncData} (F : Fun K "fan_of" "fan_of" s_fan_of f fd) (m : mg "fan_of" = some (.ref f)) (b : Binds K fd ["field", "c"] []) (z_range : mg "range" = none) (z_len : mg "len" = none) (C_look_field : Cal2 P w K mg base 7 "look_field" ["thing"] (sp_look_field tbs c_NoField)) (C_is_corner_number : Cal P w K mg base 2 "is_corner_number" ["field", "thing"] sp_is_corner_number) (X_NoWay : XC K mg base "NoWay" c_NoWay c_ShardError) : Cal2 P w K mg base 8 "fan_of" ["field", "c"] (sp_fan_of tbs c_NoField c_NoWay) := by
  refine cal2_ofW F sc_fan_of m b (fun vs H Q E h => ?_) (fun cdv A outer s H vs Q E hr h => ?_)
  · obtain ⟨x, cv, d, dc, r, n, rfl, _⟩ := h
    rfl
  · obtain ⟨x, cv, d, dc, r, n, rfl, hx, hb, hn, hc, hT, k0, k1, k2⟩ := h
    refine ⟨_, (wss_cons ⟨(ps_expr (pe_callP2 C_look_field hr (by decide) (by rfl) (pa_cons (pv 0) pa_nil se_Name) (by decide) se_Name (se_any rfl)))⟩
        (wss_cons (ws_if (pt_not (pt_val (pe_callC C_is_corner_number hr (by decide) (by rfl) (pa_cons (pv 0) (pa_cons (pv 1) pa_nil se_Name) se_Name) (by decide) se_Name (se_any rfl)))) (wss_one (ws_raise2 X_NoWay.own (by rfl) pe_str rfl)) wss_nil)
        (wss_cons (ws_nox ⟨(ps_set (i := 2) sc_fan_of.nd rfl (by first | exact Or.inl rfl | exact Or.inr rfl) (pe_op op_catA (pe_slice sl_tupA (pv 0) (po_some (pv 1)) po_none) (pe_slice sl_tupA (pv 0) po_none (po_some (pv 1)))))⟩)
        (wss_one (ws_nox ⟨(ps_ret (pe_lc (own := [("k", 3)]) (g := gName 3) (by rfl) sc_fan_of.nd (pi_range2 (by rfl) z_range (pa_cons pe_int (pa_cons (pe_op op_sub (pe_callB call_lenA (by rfl) z_len bt_len (pa_cons (pv 2) pa_nil se_Name)) pe_int) pa_nil se_BinOp) se_Constant)) (blkOk_by (own := [("k", 3)]) (N := ["field", "c", "begun", "k"]) (sc := defScope s_fan_of) (by decide +kernel)) (fun _ _ _ _ _ => pg_name (i := 3) sc_fan_of.nd rfl (by first | exact Or.inl rfl | exact Or.inr rfl)) (fun _ _ _ _ _ => pts_nil) (fun _ _ _ _ _ => (pe_tup (pa_cons (pe_ix (ix_seqK rfl) (pv 2) pe_int (fun _ _ => rfl)) (pa_cons (pe_ix (ix_seqK rfl) (pv 2) (pv 3) (fun _ _ => rfl)) (pa_cons (pe_ix (ix_seqK rfl) (pv 2) (pe_op op_addA (pv 3) pe_int) (fun _ _ => rfl)) pa_nil se_Subscript) se_Subscript) se_Subscript)))))⟩))))), ?_⟩
    have e : start ["field", "c", "begun", "k"] [x, cv] = [some x, some cv, none, none] := rfl
    rw [e]
    try walk_at "vc"
    refine u_look_field hx hb hn hT k0 (fun hF H1 s1 => ?_)
    obtain ⟨p, rfl, npr, hp, h3, h6⟩ := fd_tps hx hb hF
    have hp1 := hp.tk s1.tk
    obtain ⟨xs, ex, hxs⟩ := hp1.ex
    try walk_at "vc"
    refine u_is_corner_number ex (hc.up s1.kp) ?_
    try walk_at "vc"
    rw [hxs.1]
    cases hcn : cnB (psOf d).length dc with
    | false =>
      try walk_at "vc"
      exact ⟨rfl, fun y hy => k1 hF hcn _ y (s1.trans (same_upd hy)) (IsExc.x upd_same)⟩
    | true =>
      try walk_at "vc"
      obtain ⟨c, rfl, hcl⟩ := cn_nat hcn
      cases hc
      refine ⟨_, rfl, ?_⟩
      try walk_at "vc"
      refine Tps.rot hp1 (by omega) (by omega) (fun q H2 s2 nq hq => ?_)
      have hql := rotP_len (ps := psOf d) (c := c) (by omega)
      obtain ⟨ys, ey, hys⟩ := hq.ex
      refine len_t ey ?_
      try walk_at "vc"
      have hyl := hys.1
      refine ⟨by omega, by omega, by omega, by omega, fun D hD => ?_⟩
      have nD : q ≠ D := ne_of_none ey hD
      have nn : ((ys.length : Int) - 1 - 1).toNat = (psOf d).length - 2 := by omega
      rw [nn]
      refine lcR (fun i J => Kp D H2 J ∧ Tk H2 J ∧ ∃ vs, J D = some (.lst vs) ∧ Pcs n J vs ((fanP (rotP (psOf d) c)).take i)) ⟨kp_upd, (same_upd hD).tk, [], upd_same, by rw [List.take_zero]; exact Pcs.nil⟩ ?_ ?_
      · rintro i J hi ⟨kJ, tJ, vs, eD, hv⟩
        have hqJ := hq.tk tJ
        try walk_at "vc"
        refine hqJ.ix (k := 0) rfl (by omega) (fun v0 f0 => ?_)
        try walk_at "vc"
        refine hqJ.ix (k := i + 1) (by omega) (by omega) (fun v1 f1 => ?_)
        try walk_at "vc"
        refine hqJ.ix (k := i + 2) (by omega) (by omega) (fun v2 f2 => ?_)
        refine newP3 f0 f1 f2 (fun t J2 s2 ht htp => ?_)
        have eD2 := s2 _ _ eD
        have tu := tk_upd (o := .lst (vs ++ [.ref t])) eD2
        have hvl := hv.len
        rw [List.length_take] at hvl
        have hfl : (fanP (rotP (psOf d) c)).length = (psOf d).length - 2 := by unfold fanP; rw [List.length_map, List.length_range, hql]
        refine ⟨_, eD2, small1000 (by omega), (kJ.trans s2.kp).trans kp_upd, tJ.trans (s2.tk.trans tu), _, upd_same, ?_⟩
        have et : (fanP (rotP (psOf d) c)).take (i + 1) = (fanP (rotP (psOf d) c)).take i ++ [[gp (rotP (psOf d) c) 0, gp (rotP (psOf d) c) (i + 1), gp (rotP (psOf d) c) (i + 2)]] := by
          rw [List.take_succ]
          congr 1
          unfold fanP
          rw [List.getElem?_map, List.getElem?_range (by omega)]
          rfl
        rw [et]
        exact (hv.tk (s2.tk.trans tu)).snoc (htp.tk tu)
      rintro J ⟨kJ, tJ, vs, eD, hv⟩
      rw [List.take_of_length_le (by unfold fanP; rw [List.length_map, List.length_range, hql]; exact Nat.le_refl _)] at hv
      exact k2 hF c rfl hcl D vs J (s1.trans (s2.trans (same_of_kp kJ hD))) (none_of (s1.trans s2) hD) eD hv
theorem u_fan_of {tbs : List Addr} {ca cb : Addr} {x cv : V} {d dc : PyData} {r : Addr} {n : Nat} {H : Hp} {Q : VK} {E : XK} (hx : Rp r H x d) (hb : bdD n d) (hn : n ≤ 1000) (hc : Rp r H cv dc) (hT : Tbs tbs H) (k0 : fdB d = false → ∀ H' x, Same H H' → IsExc H' x ca → E (.ref ca) (some x) H')
  (k1 : fdB d = true → cnB (psOf d).length dc = false → ∀ H' x, Same H H' → IsExc H' x cb → E (.ref cb) (some x) H')
  (k2 : fdB d = true → ∀ c : Nat, dc = .int c → c < (psOf d).length → ∀ p xs H', Same H H' → H p = none → H' p = some (.lst xs) → Pcs n H' xs (fanP (rotP (psOf d) c)) → Q (.ref p) H') : sp_fan_of tbs ca cb [x, cv] H Q E := ⟨x, cv, d, dc, r, n, rfl, hx, hb, hn, hc, hT, k0, k1, k2⟩
abbrev s_common_bottom : Stmt := top 46
theorem sc_common_bottom : FnScope ["parts", "common", "part"] ["parts"] (defScope s_common_bottom) := ⟨rfl, rfl, rfl, by decide +kernel, rfl, by decide +kernel, by decide +kernel⟩
def lcmL (ds : List Nat) : Nat := ds.foldl Nat.lcm 1
def gcdL (ns : List Int) : Nat := ns.foldl (fun g n => g.gcd n.natAbs) 0
theorem lcmL_pos {ds : List Nat} : ∀ {a : Nat}, 0 < a → (∀ d ∈ ds, 0 < d) → 0 < ds.foldl Nat.lcm a := by
  induction ds with
  | nil => intro a h _; exact h
  | cons d ds ih => intro a h hd; exact ih (Nat.lcm_pos h (hd d List.mem_cons_self)) fun e he => hd e (List.mem_cons_of_mem _ he)
theorem lcmL_dvd {ds : List Nat} : ∀ {a : Nat}, a ∣ ds.foldl Nat.lcm a ∧ ∀ d ∈ ds, d ∣ ds.foldl Nat.lcm a := by
  induction ds with
  | nil => intro a; exact ⟨Nat.dvd_refl _, fun d h => nomatch h⟩
  | cons d ds ih =>
    intro a
    obtain ⟨h1, h2⟩ := ih (a := a.lcm d)
    refine ⟨Nat.dvd_trans (Nat.dvd_lcm_left a d) h1, fun e he => ?_⟩
    rcases List.mem_cons.mp he with rfl | he
    · exact Nat.dvd_trans (Nat.dvd_lcm_right a e) h1
    · exact h2 e he
theorem lcm_bd {a b m n : Nat} (ha : a < 2 ^ m) (hb : b < 2 ^ n) (h0 : 0 < a) (h1 : 0 < b) : a.lcm b < 2 ^ (m + n) := by
  have h2 : a.lcm b ≤ a * b := Nat.le_of_dvd (Nat.mul_pos h0 h1) (Nat.lcm_dvd_mul a b)
  rw [Nat.pow_add]
  have := Nat.mul_lt_mul'' ha hb
  omega
theorem lcmL_bd {m : Nat} {ds : List Nat} : ∀ {a k : Nat}, 0 < a → a < 2 ^ k → (∀ d ∈ ds, 0 < d ∧ d < 2 ^ m) → ds.foldl Nat.lcm a < 2 ^ (k + m * ds.length) := by
  induction ds with
  | nil => intro a k _ h _; exact h
  | cons d ds ih =>
    intro a k h0 h hd
    obtain ⟨d0, d1⟩ := hd d List.mem_cons_self
    have := ih (a := a.lcm d) (k := k + m) (Nat.lcm_pos h0 d0) (lcm_bd h d1 h0 d0) fun e he => hd e (List.mem_cons_of_mem _ he)
    rw [List.length_cons, Nat.mul_add, Nat.mul_one]
    rw [show k + (m * ds.length + m) = k + m + m * ds.length by omega]
    exact this
theorem gcdL_dvd {ns : List Int} : ∀ {g : Nat}, ns.foldl (fun g n => g.gcd n.natAbs) g ∣ g ∧ ∀ n ∈ ns, ns.foldl (fun g n => g.gcd n.natAbs) g ∣ n.natAbs := by
  induction ns with
  | nil => intro g; exact ⟨Nat.dvd_refl _, fun n h => nomatch h⟩
  | cons n ns ih =>
    intro g
    obtain ⟨h1, h2⟩ := ih (g := g.gcd n.natAbs)
    refine ⟨Nat.dvd_trans h1 (Nat.gcd_dvd_left _ _), fun e he => ?_⟩
    rcases List.mem_cons.mp he with rfl | he
    · exact Nat.dvd_trans h1 (Nat.gcd_dvd_right _ _)
    · exact h2 e he
/-- the whole numbers of a list of fractions over their common bottom -/
def topsL (qs : List Rat) : List Int := qs.map fun q => q.num * ((lcmL (qs.map (·.den)) / q.den : Nat) : Int)
def shL (qs : List Rat) : List Int := (topsL qs).map fun t => t / ((gcdL (topsL qs) : Nat) : Int)
/-- a list of fractions -/
structure FrQ (m : Nat) (H : Hp) (xs : List V) (qs : List Rat) : Prop where
  len : xs.length = qs.length
  at_ : ∀ (i : Nat) x, xs[i]? = some x → ∃ q, qs[i]? = some q ∧ Fr m H x q
theorem FrQ.tk {m : Nat} {H H' : Hp} {xs : List V} {qs : List Rat} (t : Tk H H') (h : FrQ m H xs qs) : FrQ m H' xs qs := ⟨h.len, fun i x e => let ⟨q, e1, hq⟩ := h.at_ i x e; ⟨q, e1, hq.tk t⟩⟩
theorem FrQ.nil {m : Nat} {H : Hp} : FrQ m H [] [] := ⟨rfl, fun i x e => by cases e⟩
theorem FrQ.snoc {m : Nat} {H : Hp} {xs : List V} {qs : List Rat} {x : V} {q : Rat} (h : FrQ m H xs qs) (hx : Fr m H x q) : FrQ m H (xs ++ [x]) (qs ++ [q]) := by
  have hl := h.len
  refine ⟨by rw [List.length_append, List.length_append, h.len]; rfl, fun i y e => ?_⟩
  by_cases c : i < xs.length
  · rw [List.getElem?_append_left c] at e
    obtain ⟨q', e2, hq⟩ := h.at_ i y e
    exact ⟨q', by rw [List.getElem?_append_left (by omega)]; exact e2, hq⟩
  · rw [List.getElem?_append_right (by omega)] at e
    cases z : i - xs.length with
    | zero =>
      rw [z] at e
      cases e
      exact ⟨q, by rw [List.getElem?_append_right (by omega), ← hl, z]; rfl, hx⟩
    | succ k => rw [z] at e; simp at e
theorem FrQ.mem {m : Nat} {H : Hp} {xs : List V} {qs : List Rat} (h : FrQ m H xs qs) {q : Rat} (hq : q ∈ qs) : q.num.natAbs < 2 ^ m ∧ q.den < 2 ^ m := by
  obtain ⟨j, ej⟩ := List.getElem?_of_mem hq
  have hl := h.len
  obtain ⟨x', ex'⟩ : ∃ x', xs[j]? = some x' := ⟨_, List.getElem?_eq_getElem (by have := (List.getElem?_eq_some_iff.mp ej).1; omega)⟩
  obtain ⟨q2, e2, f2⟩ := h.at_ j x' ex'
  rw [ej] at e2
  cases e2
  exact ⟨f2.nb, f2.db⟩
theorem lcm_fdiv {a b : Nat} (h0 : 0 < a) (h1 : 0 < b) : Int.fdiv (a : Int) ((a.gcd b : Nat) : Int) * (b : Int) = ((a.lcm b : Nat) : Int) := by
  rw [Int.fdiv_eq_ediv_of_nonneg _ (by omega)]
  have e : a / a.gcd b * b = a.lcm b := by
    unfold Nat.lcm
    exact Nat.div_mul_right_comm (Nat.gcd_dvd_left a b) b
  rw [← e]
  rfl
theorem lcm_fdiv' {a b : Nat} (h0 : 0 < a) (h1 : 0 < b) : (a : Int) * Int.fdiv (b : Int) ((a.gcd b : Nat) : Int) = ((a.lcm b : Nat) : Int) := by
  rw [Int.fdiv_eq_ediv_of_nonneg _ (by omega)]
  have e : a * (b / a.gcd b) = a.lcm b := by
    unfold Nat.lcm
    rw [Nat.mul_div_assoc _ (Nat.gcd_dvd_right a b)]
  rw [← e]
  rfl
theorem take_fold {qs : List Rat} {i : Nat} {q : Rat} (h : qs[i]? = some q) : lcmL ((qs.take (i + 1)).map (·.den)) = (lcmL ((qs.take i).map (·.den))).lcm q.den := by
  unfold lcmL
  rw [List.take_succ, h, List.map_append, List.foldl_append]
  rfl
theorem lcm_take_pos {qs : List Rat} {i : Nat} : 0 < lcmL ((qs.take i).map (·.den)) := lcmL_pos (by decide) fun d hd => by
  obtain ⟨q', _, rfl⟩ := List.mem_map.mp hd
  exact q'.den_pos
theorem lcm_take_bd {m : Nat} {H : Hp} {xs : List V} {qs : List Rat} {i : Nat} (hx : FrQ m H xs qs) (hm : m * qs.length ≤ 6000) : lcmL ((qs.take i).map (·.den)) < 2 ^ 6001 := by
  refine Nat.lt_of_lt_of_le (lcmL_bd (m := m) (a := 1) (k := 1) (by decide) (by decide) fun d hd => ?_) (Nat.pow_le_pow_right (by decide) ?_)
  · obtain ⟨q', hq', rfl⟩ := List.mem_map.mp hd
    exact ⟨q'.den_pos, (hx.mem (List.mem_of_mem_take hq')).2⟩
  · rw [List.length_map, List.length_take]
    have : m * min i qs.length ≤ m * qs.length := Nat.mul_le_mul_left _ (by omega)
    omega
theorem big_le {a m n : Nat} (h : a < 2 ^ m) (l : m ≤ n) : a < 2 ^ n := Nat.lt_of_lt_of_le h (Nat.pow_le_pow_right (by decide) l)
def sp_common_bottom : Sp := fun vs H Q _ => ∃ (a : Addr) (xs : List V) (qs : List Rat) (m : Nat), vs = [.ref a] ∧ H a = some (.lst xs) ∧ FrQ m H xs qs ∧ m * qs.length ≤ 6000 ∧ m ≤ 1000 ∧ Q (.int (lcmL (qs.map (·.den)) : Nat)) H

set_option maxHeartbeats 4000000 in
theorem ok_common_bottom {f : Addr} {fd : FuncData} (F : Fun K "common_bottom" "common_bottom" s_common_bottom f fd) (m : mg "common_bottom" = some (.ref f)) (b : Binds K fd ["parts"] []) (C_divisor : Cal P w K mg base 1 "divisor" ["one", "other"] sp_divisor) : Cal P w K mg base 2 "common_bottom" ["parts"] sp_common_bottom := by
  refine cal_ofW F sc_common_bottom m b (fun vs H Q E h => ?_) (fun cdv A outer s H vs Q E hr h => ?_)
  · obtain ⟨a, xs, qs, m, rfl, _⟩ := h
    rfl
  · obtain ⟨a, xs, qs, m, rfl, ea, hx, hm, hm9, k⟩ := h
    refine ⟨_, (wss_cons ⟨(ps_set (i := 1) sc_common_bottom.nd rfl (by first | exact Or.inl rfl | exact Or.inr rfl) pe_int)⟩
        (wss_cons (ws_for PassesOwn.never rfl ⟨(pi_list (pv 0))⟩ (pg_name (i := 2) sc_common_bottom.nd rfl (by first | exact Or.inl rfl | exact Or.inr rfl)) (wss_one ⟨(ps_set (i := 1) sc_common_bottom.nd rfl (by first | exact Or.inl rfl | exact Or.inr rfl) (pe_op op_mulB (pe_op op_fdivB (pv 1) (pe_callC C_divisor hr (by decide) (by rfl) (pa_cons (pv 1) (pa_cons (pe_ix ix_seq (pv 2) pe_int (fun _ _ => rfl)) pa_nil se_Subscript) se_Name) (by decide) se_Name (se_any rfl))) (pe_ix ix_seq (pv 2) pe_int (fun _ _ => rfl))))⟩))
        (wss_one ⟨(ps_ret (pv 1))⟩))), ?_⟩
    have e : start ["parts", "common", "part"] [V.ref a] = [some (V.ref a), none, none] := rfl
    rw [e]
    try walk_at "vc"
    have hxl := hx.len
    refine forL (xs := xs) (fun i σ H2 => ∃ o : Option V, σ = [some (V.ref a), some (V.int (lcmL ((qs.take i).map (·.den)) : Nat)), o] ∧ H2 = H) ⟨_, rfl, rfl⟩ (fun i σ H2 _ ⟨_, _, h2⟩ => h2 ▸ SqL.of ea) ?_ ?_
    · rintro i x σ H2 hi ⟨o, rfl, rfl⟩
      obtain ⟨q, eq, hq⟩ := hx.at_ i x hi
      try walk_at "vc"
      refine ix_fr1 hq ?_
      try walk_at "vc"
      have c0 := lcm_take_pos (qs := qs) (i := i)
      have c1 := lcm_take_bd (i := i) hx hm
      refine ⟨_, _, rfl, ?_⟩
      try walk_at "vc"
      rw [take_fold eq]
      generalize lcmL ((qs.take i).map (·.den)) = cm at *
      rw [Int.natAbs_natCast, Int.natAbs_natCast]
      have g0 := Nat.gcd_pos_of_pos_left q.den c0
      have g1 : cm.gcd q.den < 2 ^ 6001 := Nat.lt_of_le_of_lt (Nat.gcd_le_left q.den c0) c1
      refine ⟨⟨by omega, by rw [Int.natAbs_natCast]; exact big_le g1 (by decide)⟩, ?_⟩
      refine ix_fr1 hq ?_
      try walk_at "vc"
      refine ⟨mulOk (m := 6001) (Nat.lt_of_le_of_lt (Int.natAbs_fdiv_le_natAbs _ _) (by rw [Int.natAbs_natCast]; exact c1)) (den_bd hq.db) (by omega), ?_⟩
      rw [lcm_fdiv c0 q.den_pos]
    rintro σ H2 ⟨o, rfl, rfl⟩
    try walk_at "vc"
    rw [hxl, List.take_length]
    exact k
theorem u_common_bottom {a : Addr} {xs : List V} {qs : List Rat} {m : Nat} {H : Hp} {Q : VK} {E : XK} (ea : H a = some (.lst xs)) (hx : FrQ m H xs qs) (hm : m * qs.length ≤ 6000) (hm9 : m ≤ 1000) (k : Q (.int (lcmL (qs.map (·.den)) : Nat)) H) : sp_common_bottom [.ref a] H Q E := ⟨a, xs, qs, m, rfl, ea, hx, hm, hm9, k⟩
abbrev s_in_least : Stmt := top 47
theorem sc_in_least : FnScope ["numbers", "shared", "number"] ["numbers"] (defScope s_in_least) := ⟨rfl, rfl, rfl, by decide +kernel, rfl, by decide +kernel, by decide +kernel⟩
theorem gcd_take {ns : List Int} {i : Nat} {n : Int} (h : ns[i]? = some n) : gcdL (ns.take (i + 1)) = (gcdL (ns.take i)).gcd n.natAbs := by
  unfold gcdL
  rw [List.take_succ, h, List.foldl_append]
  rfl
theorem gcdL_mem {ns : List Int} {n : Int} (h : n ∈ ns) : gcdL ns ∣ n.natAbs := gcdL_dvd.2 n h
def sp_in_least : Sp := fun vs H Q _ => ∃ (a : Addr) (ns : List Int), vs = [.ref a] ∧ H a = some (.lst (ns.map V.int)) ∧ ns.length ≤ 900 ∧ (∀ n ∈ ns, 0 < n ∧ n.natAbs < 2 ^ 8000) ∧ ∀ p H', Same H H' → H p = none → H' p = some (.lst ((ns.map fun t => t / ((gcdL ns : Nat) : Int)).map V.int)) → Q (.ref p) H'

set_option maxHeartbeats 4000000 in
theorem ok_in_least {f : Addr} {fd : FuncData} (F : Fun K "in_least" "in_least" s_in_least f fd) (m : mg "in_least" = some (.ref f)) (b : Binds K fd ["numbers"] []) (C_divisor : Cal P w K mg base 1 "divisor" ["one", "other"] sp_divisor) : Cal P w K mg base 2 "in_least" ["numbers"] sp_in_least := by
  refine cal_ofW F sc_in_least m b (fun vs H Q E h => ?_) (fun cdv A outer s H vs Q E hr h => ?_)
  · obtain ⟨a, ns, rfl, _⟩ := h
    rfl
  · obtain ⟨a, ns, rfl, ea, hl, hns, k⟩ := h
    refine ⟨_, (wss_cons ⟨(ps_set (i := 1) sc_in_least.nd rfl (by first | exact Or.inl rfl | exact Or.inr rfl) pe_int)⟩
        (wss_cons (ws_for PassesOwn.never rfl ⟨(pi_list (pv 0))⟩ (pg_name (i := 2) sc_in_least.nd rfl (by first | exact Or.inl rfl | exact Or.inr rfl)) (wss_one ⟨(ps_set (i := 1) sc_in_least.nd rfl (by first | exact Or.inl rfl | exact Or.inr rfl) (pe_callC C_divisor hr (by decide) (by rfl) (pa_cons (pv 1) (pa_cons (pv 2) pa_nil se_Name) se_Name) (by decide) se_Name (se_any rfl)))⟩))
        (wss_one ⟨(ps_ret (pe_lc (own := [("number", 2)]) (g := gName 2) (by rfl) sc_in_least.nd (pi_list (pv 0)) (blkOk_by (own := [("number", 2)]) (N := ["numbers", "shared", "number"]) (sc := defScope s_in_least) (by decide +kernel)) (fun _ _ _ _ _ => pg_name (i := 2) sc_in_least.nd rfl (by first | exact Or.inl rfl | exact Or.inr rfl)) (fun _ _ _ _ _ => pts_nil) (fun _ _ _ _ _ => (pe_op op_fdivB (pv 2) (pv 1)))))⟩))), ?_⟩
    have e : start ["numbers", "shared", "number"] [V.ref a] = [some (V.ref a), none, none] := rfl
    rw [e]
    try walk_at "vc"
    refine forL (xs := ns.map V.int) (fun i σ H2 => ∃ o : Option V, σ = [some (V.ref a), some (V.int (gcdL (ns.take i) : Nat)), o] ∧ H2 = H) ⟨_, rfl, rfl⟩ (fun i σ H2 _ ⟨_, _, h2⟩ => h2 ▸ SqL.of ea) ?_ ?_
    · rintro i x σ H2 hi ⟨o, rfl, rfl⟩
      rw [List.getElem?_map] at hi
      cases en : ns[i]? with
      | none => rw [en] at hi; cases hi
      | some n =>
        rw [en] at hi
        cases hi
        try walk_at "vc"
        refine ⟨_, _, rfl, ?_⟩
        rw [Int.natAbs_natCast, gcd_take en]
        exact ⟨rfl, rfl⟩
    rintro σ H2 ⟨o, rfl, rfl⟩
    rw [List.length_map, List.take_length]
    try walk_at "vc"
    refine ⟨⟨_, SqL.of ea⟩, fun D hD => ?_⟩
    have nD : a ≠ D := ne_of_none ea hD
    refine lcL (xs := ns.map V.int) (fun i J => Kp D H2 J ∧ J D = some (.lst (((ns.map fun t => t / ((gcdL ns : Nat) : Int)).take i).map V.int))) ⟨kp_upd, by rw [List.take_zero]; exact upd_same⟩ (fun i J _ ⟨kJ, _⟩ => SqL.of (kJ _ _ ea nD)) ?_ ?_
    · rintro i x J hi ⟨kJ, eD⟩
      rw [List.getElem?_map] at hi
      cases en : ns[i]? with
      | none => rw [en] at hi; cases hi
      | some n =>
        rw [en] at hi
        cases hi
        try walk_at "vc"
        obtain ⟨n0, n1⟩ := hns n (List.mem_of_getElem? en)
        have gd := gcdL_mem (List.mem_of_getElem? en)
        have g0 : 0 < gcdL ns := Nat.pos_of_dvd_of_pos gd (by omega)
        have g1 := Nat.le_of_dvd (by omega) gd
        refine ⟨⟨by omega, by rw [Int.natAbs_natCast]; exact Nat.lt_of_le_of_lt g1 n1⟩, _, eD, small1000 (by rw [List.length_map, List.length_take, List.length_map]; omega), kJ.trans kp_upd, ?_⟩
        rw [upd_same, List.take_succ, List.getElem?_map, en, List.map_append, Int.fdiv_eq_ediv_of_nonneg _ (by omega)]
        rfl
    rintro J ⟨kJ, eD⟩
    rw [List.take_of_length_le (by rw [List.length_map, List.length_map]; exact Nat.le_refl _)] at eD
    exact k D J (same_of_kp kJ hD) hD eD
theorem u_in_least {a : Addr} {ns : List Int} {H : Hp} {Q : VK} {E : XK} (ea : H a = some (.lst (ns.map V.int))) (hl : ns.length ≤ 900) (hns : ∀ n ∈ ns, 0 < n ∧ n.natAbs < 2 ^ 8000) (k : ∀ p H', Same H H' → H p = none → H' p = some (.lst ((ns.map fun t => t / ((gcdL ns : Nat) : Int)).map V.int)) → Q (.ref p) H') : sp_in_least [.ref a] H Q E := ⟨a, ns, rfl, ea, hl, hns, k⟩
abbrev s_shares_in : Stmt := top 48
theorem sc_shares_in : FnScope ["fan", "piece", "twices", "common", "twice"] ["fan"] (defScope s_shares_in) := ⟨rfl, rfl, rfl, by decide +kernel, rfl, by decide +kernel, by decide +kernel⟩
def twP : List (Rat × Rat) → Rat
  | [a, b, c] => tw a b c
  | _ => 0
theorem tops_pos {qs : List Rat} (h : ∀ q ∈ qs, 0 < q) {t : Int} (ht : t ∈ topsL qs) : 0 < t := by
  obtain ⟨q, hq, rfl⟩ := List.mem_map.mp ht
  have h1 : 0 < q.num := by have := (Rat.lt_iff 0 q).mp (h q hq); simpa using this
  have h2 : 0 < lcmL (qs.map (·.den)) := lcmL_pos (by decide) fun d hd => by
    obtain ⟨q', _, rfl⟩ := List.mem_map.mp hd
    exact q'.den_pos
  have h3 : q.den ∣ lcmL (qs.map (·.den)) := lcmL_dvd.2 _ (List.mem_map.mpr ⟨q, hq, rfl⟩)
  have h4 : 0 < lcmL (qs.map (·.den)) / q.den := Nat.div_pos (Nat.le_of_dvd h2 h3) q.den_pos
  exact Int.mul_pos h1 (by omega)
def sp_shares_in : Sp := fun vs H Q _ => ∃ (a : Addr) (xs : List V) (pss : List (List (Rat × Rat))) (m : Nat), vs = [.ref a] ∧ H a = some (.lst xs) ∧ Pcs m H xs pss ∧ m ≤ 120 ∧ pss.length ≤ 5 ∧ (∀ ps ∈ pss, ps.length = 3 ∧ 0 < twP ps) ∧ ∀ p H', Same H H' → H p = none → H' p = some (.lst ((shL (pss.map twP)).map V.int)) → Q (.ref p) H'

set_option maxHeartbeats 4000000 in
theorem ok_shares_in {f : Addr} {fd : FuncData} (F : Fun K "shares_in" "shares_in" s_shares_in f fd) (m : mg "shares_in" = some (.ref f)) (b : Binds K fd ["fan"] []) (C_common_bottom : Cal P w K mg base 2 "common_bottom" ["parts"] sp_common_bottom) (C_in_least : Cal P w K mg base 2 "in_least" ["numbers"] sp_in_least) (C_twice_of : Cal P w K mg base 4 "twice_of" ["one", "other", "third"] sp_twice_of) : Cal P w K mg base 5 "shares_in" ["fan"] sp_shares_in := by
  refine cal_ofW F sc_shares_in m b (fun vs H Q E h => ?_) (fun cdv A outer s H vs Q E hr h => ?_)
  · obtain ⟨a, xs, pss, m, rfl, _⟩ := h
    rfl
  · obtain ⟨a, xs, pss, m, rfl, ea, hx, hm, hl, hpos, k⟩ := h
    refine ⟨_, (wss_cons ⟨(ps_setLc (i := 2) (own := [("piece", 1)]) (g := (gName 1)) (by rfl) sc_shares_in.nd rfl rfl (sw_true rfl rfl rfl (by decide +kernel)) (pi_list (pv 0)) (blkOk_by (own := [("piece", 1)]) (N := ["fan", "piece", "twices", "common", "twice"]) (sc := defScope s_shares_in) (by decide +kernel)) (fun _ _ _ _ _ => pg_name (i := 1) sc_shares_in.nd rfl (by first | exact Or.inl rfl | exact Or.inr rfl)) (fun _ _ _ _ _ => pts_nil) (fun _ _ _ _ _ => (pe_callC C_twice_of hr (by decide) (by rfl) (pa_cons (pe_ix (ix_seqK rfl) (pv 1) pe_int (fun _ _ => rfl)) (pa_cons (pe_ix (ix_seqK rfl) (pv 1) pe_int (fun _ _ => rfl)) (pa_cons (pe_ix (ix_seqK rfl) (pv 1) pe_int (fun _ _ => rfl)) pa_nil se_Subscript) se_Subscript) se_Subscript) (by decide) se_Subscript (se_any rfl))))⟩
        (wss_cons ⟨(ps_set (i := 3) sc_shares_in.nd rfl (by first | exact Or.inl rfl | exact Or.inr rfl) (pe_callC C_common_bottom hr (by decide) (by rfl) (pa_cons (pv 2) pa_nil se_Name) (by decide) se_Name (se_any rfl)))⟩
        (wss_one ⟨(ps_ret (pe_callC C_in_least hr (by decide) (by rfl) (pa_cons (pe_lc (own := [("twice", 4)]) (g := gName 4) (by rfl) sc_shares_in.nd (pi_list (pv 2)) (blkOk_by (own := [("twice", 4)]) (N := ["fan", "piece", "twices", "common", "twice"]) (sc := defScope s_shares_in) (by decide +kernel)) (fun _ _ _ _ _ => pg_name (i := 4) sc_shares_in.nd rfl (by first | exact Or.inl rfl | exact Or.inr rfl)) (fun _ _ _ _ _ => pts_nil) (fun _ _ _ _ _ => (pe_op op_mulB (pe_ix (ix_seqK rfl) (pv 4) pe_int (fun _ _ => rfl)) (pe_op op_fdivB (pv 3) (pe_ix (ix_seqK rfl) (pv 4) pe_int (fun _ _ => rfl)))))) pa_nil se_ListComp) (by decide) se_ListComp (se_any rfl)))⟩))), ?_⟩
    have e : start ["fan", "piece", "twices", "common", "twice"] [V.ref a] = [some (V.ref a), none, none, none, none] := rfl
    rw [e]
    try walk_at "vc"
    have hxl := hx.len
    refine ⟨⟨_, SqL.of ea⟩, fun D hD => ?_⟩
    have nD : a ≠ D := ne_of_none ea hD
    refine lcL (xs := xs) (fun i J => Kp D H J ∧ Tk H J ∧ ∃ vs, J D = some (.lst vs) ∧ FrQ (8 * m + 5) J vs ((pss.map twP).take i)) ⟨kp_upd, (same_upd hD).tk, [], upd_same, by rw [List.take_zero]; exact FrQ.nil⟩ (fun i J _ ⟨kJ, _⟩ => SqL.of (kJ _ _ ea nD)) ?_ ?_
    · rintro i x J hi ⟨kJ, tJ, vs, eD, hv⟩
      obtain ⟨p, ps, rfl, ep, hp⟩ := hx.at_ i x hi
      obtain ⟨h3, _⟩ := hpos ps (List.mem_of_getElem? ep)
      have hpJ := hp.tk tJ
      try walk_at "vc"
      match ps, h3, hpJ, ep with
      | [pa, pb, pc], _, hpJ, ep =>
        refine hpJ.ix (k := 0) rfl (by show 0 < 3; decide) (fun v0 f0 => ?_)
        refine hpJ.ix (k := 1) rfl (by show 1 < 3; decide) (fun v1 f1 => ?_)
        refine hpJ.ix (k := 2) rfl (by show 2 < 3; decide) (fun v2 f2 => ?_)
        refine u_twice_of f0 f1 f2 (by omega) (fun v J2 s2 fv => ?_)
        have eD2 := s2 _ _ eD
        have tu := tk_upd (o := .lst (vs ++ [v])) eD2
        have hvl := hv.len
        rw [List.length_take, List.length_map] at hvl
        refine ⟨_, eD2, small1000 (by omega), (kJ.trans s2.kp).trans kp_upd, tJ.trans (s2.tk.trans tu), _, upd_same, ?_⟩
        rw [List.take_succ, List.getElem?_map, ep]
        exact (hv.tk (s2.tk.trans tu)).snoc (fv.tk tu)
    rintro J ⟨kJ, tJ, vs, eD, hv⟩
    rw [List.take_of_length_le (by rw [List.length_map]; omega)] at hv
    have hvl := hv.len
    rw [List.length_map] at hvl
    have sJ := same_of_kp kJ hD
    try walk_at "vc"
    have hm2 : (8 * m + 5) * (pss.map twP).length ≤ 6000 := by
      rw [List.length_map]
      have : (8 * m + 5) * pss.length ≤ (8 * m + 5) * 5 := Nat.mul_le_mul_left _ hl
      omega
    refine u_common_bottom eD hv hm2 (by omega) ?_
    have c0 : 0 < lcmL ((pss.map twP).map (·.den)) := by
      have := lcm_take_pos (qs := pss.map twP) (i := pss.length)
      rwa [List.take_of_length_le (by rw [List.length_map]; exact Nat.le_refl _)] at this
    have c1 : lcmL ((pss.map twP).map (·.den)) < 2 ^ 6001 := by
      have := lcm_take_bd (i := pss.length) hv hm2
      rwa [List.take_of_length_le (by rw [List.length_map]; exact Nat.le_refl _)] at this
    have hps : ∀ q ∈ pss.map twP, 0 < q := fun q hq => by
      obtain ⟨ps, hp, rfl⟩ := List.mem_map.mp hq
      exact (hpos ps hp).2
    have htop : ∀ t ∈ topsL (pss.map twP), 0 < t ∧ t.natAbs < 2 ^ 8000 := fun t ht => by
      refine ⟨tops_pos hps ht, ?_⟩
      obtain ⟨q, hq, rfl⟩ := List.mem_map.mp ht
      refine bdle (mul_bd (m := 8 * m + 5) (n := 6001) (hv.mem hq).1 ?_) (by omega)
      rw [Int.natAbs_natCast]
      exact Nat.lt_of_le_of_lt (Nat.div_le_self _ _) c1
    try walk_at "vc"
    refine ⟨⟨_, SqL.of eD⟩, fun D2 hD2 => ?_⟩
    have nD2 : D ≠ D2 := ne_of_none eD hD2
    refine lcL (xs := vs) (fun i J3 => Kp D2 J J3 ∧ Tk J J3 ∧ J3 D2 = some (.lst (((topsL (pss.map twP)).take i).map V.int))) ⟨kp_upd, (same_upd hD2).tk, by rw [List.take_zero]; exact upd_same⟩ (fun i J3 _ ⟨k3, _⟩ => SqL.of (k3 _ _ eD nD2)) ?_ ?_
    · rintro i x J3 hi ⟨k3, t3, e3⟩
      obtain ⟨q, eq, fq⟩ := hv.at_ i x hi
      have fq3 := fq.tk t3
      try walk_at "vc"
      refine ix_fr0 fq3 ?_
      refine ix_fr1 fq3 ?_
      try walk_at "vc"
      have dd : q.den ∣ lcmL ((pss.map twP).map (·.den)) := lcmL_dvd.2 _ (List.mem_map.mpr ⟨q, List.mem_of_getElem? eq, rfl⟩)
      have dp := q.den_pos
      have ed : Int.fdiv ((lcmL ((pss.map twP).map (·.den)) : Nat) : Int) ((q.den : Nat) : Int) = ((lcmL ((pss.map twP).map (·.den)) / q.den : Nat) : Int) := by
        rw [Int.fdiv_eq_ediv_of_nonneg _ (by omega)]; rfl
      refine ⟨⟨by omega, by rw [Int.natAbs_natCast]; exact big_le fq.db (by omega)⟩, ?_⟩
      rw [ed]
      refine ⟨mulOk (n := 6001) fq.nb (by rw [Int.natAbs_natCast]; exact Nat.lt_of_le_of_lt (Nat.div_le_self _ _) c1) (by omega), ?_⟩
      have hil : i < pss.length := by have := (List.getElem?_eq_some_iff.mp hi).1; omega
      have tl : (topsL (pss.map twP)).length = pss.length := by unfold topsL; rw [List.length_map, List.length_map]
      refine ⟨_, e3, small1000 (by rw [List.length_map, List.length_take]; omega), k3.trans kp_upd, t3.trans (tk_upd e3), ?_⟩
      rw [upd_same, List.take_succ, List.map_append]
      congr 3
      have : (topsL (pss.map twP))[i]? = some (q.num * ((lcmL ((pss.map twP).map (·.den)) / q.den : Nat) : Int)) := by
        unfold topsL
        rw [List.getElem?_map, eq]; rfl
      rw [this]
      rfl
    rintro J3 ⟨k3, t3, e3⟩
    have tl : (topsL (pss.map twP)).length = pss.length := by unfold topsL; rw [List.length_map, List.length_map]
    rw [List.take_of_length_le (by omega)] at e3
    refine u_in_least e3 (by omega) htop (fun p J4 s4 np e4 => ?_)
    have s3 := same_of_kp k3 hD2
    exact k p J4 (sJ.trans (s3.trans s4)) (none_of (sJ.trans s3) np) e4
theorem u_shares_in {a : Addr} {xs : List V} {pss : List (List (Rat × Rat))} {m : Nat} {H : Hp} {Q : VK} {E : XK} (ea : H a = some (.lst xs)) (hx : Pcs m H xs pss) (hm : m ≤ 120) (hl : pss.length ≤ 5) (hpos : ∀ ps ∈ pss, ps.length = 3 ∧ 0 < twP ps) (k : ∀ p H', Same H H' → H p = none → H' p = some (.lst ((shL (pss.map twP)).map V.int)) → Q (.ref p) H') : sp_shares_in [.ref a] H Q E := ⟨a, xs, pss, m, rfl, ea, hx, hm, hl, hpos, k⟩
abbrev s_even_ways : Stmt := top 49
theorem sc_even_ways : FnScope ["start", "end", "many", "k", "row"] ["start", "end", "many"] (defScope s_even_ways) := ⟨rfl, rfl, rfl, by decide +kernel, rfl, by decide +kernel, by decide +kernel⟩
def wy (a b : Rat × Rat) (n k : Nat) : Rat × Rat := onW a b (Rat.divInt (k : Int) (n : Int))
def evs (a b : Rat × Rat) (n : Nat) : List (List (Rat × Rat)) := (List.range n).map fun k => [wy a b n k, wy a b n (k + 1)]
def cutE (n : Nat) : List (Rat × Rat) → List (List (Rat × Rat))
  | [h, a, b] => (List.range n).map fun k => [h, wy a b n k, wy a b n (k + 1)]
  | _ => []
theorem newP2 {m : Nat} {H : Hp} {Q : VK} {x y : V} {a b : Rat × Rat} (h1 : Spt m H x a) (h2 : Spt m H y b) (k : ∀ p H', Same H H' → H p = none → Tps m H' p [a, b] → Q (.ref p) H') : NewT [x, y] H Q :=
  newT (Nat.le_of_ble_eq_true rfl) fun p H' s hp e => k p H' s hp ⟨_, e, rfl, fun i v ei => by
    match i, ei with
    | 0, ei => cases ei; exact ⟨_, rfl, h1.tk s.tk⟩
    | 1, ei => cases ei; exact ⟨_, rfl, h2.tk s.tk⟩
    | i + 2, ei => simp at ei⟩
theorem spl_one {m : Nat} {H : Hp} {xs : List V} {ps : List (Rat × Rat)} {x : V} {p : Rat × Rat} (h : SpL m H xs ps) (hx : Spt m H x p) : SpL m H (xs ++ [x]) (ps ++ [p]) := by
  refine spl_app h ⟨rfl, fun i v e => ?_⟩
  match i, e with
  | 0, e => cases e; exact ⟨_, rfl, hx⟩
  | i + 1, e => simp at e
theorem range_snoc {α : Type} {f : Nat → α} {i : Nat} : (List.range (i + 1)).map f = (List.range i).map f ++ [f i] := by
  rw [List.range_succ, List.map_append]; rfl
def sp_even_ways : Sp := fun vs H Q _ => ∃ (x y : V) (a b : Rat × Rat) (n m : Nat), vs = [x, y, .int n] ∧ Spt m H x a ∧ Spt m H y b ∧ m ≤ 1000 ∧ 1 ≤ n ∧ n ≤ 30 ∧ ∀ p xs H', Same H H' → H p = none → H' p = some (.lst xs) → Pcs (3 * m + 7) H' xs (evs a b n) → Q (.ref p) H'

set_option maxHeartbeats 4000000 in
theorem ok_even_ways {f : Addr} {fd : FuncData} (F : Fun K "even_ways" "even_ways" s_even_ways f fd) (m : mg "even_ways" = some (.ref f)) (b : Binds K fd ["start", "end", "many"] []) (z_range : mg "range" = none) (C_on_way : Cal P w K mg base 5 "on_way" ["one", "other", "part"] sp_on_way) (C_frac_of : Cal P w K mg base 3 "frac_of" ["top", "bottom"] sp_frac_of) : Cal P w K mg base 6 "even_ways" ["start", "end", "many"] sp_even_ways := by
  refine cal_ofW F sc_even_ways m b (fun vs H Q E h => ?_) (fun cdv A outer s H vs Q E hr h => ?_)
  · obtain ⟨x, y, a, b, n, m, rfl, _⟩ := h
    rfl
  · obtain ⟨x, y, a, b, n, m, rfl, hx, hy, hm, n1, n30, k⟩ := h
    refine ⟨_, (wss_cons ⟨(ps_set (i := 4) sc_even_ways.nd rfl (by first | exact Or.inl rfl | exact Or.inr rfl) (pe_lc (own := [("k", 3)]) (g := gName 3) (by rfl) sc_even_ways.nd (pi_range1 (by rfl) z_range (pa_cons (pe_op op_addA (pv 2) pe_int) pa_nil se_BinOp)) (blkOk_by (own := [("k", 3)]) (N := ["start", "end", "many", "k", "row"]) (sc := defScope s_even_ways) (by decide +kernel)) (fun _ _ _ _ _ => pg_name (i := 3) sc_even_ways.nd rfl (by first | exact Or.inl rfl | exact Or.inr rfl)) (fun _ _ _ _ _ => pts_nil) (fun _ _ _ _ _ => (pe_callC C_on_way hr (by decide) (by rfl) (pa_cons (pv 0) (pa_cons (pv 1) (pa_cons (pe_callC C_frac_of hr (by decide) (by rfl) (pa_cons (pv 3) (pa_cons (pv 2) pa_nil se_Name) se_Name) (by decide) se_Name (se_any rfl)) pa_nil se_Call) se_Name) se_Name) (by decide) se_Name (se_any rfl)))))⟩
        (wss_one ⟨(ps_ret (pe_lc (own := [("k", 3)]) (g := gName 3) (by rfl) sc_even_ways.nd (pi_range1 (by rfl) z_range (pa_cons (pv 2) pa_nil se_Name)) (blkOk_by (own := [("k", 3)]) (N := ["start", "end", "many", "k", "row"]) (sc := defScope s_even_ways) (by decide +kernel)) (fun _ _ _ _ _ => pg_name (i := 3) sc_even_ways.nd rfl (by first | exact Or.inl rfl | exact Or.inr rfl)) (fun _ _ _ _ _ => pts_nil) (fun _ _ _ _ _ => (pe_tup (pa_cons (pe_ix (ix_seqK rfl) (pv 4) (pv 3) (fun _ _ => rfl)) (pa_cons (pe_ix (ix_seqK rfl) (pv 4) (pe_op op_addA (pv 3) pe_int) (fun _ _ => rfl)) pa_nil se_Subscript) se_Subscript)))))⟩)), ?_⟩
    have e : start ["start", "end", "many", "k", "row"] [x, y, V.int n] = [some x, some y, some (V.int n), none, none] := rfl
    rw [e]
    try walk_at "vc"
    refine ⟨by omega, by omega, fun D hD => ?_⟩
    have en : ((n : Int) + 1).toNat = n + 1 := by omega
    rw [en]
    refine lcR (fun i J => Kp D H J ∧ Tk H J ∧ ∃ vs, J D = some (.lst vs) ∧ SpL (3 * m + 7) J vs ((List.range i).map (wy a b n))) ⟨kp_upd, (same_upd hD).tk, [], upd_same, rfl, fun i x e => by cases e⟩ ?_ ?_
    · rintro i J hi ⟨kJ, tJ, vs, eD, hv⟩
      try walk_at "vc"
      refine u_frac_of 5 (by omega) (by show _ < 32; omega) (by show _ < 32; omega) (by decide) (fun f J2 s2 ff => ?_)
      rw [Int.zero_add] at ff
      have T2 := tJ.trans s2.tk
      refine u_on_way (hx.tk T2) (hy.tk T2) ff (by omega) (fun v J3 s3 fv => ?_)
      have eD3 := s3 _ _ (s2 _ _ eD)
      have tu := tk_upd (o := .lst (vs ++ [v])) eD3
      have hvl := hv.1
      rw [List.length_map, List.length_range] at hvl
      refine ⟨_, eD3, small1000 (by omega), (kJ.trans (s2.trans s3).kp).trans kp_upd, T2.trans (s3.tk.trans tu), _, upd_same, ?_⟩
      rw [range_snoc]
      exact spl_one (hv.tk ((s2.trans s3).tk.trans tu)) (fv.tk tu)
    rintro J ⟨kJ, tJ, vs, eD, hv⟩
    have sJ := same_of_kp kJ hD
    have hvl := hv.1
    rw [List.length_map, List.length_range] at hvl
    try walk_at "vc"
    refine ⟨by omega, by omega, fun D2 hD2 => ?_⟩
    have nD2 : D ≠ D2 := ne_of_none eD hD2
    have en2 : ((n : Int)).toNat = n := by omega
    rw [en2]
    refine lcR (fun i J2 => Kp D2 J J2 ∧ Tk J J2 ∧ ∃ ws, J2 D2 = some (.lst ws) ∧ Pcs (3 * m + 7) J2 ws ((List.range i).map fun k => [wy a b n k, wy a b n (k + 1)])) ⟨kp_upd, (same_upd hD2).tk, [], upd_same, Pcs.nil⟩ ?_ ?_
    · rintro i J2 hi ⟨k2, t2, ws, e2, hw⟩
      have eD' := k2 _ _ eD nD2
      have hv' := hv.tk t2
      obtain ⟨x1, ex1⟩ : ∃ x1, vs[i]? = some x1 := ⟨_, List.getElem?_eq_getElem (by omega)⟩
      obtain ⟨x2, ex2⟩ : ∃ x2, vs[i + 1]? = some x2 := ⟨_, List.getElem?_eq_getElem (by omega)⟩
      obtain ⟨q1, eq1, f1⟩ := hv'.2 _ _ ex1
      obtain ⟨q2, eq2, f2⟩ := hv'.2 _ _ ex2
      rw [List.getElem?_map, List.getElem?_range (by omega)] at eq1 eq2
      cases eq1
      cases eq2
      try walk_at "vc"
      rw [Int.zero_add]
      refine ix_lst eD' ex1 ?_
      try walk_at "vc"
      refine ix_lst (j := i + 1) eD' ex2 ?_
      refine newP2 f1 f2 (fun t J3 s3 ht htp => ?_)
      have e3 := s3 _ _ e2
      have tu := tk_upd (o := .lst (ws ++ [.ref t])) e3
      have hwl := hw.len
      rw [List.length_map, List.length_range] at hwl
      refine ⟨_, e3, small1000 (by omega), (k2.trans s3.kp).trans kp_upd, t2.trans (s3.tk.trans tu), _, upd_same, ?_⟩
      rw [range_snoc]
      exact (hw.tk (s3.tk.trans tu)).snoc (htp.tk tu)
    rintro J2 ⟨k2, t2, ws, e2, hw⟩
    exact k D2 ws J2 (sJ.trans (same_of_kp k2 hD2)) (none_of sJ hD2) e2 hw
theorem u_even_ways {x y : V} {a b : Rat × Rat} {n m : Nat} {H : Hp} {Q : VK} {E : XK} (hx : Spt m H x a) (hy : Spt m H y b) (hm : m ≤ 1000) (n1 : 1 ≤ n) (n30 : n ≤ 30) (k : ∀ p xs H', Same H H' → H p = none → H' p = some (.lst xs) → Pcs (3 * m + 7) H' xs (evs a b n) → Q (.ref p) H') : sp_even_ways [x, y, .int n] H Q E := ⟨x, y, a, b, n, m, rfl, hx, hy, hm, n1, n30, k⟩
abbrev s_cut_evenly : Stmt := top 50
theorem sc_cut_evenly : FnScope ["piece", "many", "hub", "start", "end", "one", "other"] ["piece", "many"] (defScope s_cut_evenly) := ⟨rfl, rfl, rfl, by decide +kernel, rfl, by decide +kernel, by decide +kernel⟩
def sp_cut_evenly : Sp := fun vs H Q _ => ∃ (p : Addr) (h a b : Rat × Rat) (n m : Nat), vs = [.ref p, .int n] ∧ Tps m H p [h, a, b] ∧ m ≤ 1000 ∧ 1 ≤ n ∧ n ≤ 30 ∧ ∀ q xs H', Same H H' → H q = none → H' q = some (.lst xs) → Pcs (3 * m + 7) H' xs (cutE n [h, a, b]) → Q (.ref q) H'
theorem Tps.three {K : PySem.W.Frag} {m : Nat} {H : Hp} {p : Addr} {a b c : Rat × Rat} {t : TGs} {σ : L2.St} {Q : L2.St → Hp → Prop} (h : Tps m H p [a, b, c]) (k : ∀ x y z, Spt m H x a → Spt m H y b → Spt m H z c → t [x, y, z] σ H Q) : gSeq K 3 t (.ref p) σ H Q := by
  obtain ⟨xs, e, hl, hs⟩ := h.ex
  match xs, hl, e, hs with
  | [x, y, z], _, e, hs =>
    obtain ⟨_, e1, h1⟩ := hs 0 x rfl
    obtain ⟨_, e2, h2⟩ := hs 1 y rfl
    obtain ⟨_, e3, h3⟩ := hs 2 z rfl
    cases e1; cases e2; cases e3
    exact seq_t e rfl (k x y z h1 h2 h3)
theorem Tps.two {K : PySem.W.Frag} {m : Nat} {H : Hp} {p : Addr} {a b : Rat × Rat} {t : TGs} {σ : L2.St} {Q : L2.St → Hp → Prop} (h : Tps m H p [a, b]) (k : ∀ x y, Spt m H x a → Spt m H y b → t [x, y] σ H Q) : gSeq K 2 t (.ref p) σ H Q := by
  obtain ⟨xs, e, hl, hs⟩ := h.ex
  match xs, hl, e, hs with
  | [x, y], _, e, hs =>
    obtain ⟨_, e1, h1⟩ := hs 0 x rfl
    obtain ⟨_, e2, h2⟩ := hs 1 y rfl
    cases e1; cases e2
    exact seq_t e rfl (k x y h1 h2)

set_option maxHeartbeats 4000000 in
theorem ok_cut_evenly {f : Addr} {fd : FuncData} (F : Fun K "cut_evenly" "cut_evenly" s_cut_evenly f fd) (m : mg "cut_evenly" = some (.ref f)) (b : Binds K fd ["piece", "many"] []) (C_even_ways : Cal P w K mg base 6 "even_ways" ["start", "end", "many"] sp_even_ways) : Cal P w K mg base 7 "cut_evenly" ["piece", "many"] sp_cut_evenly := by
  refine cal_ofW F sc_cut_evenly m b (fun vs H Q E h => ?_) (fun cdv A outer s H vs Q E hr h => ?_)
  · obtain ⟨p, h, a, b, n, m, rfl, _⟩ := h
    rfl
  · obtain ⟨p, h, a, b, n, m, rfl, hp, hm, n1, n30, k⟩ := h
    refine ⟨_, (wss_cons ⟨(ps_asg (pv 0) (pg_seq (n := 3) (by rfl) (pgs_cons (pg_name (i := 2) sc_cut_evenly.nd rfl (by first | exact Or.inl rfl | exact Or.inr rfl)) (pgs_cons (pg_name (i := 3) sc_cut_evenly.nd rfl (by first | exact Or.inl rfl | exact Or.inr rfl)) (pgs_cons (pg_name (i := 4) sc_cut_evenly.nd rfl (by first | exact Or.inl rfl | exact Or.inr rfl)) pgs_nil)))))⟩
        (wss_one ⟨(ps_ret (pe_lc (own := [("one", 5), ("other", 6)]) (g := (gSeq K 2 (gCons (gName 5) (gCons (gName 6) gNil)))) (by rfl) sc_cut_evenly.nd (pi_list (pe_callC C_even_ways hr (by decide) (by rfl) (pa_cons (pv 3) (pa_cons (pv 4) (pa_cons (pv 1) pa_nil se_Name) se_Name) se_Name) (by decide) se_Name (se_any rfl))) (blkOk_by (own := [("one", 5), ("other", 6)]) (N := ["piece", "many", "hub", "start", "end", "one", "other"]) (sc := defScope s_cut_evenly) (by decide +kernel)) (fun _ _ _ _ _ => (pg_seqK (n := 2) rfl (by rfl) (pgs_cons (pg_name (i := 5) sc_cut_evenly.nd rfl (by first | exact Or.inl rfl | exact Or.inr rfl)) (pgs_cons (pg_name (i := 6) sc_cut_evenly.nd rfl (by first | exact Or.inl rfl | exact Or.inr rfl)) pgs_nil)))) (fun _ _ _ _ _ => pts_nil) (fun _ _ _ _ _ => (pe_tup (pa_cons (pv 2) (pa_cons (pv 5) (pa_cons (pv 6) pa_nil se_Name) se_Name) se_Name)))))⟩)), ?_⟩
    have e : start ["piece", "many", "hub", "start", "end", "one", "other"] [V.ref p, V.int n] = [some (V.ref p), some (V.int n), none, none, none, none, none] := rfl
    rw [e]
    try walk_at "vc"
    refine hp.three (fun vh va vb fh fa fb => ?_)
    try walk_at "vc"
    refine u_even_ways fa fb hm n1 n30 (fun l xs H1 s1 nl el hx => ?_)
    try walk_at "vc"
    refine ⟨⟨_, SqL.of el⟩, fun D hD => ?_⟩
    have nD : l ≠ D := ne_of_none el hD
    have hxl := hx.len
    have evl : (evs a b n).length = n := by unfold evs; rw [List.length_map, List.length_range]
    refine lcL (xs := xs) (fun i J => Kp D H1 J ∧ Tk H1 J ∧ ∃ ws, J D = some (.lst ws) ∧ Pcs (3 * m + 7) J ws ((List.range i).map fun k => [h, wy a b n k, wy a b n (k + 1)])) ⟨kp_upd, (same_upd hD).tk, [], upd_same, Pcs.nil⟩ (fun i J _ ⟨kJ, _⟩ => SqL.of (kJ _ _ el nD)) ?_ ?_
    · rintro i x J hi ⟨kJ, tJ, ws, eD, hw⟩
      obtain ⟨q, qs, rfl, eq, hq⟩ := hx.at_ i x hi
      have il : i < n := by have := (List.getElem?_eq_some_iff.mp hi).1; omega
      unfold evs at eq
      rw [List.getElem?_map, List.getElem?_range il] at eq
      cases eq
      refine (hq.tk tJ).two (fun v1 v2 f1 f2 => ?_)
      try walk_at "vc"
      refine newP3 ((fh.le (by omega)).tk (s1.tk.trans tJ)) f1 f2 (fun t J2 s2 ht htp => ?_)
      have e2 := s2 _ _ eD
      have tu := tk_upd (o := .lst (ws ++ [.ref t])) e2
      have hwl := hw.len
      rw [List.length_map, List.length_range] at hwl
      refine ⟨_, e2, small1000 (by omega), (kJ.trans s2.kp).trans kp_upd, tJ.trans (s2.tk.trans tu), _, upd_same, ?_⟩
      rw [range_snoc]
      exact (hw.tk (s2.tk.trans tu)).snoc (htp.tk tu)
    rintro J ⟨kJ, tJ, ws, eD, hw⟩
    rw [hxl, evl] at hw
    exact k D ws J (s1.trans (same_of_kp kJ hD)) (none_of s1 hD) eD hw
theorem u_cut_evenly {p : Addr} {h a b : Rat × Rat} {n m : Nat} {H : Hp} {Q : VK} {E : XK} (hp : Tps m H p [h, a, b]) (hm : m ≤ 1000) (n1 : 1 ≤ n) (n30 : n ≤ 30) (k : ∀ q xs H', Same H H' → H q = none → H' q = some (.lst xs) → Pcs (3 * m + 7) H' xs (cutE n [h, a, b]) → Q (.ref q) H') : sp_cut_evenly [.ref p, .int n] H Q E := ⟨p, h, a, b, n, m, rfl, hp, hm, n1, n30, k⟩
abbrev s_fan_cut : Stmt := top 51
theorem sc_fan_cut : FnScope ["field", "c", "many", "fan", "shares", "number", "pieces", "piece", "share"] ["field", "c", "many"] (defScope s_fan_cut) := ⟨rfl, rfl, rfl, by decide +kernel, rfl, by decide +kernel, by decide +kernel⟩
theorem sgQ_pos {q : Rat} : sgQ q = 1 ↔ 0 < q := by
  unfold sgQ
  have hn : 0 < q.num ↔ 0 < q := by
    rw [Rat.lt_iff_le_and_ne, ← Rat.num_nonneg]
    have := Rat.num_eq_zero (q := q)
    constructor
    · intro h; exact ⟨by omega, fun z => by have := this.mpr z.symm; omega⟩
    · rintro ⟨h1, h2⟩
      have h3 : q.num ≠ 0 := fun z => h2 (this.mp z).symm
      omega
  rw [← hn]
  constructor
  · intro h
    by_cases c : 0 < q.num
    · exact c
    · rw [if_neg c] at h; split at h <;> omega
  · intro h; rw [if_pos h]
theorem gp_rot {ps : List (Rat × Rat)} {c i : Nat} (hc : c < ps.length) (hi : i < ps.length) : gp (rotP ps c) i = gp ps ((c + i) % ps.length) := by
  unfold gp rotP
  rw [List.getD_eq_getElem?_getD, List.getD_eq_getElem?_getD]
  congr 1
  by_cases h : c + i < ps.length
  · rw [List.getElem?_append_left (by rw [List.length_drop]; omega), List.getElem?_drop, Nat.mod_eq_of_lt h]
  · rw [List.getElem?_append_right (by rw [List.length_drop]; omega), List.length_drop, List.getElem?_take, if_pos (by omega)]
    congr 1
    have : (c + i) % ps.length = c + i - ps.length := by rw [Nat.mod_eq_sub_mod (by omega), Nat.mod_eq_of_lt (by omega)]
    omega
theorem ol_at {ps : List (Rat × Rat)} (h : (List.range ps.length).all (olB ps) = true) {k j : Nat} (hk : k < ps.length) (hj : j < ps.length) (n1 : j ≠ k) (n2 : j ≠ aft ps.length k) : 0 < tw (gp ps k) (gp ps (aft ps.length k)) (gp ps j) := by
  have h1 := List.all_eq_true.mp h k (List.mem_range.mpr hk)
  unfold olB at h1
  have h2 := List.all_eq_true.mp h1 j (List.mem_range.mpr hj)
  rw [decide_eq_false n1, decide_eq_false n2, Bool.false_or, Bool.false_or, decide_eq_true_eq] at h2
  exact sgQ_pos.mp h2
theorem tw_cyc {a b c : Rat × Rat} : tw a b c = tw b c a := by unfold tw; grind
theorem fdP_parts {ps : List (Rat × Rat)} (h : fdP ps = true) : 3 ≤ ps.length ∧ ps.length ≤ 6 ∧ (List.range ps.length).all (olB ps) = true := by
  unfold fdP at h
  rw [Bool.and_eq_true, Bool.and_eq_true, decide_eq_true_eq, decide_eq_true_eq] at h
  exact ⟨h.1.1, h.1.2, h.2⟩
theorem fdB_fdP {d : PyData} (h : fdB d = true) : fdP (psOf d) = true := by
  cases d with
  | tuple dd =>
    have eF : fdB (.tuple dd) = (decide (3 ≤ dd.length) && decide (dd.length ≤ 6) && dd.all spB && (List.range dd.length).all (olB (dd.map toS))) := rfl
    rw [eF, Bool.and_eq_true, Bool.and_eq_true, Bool.and_eq_true, decide_eq_true_eq, decide_eq_true_eq] at h
    show fdP (dd.map toS) = true
    unfold fdP
    rw [List.length_map, decide_eq_true h.1.1.1, decide_eq_true h.1.1.2, h.2]
    rfl
  | _ => cases h
theorem fan_pos {ps : List (Rat × Rat)} (h : fdP ps = true) {c : Nat} (hc : c < ps.length) : ∀ qs ∈ fanP (rotP ps c), qs.length = 3 ∧ 0 < twP qs := by
  intro qs hq
  obtain ⟨h3, h6, ho⟩ := fdP_parts h
  have hl := rotP_len (ps := ps) (c := c) (by omega)
  unfold fanP at hq
  obtain ⟨k, hk, rfl⟩ := List.mem_map.mp hq
  rw [List.mem_range, hl] at hk
  refine ⟨rfl, ?_⟩
  show 0 < tw _ _ _
  rw [gp_rot hc (by omega), gp_rot hc (by omega), gp_rot hc (by omega), tw_cyc]
  have e1 : (c + (k + 2)) % ps.length = aft ps.length ((c + (k + 1)) % ps.length) := by
    unfold aft
    rw [Nat.mod_add_mod]
    rfl
  rw [e1]
  refine ol_at ho (Nat.mod_lt _ (by omega)) (Nat.mod_lt _ (by omega)) ?_ ?_
  · rw [Nat.add_zero, Nat.mod_eq_of_lt hc]
    by_cases z : c + (k + 1) < ps.length
    · rw [Nat.mod_eq_of_lt z]; omega
    · rw [Nat.mod_eq_sub_mod (by omega), Nat.mod_eq_of_lt (by omega)]; omega
  · rw [← e1, Nat.add_zero, Nat.mod_eq_of_lt hc]
    by_cases z : c + (k + 2) < ps.length
    · rw [Nat.mod_eq_of_lt z]; omega
    · rw [Nat.mod_eq_sub_mod (by omega), Nat.mod_eq_of_lt (by omega)]; omega
theorem shL_pos {qs : List Rat} (h : ∀ q ∈ qs, 0 < q) : ∀ s ∈ shL qs, 0 < s := by
  intro s hs
  obtain ⟨t, ht, rfl⟩ := List.mem_map.mp hs
  have h1 := tops_pos h ht
  have h2 := gcdL_mem ht
  have h3 : 0 < gcdL (topsL qs) := Nat.pos_of_dvd_of_pos h2 (by omega)
  exact Int.ediv_pos_of_pos_of_dvd h1 (by omega) (Int.ofNat_dvd_left.mpr h2)
theorem shL_len {qs : List Rat} : (shL qs).length = qs.length := by unfold shL topsL; rw [List.length_map, List.length_map]
theorem sum_ge {ns : List Int} (h : ∀ n ∈ ns, 0 < n) : (ns.length : Int) ≤ ns.sum ∧ ∀ n ∈ ns, n ≤ ns.sum := by
  induction ns with
  | nil => exact ⟨by simp, fun n h => nomatch h⟩
  | cons a ns ih =>
    obtain ⟨i1, i2⟩ := ih fun n hn => h n (List.mem_cons_of_mem _ hn)
    have ha := h a List.mem_cons_self
    rw [List.sum_cons, List.length_cons]
    refine ⟨by omega, fun n hn => ?_⟩
    rcases List.mem_cons.mp hn with rfl | hn
    · omega
    · have := i2 n hn; omega
/-- the shares of a fan -/
def shF (ps : List (Rat × Rat)) (c : Nat) : List Int := shL ((fanP (rotP ps c)).map twP)
def mkB (n : Int) : PyData → Bool
  | .int i => decide (1 ≤ i) && decide (i ≤ 30) && decide (i % n = 0)
  | _ => false
/-- the pieces of a fan, cut t times as often as their shares tell -/
def fcut (pss : List (List (Rat × Rat))) (ss : List Int) (t : Int) : List (List (Rat × Rat)) := (List.zipWith (fun ps s => cutE (s * t).toNat ps) pss ss).flatten
theorem fcut_take {pss : List (List (Rat × Rat))} {ss : List Int} {t : Int} {j : Nat} {ps : List (Rat × Rat)} {s : Int} (h1 : pss[j]? = some ps) (h2 : ss[j]? = some s) : fcut (pss.take (j + 1)) (ss.take (j + 1)) t = fcut (pss.take j) (ss.take j) t ++ cutE (s * t).toNat ps := by
  unfold fcut
  rw [← List.take_zipWith, ← List.take_zipWith, List.take_succ, List.flatten_append, List.getElem?_zipWith, h1, h2]
  simp
theorem kp_of_new {p : Addr} {H H' J : Hp} (k : Kp p H' J) (n : H p = none) (s : Same H H') : Kp p H J := s.kp.trans k
def sp_fan_cut (tbs : List Addr) (c_NoField c_NoWay : Addr) : Sp := fun vs H Q E => ∃ (x cv mv : V) (d dc dm : PyData) (r : Addr) (n : Nat), vs = [x, cv, mv] ∧ Rp r H x d ∧ bdD n d ∧ n ≤ 120 ∧ Rp r H cv dc ∧ Rp r H mv dm ∧ Tbs tbs H ∧ (fdB d = false → ∀ H' x, Same H H' → IsExc H' x c_NoField → E (.ref c_NoField) (some x) H') ∧
  (fdB d = true → (cnB (psOf d).length dc = true → ∀ c : Nat, dc = .int c → mkB (shF (psOf d) c).sum dm = false) → ∀ H' x, Same H H' → IsExc H' x c_NoWay → E (.ref c_NoWay) (some x) H') ∧
  (fdB d = true → ∀ c : Nat, dc = .int c → c < (psOf d).length → ∀ i : Int, dm = .int i → mkB (shF (psOf d) c).sum dm = true → ∀ p xs H', Same H H' → H p = none → H' p = some (.lst xs) → Pcs (3 * n + 7) H' xs (fcut (fanP (rotP (psOf d) c)) (shF (psOf d) c) (i / (shF (psOf d) c).sum)) → Q (.ref p) H')

set_option maxHeartbeats 4000000 in
theorem ok_fan_cut {f : Addr} {fd : FuncData} (F : Fun K "fan_cut" "fan_cut" s_fan_cut f fd) (m : mg "fan_cut" = some (.ref f)) (b : Binds K fd ["field", "c", "many"] []) (z_sum : mg "sum" = none) (z_zip : mg "zip" = none) (C_fan_of : Cal2 P w K mg base 8 "fan_of" ["field", "c"] (sp_fan_of tbs c_NoField c_NoWay)) (C_shares_in : Cal P w K mg base 5 "shares_in" ["fan"] sp_shares_in) (C_is_whole : Cal P w K mg base 1 "is_whole" ["thing"] sp_is_whole) (C_cut_evenly : Cal P w K mg base 7 "cut_evenly" ["piece", "many"] sp_cut_evenly) (X_NoWay : XC K mg base "NoWay" c_NoWay c_ShardError) (N_MOST_PIECES : ∃ t, mg "MOST_PIECES" = some (.int 30 t)) : Cal2 P w K mg base 9 "fan_cut" ["field", "c", "many"] (sp_fan_cut tbs c_NoField c_NoWay) := by
  refine cal2_ofW F sc_fan_cut m b (fun vs H Q E h => ?_) (fun cdv A outer s H vs Q E hr h => ?_)
  · obtain ⟨x, cv, mv, d, dc, dm, r, n, rfl, _⟩ := h
    rfl
  · obtain ⟨x, cv, mv, d, dc, dm, r, n, rfl, hx, hb, hn, hc, hmv, hT, k0, k1, k2⟩ := h
    refine ⟨_, (wss_cons ⟨(ps_set (i := 3) sc_fan_cut.nd rfl (by first | exact Or.inl rfl | exact Or.inr rfl) (pe_callP2 C_fan_of hr (by decide) (by rfl) (pa_cons (pv 0) (pa_cons (pv 1) pa_nil se_Name) se_Name) (by decide) se_Name (se_any rfl)))⟩
        (wss_cons (ws_nox ⟨(ps_set (i := 4) sc_fan_cut.nd rfl (by first | exact Or.inl rfl | exact Or.inr rfl) (pe_callC C_shares_in hr (by decide) (by rfl) (pa_cons (pv 3) pa_nil se_Name) (by decide) se_Name (se_any rfl)))⟩)
        (wss_cons (ws_nox ⟨(ps_set (i := 5) sc_fan_cut.nd rfl (by first | exact Or.inl rfl | exact Or.inr rfl) (pe_callB (cr_sum rfl) (by rfl) z_sum bt_sum (pa_cons (pv 4) pa_nil se_Name)))⟩)
        (wss_cons (ws_if (PW.pt (pw_or (pt_not (pt_val (pe_callC C_is_whole hr (by decide) (by rfl) (pa_cons (pv 2) pa_nil se_Name) (by decide) se_Name (se_any rfl)))) (pw_or (pt_not (pt_chain op_le op_le pe_int (pv 2) (pe_globI (by rfl) N_MOST_PIECES))) (pw_or1 (pt_cmpR (op_neA hr.units) (pe_op op_modN (pv 2) (pv 5)) pe_int (nomark _)))))) (wss_one (ws_raise2 X_NoWay.own (by rfl) pe_str rfl)) wss_nil)
        (wss_cons (ws_nox ⟨(ps_set (i := 6) sc_fan_cut.nd rfl (by first | exact Or.inl rfl | exact Or.inr rfl) (pe_lst pa_nil))⟩)
        (wss_cons (ws_nox (ws_for PassesOwn.never rfl ⟨(pi_zip (by rfl) z_zip (pa_cons (pv 3) (pa_cons (pv 4) pa_nil se_Name) se_Name))⟩ (pg_seq (n := 2) (by rfl) (pgs_cons (pg_name (i := 7) sc_fan_cut.nd rfl (by first | exact Or.inl rfl | exact Or.inr rfl)) (pgs_cons (pg_name (i := 8) sc_fan_cut.nd rfl (by first | exact Or.inl rfl | exact Or.inr rfl)) pgs_nil))) (wss_one ⟨(ps_expr (pe_bm PySem.F.plainAttrs_list PySem.F.slot_list_extend PySem.F.type_list_extend mt_extend (pv 6) (pa_cons (pe_callC C_cut_evenly hr (by decide) (by rfl) (pa_cons (pv 7) (pa_cons (pe_op op_fdivB (pe_op op_mulB (pv 8) (pv 2)) (pv 5)) pa_nil se_BinOp) se_Name) (by decide) se_Name (se_any rfl)) pa_nil se_Call)))⟩)))
        (wss_one (ws_nox ⟨(ps_ret (pv 6))⟩)))))))), ?_⟩
    have e : start ["field", "c", "many", "fan", "shares", "number", "pieces", "piece", "share"] [x, cv, mv] = [some x, some cv, some mv, none, none, none, none, none, none] := rfl
    rw [e]
    try walk_at "vc"
    refine u_fan_of hx hb (by omega) hc hT k0 (fun hF hcn => k1 hF (fun z => by rw [hcn] at z; cases z)) (fun hF c edc hcl pf xs H1 s1 npf ef hfan => ?_)
    subst edc
    have hP := fdB_fdP hF
    have hpos := fan_pos hP hcl
    have hl := rotP_len (ps := psOf d) (c := c) (by omega)
    obtain ⟨h3, h6, _⟩ := fdP_parts hP
    have hfl : (fanP (rotP (psOf d) c)).length = (psOf d).length - 2 := by unfold fanP; rw [List.length_map, List.length_range, hl]
    try walk_at "vc"
    refine u_shares_in ef hfan (by omega) (by omega) hpos (fun ps H2 s2 nps es => ?_)
    have hsp : ∀ s ∈ shF (psOf d) c, 0 < s := shL_pos fun q hq => by
      obtain ⟨qs, hq', rfl⟩ := List.mem_map.mp hq
      exact (hpos qs hq').2
    have hsl : (shF (psOf d) c).length = (psOf d).length - 2 := by unfold shF; rw [shL_len, List.length_map, hfl]
    have es : H2 ps = some (.lst ((shF (psOf d) c).map V.int)) := es
    obtain ⟨su1, su2⟩ := sum_ge hsp
    have k1 : mkB (shF (psOf d) c).sum dm = false → ∀ H' x, Same H H' → IsExc H' x c_NoWay → E (.ref c_NoWay) (some x) H' := fun z => k1 hF (fun _ c' e' => by
      injection e' with e'
      have : c' = c := by omega
      rw [this]
      exact z)
    have k2 := k2 hF c rfl hcl
    generalize shF (psOf d) c = ss at *
    have S2 := s1.trans s2
    have hm2 := hmv.up (r := r) S2.kp
    have kE : mkB ss.sum dm = false → ∀ y, H2 y = none → E (.ref c_NoWay) (some y) (upd H2 y (.ext (ExcAt y c_NoWay))) := fun z y hy => k1 z _ y (S2.trans (same_upd hy)) (IsExc.x upd_same)
    try walk_at "vc"
    refine ⟨ps, ss, rfl, SqL.of es, ?_⟩
    refine u_is_whole hm2 ?_
    try walk_at "vc"
    cases hw : isWh dm with
    | false =>
      try walk_at "vc"
      refine ⟨rfl, kE ?_⟩
      cases dm <;> first | rfl | (cases hw)
    | true =>
      try walk_at "vc"
      obtain ⟨i, rfl⟩ : ∃ i, dm = .int i := by cases dm <;> first | exact ⟨_, rfl⟩ | (cases hw)
      cases hm2
      have ek : mkB ss.sum (.int i) = (decide (1 ≤ i) && decide (i ≤ 30) && decide (i % ss.sum = 0)) := rfl
      unfold tChain
      try walk_at "vc"
      refine ite_d (fun c1 => ?_) (fun c1 => ?_)
      · refine ite_n (fun c2 => ?_) (fun c2 => ?_)
        · exact ⟨rfl, kE (by rw [ek, decide_eq_false c2]; simp)⟩
        refine ⟨by omega, ?_⟩
        refine ne_i ?_
        try walk_at "vc"
        have ef' : Int.fmod i ss.sum = i % ss.sum := Int.fmod_eq_emod_of_nonneg _ (by omega)
        rw [ef']
        refine ite_n (fun c3 => ?_) (fun c3 => ?_)
        · exact ⟨rfl, kE (by rw [ek, decide_eq_false c3]; simp)⟩
        have k2 := k2 i rfl (by rw [ek, decide_eq_true c1, decide_eq_true c2, decide_eq_true c3]; rfl)
        have hdv : ss.sum * (i / ss.sum) = i := Int.mul_ediv_cancel_of_emod_eq_zero c3
        have hsp0 : 0 < ss.sum := by omega
        have htp : 0 < i / ss.sum := by
          rcases Int.lt_or_le 0 (i / ss.sum) with z | z
          · exact z
          · have := Int.mul_le_mul_of_nonneg_left z (by omega : 0 ≤ ss.sum)
            omega
        generalize i / ss.sum = t at k2 hdv htp
        refine newL (Nat.le_of_ble_eq_true rfl) (fun pp H3 s3 npp epp => ?_)
        try walk_at "vc"
        have S3 := S2.trans s3
        have hfan3 := hfan.tk (s2.trans s3).tk
        have ef3 := s3 _ _ (s2 _ _ ef)
        have es3 := s3 _ _ es
        have nfp : pf ≠ pp := ne_of_none (s2 _ _ ef) npp
        have nsp : ps ≠ pp := ne_of_none es npp
        have hxl := hfan.len
        refine ⟨_, SqL.of ef3, _, SqL.of es3, ?_⟩
        refine forZ (xs := xs) (ys := ss.map V.int) (by rw [List.length_map]; omega) (fun j σ J => ∃ o7 o8 : Option V, σ = [some x, some cv, some (V.int i), some (V.ref pf), some (V.ref ps), some (V.int ss.sum), some (V.ref pp), o7, o8] ∧ Kp pp H3 J ∧ Tk H3 J ∧ ∃ vs, J pp = some (.lst vs) ∧ vs.length ≤ 30 * j ∧ Pcs (3 * n + 7) J vs (fcut ((fanP (rotP (psOf d) c)).take j) (ss.take j) t))
          ⟨_, _, rfl, Kp.refl _, Tk.refl _, [], epp, Nat.zero_le _, by rw [List.take_zero]; exact Pcs.nil⟩ (fun j σ J ⟨_, _, _, kJ, _⟩ => ⟨SqL.of (kJ _ _ ef3 nfp), SqL.of (kJ _ _ es3 nsp)⟩) ?_ ?_
        · rintro j xv yv T σ J hxj hyj ⟨o7, o8, rfl, kJ, tJ, vs, eJ, lJ, hv⟩ hT'
          obtain ⟨p, qs, rfl, eq, hq⟩ := hfan3.at_ j xv hxj
          rw [List.getElem?_map] at hyj
          cases en : ss[j]? with
          | none => rw [en] at hyj; cases hyj
          | some sv =>
            rw [en] at hyj
            cases hyj
            have s4 : Same J (upd J T (.tup [.ref p, V.int sv])) := same_upd hT'
            have e4 : (upd J T (.tup [.ref p, V.int sv])) T = some (.tup [.ref p, V.int sv]) := upd_same
            generalize upd J T (.tup [.ref p, V.int sv]) = J4 at s4 e4 ⊢
            refine seq_t e4 rfl ?_
            try walk_at "vc"
            obtain ⟨q3, _⟩ := hpos qs (List.mem_of_getElem? eq)
            have sv0 := hsp sv (List.mem_of_getElem? en)
            have sv1 := su2 sv (List.mem_of_getElem? en)
            have eJ4 := s4 _ _ eJ
            have hvl := hv.len
            have hst : sv * t ≤ ss.sum * t := Int.mul_le_mul_of_nonneg_right sv1 (by omega)
            have hst0 : 0 < sv * t := Int.mul_pos sv0 htp
            refine ⟨.inl ⟨rfl, _, SqL.of eJ4⟩, ?_⟩
            try walk_at "vc"
            have hsb : sv.natAbs < 2 ^ 5 := by
              have : sv * 1 ≤ sv * t := Int.mul_le_mul_of_nonneg_left (by omega) (by omega)
              show _ < 32
              omega
            have hib : i.natAbs < 2 ^ 5 := by show _ < 32; omega
            have hSb : ss.sum.natAbs < 2 ^ 8000 := Nat.lt_of_lt_of_le (show ss.sum.natAbs < 2 ^ 5 by
              have : ss.sum * 1 ≤ ss.sum * t := Int.mul_le_mul_of_nonneg_left (by omega) (by omega)
              show _ < 32
              omega) (Nat.pow_le_pow_right (by decide) (by decide))
            refine ⟨mulOk hsb hib (by decide), ⟨by omega, hSb⟩, ?_⟩
            have ed : Int.fdiv (sv * i) ss.sum = (((sv * t).toNat : Nat) : Int) := by
              rw [Int.fdiv_eq_ediv_of_nonneg _ (by omega), ← hdv, show sv * (ss.sum * t) = (sv * t) * ss.sum by grind, Int.mul_ediv_cancel _ (by omega)]
              omega
            rw [ed]
            match qs, q3, hq, eq with
            | [pa, pb, pc], _, hq, eq =>
              refine u_cut_evenly (hq.tk (tJ.trans s4.tk)) (by omega) (by omega) (by omega) (fun q5 ys J5 s5 nq5 e5 h5 => ?_)
              have eJ5 := s5 _ _ eJ4
              have hl5 := h5.len
              have cl : (cutE (sv * t).toNat [pa, pb, pc]).length = (sv * t).toNat := by unfold cutE; rw [List.length_map, List.length_range]
              have hjl : j < 4 := by have := (List.getElem?_eq_some_iff.mp hxj).1; omega
              have tu := tk_upd (o := .lst (vs ++ ys)) eJ5
              have t45 := s4.tk.trans s5.tk
              refine ⟨pp, q5, vs, ys, rfl, rfl, eJ5, e5, Nat.le_of_lt (small1000 (by omega)), (kJ.trans (s4.trans s5).kp).trans kp_upd, tJ.trans (t45.trans tu), _, upd_same, by rw [List.length_append]; omega, ?_⟩
              rw [fcut_take eq en]
              exact (hv.tk (t45.trans tu)).app (h5.tk tu)
        · rintro σ J ⟨o7, o8, rfl, kJ, tJ, vs, eJ, lJ, hv⟩
          rw [hxl, List.take_length, List.take_of_length_le (by omega)] at hv
          try walk_at "vc"
          exact k2 pp vs J (S2.trans ((same_of_kp (kp_of_new kJ npp s3) npp))) (none_of S2 npp) eJ hv
      · exact ⟨rfl, kE (by rw [ek, decide_eq_false c1]; simp)⟩
abbrev s_law_lowest : Stmt := top 54
theorem sc_law_lowest : FnScope ["_law_top", "_law_bottom", "_law_one", "_law_other"] ["_law_top", "_law_bottom"] (defScope s_law_lowest) := ⟨rfl, rfl, rfl, by decide +kernel, rfl, by decide +kernel, by decide +kernel⟩
def sp_law_lowest : Sp := sp_in_lowest
set_option maxHeartbeats 4000000 in
theorem ok_law_lowest {f : Addr} {fd : FuncData} (F : Fun K "_law_lowest" "_law_lowest" s_law_lowest f fd) (m : mg "_law_lowest" = some (.ref f)) (b : Binds K fd ["_law_top", "_law_bottom"] []) (z_abs : mg "abs" = none) : Cal P w K mg base 1 "_law_lowest" ["_law_top", "_law_bottom"] sp_law_lowest := by
  refine cal_ofW F sc_law_lowest m b (fun vs H Q E h => ?_) (fun cdv A outer s H vs Q E hr h => ?_)
  · obtain ⟨a, b, n, rfl, _⟩ := h
    rfl
  · obtain ⟨a, b, n, rfl, hb, h1', h2', hn, k⟩ := h
    refine ⟨_, (wss_cons ⟨(ps_par (i := 2) (j := 3) (by rfl) sc_law_lowest.nd rfl rfl (by decide) rfl rfl (pa_cons (pe_callB call_abs (by rfl) z_abs bt_abs (pa_cons (pv 0) pa_nil se_Name)) (pa_cons (pe_callB call_abs (by rfl) z_abs bt_abs (pa_cons (pv 1) pa_nil se_Name)) pa_nil se_Call) se_Call) (by rfl))⟩
        (wss_cons (ws_while PassesOwn.never (pt_cmpR op_gt (pv 3) pe_int (nomark _)) (wss_one ⟨(ps_par (i := 2) (j := 3) (by rfl) sc_law_lowest.nd rfl rfl (by decide) rfl rfl (pa_cons (pv 3) (pa_cons (pe_op op_modN (pv 2) (pv 3)) pa_nil se_BinOp) se_Name) (by rfl))⟩))
        (wss_cons (ws_if (pt_cmpR op_lt (pv 1) pe_int (nomark _)) (wss_one ⟨(ps_set (i := 2) sc_law_lowest.nd rfl (by first | exact Or.inl rfl | exact Or.inr rfl) (pe_op op_sub pe_int (pv 2)))⟩) wss_nil)
        (wss_one ⟨(ps_ret (pe_tup (pa_cons (pe_op op_fdivB (pv 0) (pv 2)) (pa_cons (pe_op op_fdivB (pv 1) (pv 2)) pa_nil se_BinOp) se_BinOp)))⟩)))), ?_⟩
    have e : start ["_law_top", "_law_bottom", "_law_one", "_law_other"] [V.int a, V.int b] = [some (V.int a), some (V.int b), none, none] := rfl
    rw [e]
    walk_at "vc"
    refine while_by (fun σ H1 => ∃ r y : Int, σ = [some (V.int a), some (V.int b), some (V.int r), some (V.int y)] ∧ H1 = H ∧ 0 ≤ r ∧ 0 ≤ y ∧ r.natAbs.gcd y.natAbs = a.natAbs.gcd b.natAbs)
      (fun σ _ => match σ[3]? with | some (some (V.int y)) => y.toNat | _ => 0) ⟨_, _, rfl, rfl, by split <;> omega, by split <;> omega, gcd_abs a b⟩ ?_ ?_
    · rintro σ H1 ⟨r, y, rfl, rfl, h1, h2, h3⟩
      walk_at "vc"
      refine ite_d (fun c => ?_) (fun c => ?_)
      · refine ⟨by omega, h2, ?_, ?_, ?_⟩
        · exact Int.fmod_nonneg_of_pos _ c
        · rw [← h3]; exact gcd_turn h1 c
        · show (r.fmod y).toNat < y.toNat
          have := Int.fmod_lt_of_pos r c
          omega
      · have e : y = 0 := by omega
        subst e
        have e2 : (r.natAbs : Int) = r := by omega
        rw [Int.natAbs_zero, Nat.gcd_zero_right] at h3
        have h3 : ((a.natAbs.gcd b.natAbs : Nat) : Int) = r := by omega
        try walk_at "vc"
        refine ite_d (fun c => ?_) (fun c => ?_)
        · have e3 : (0 : Int) - r = sg a b := by rw [sg_neg c]; omega
          rw [e3]
          exact ⟨div_ok hb h2' hn, div_ok hb h2' hn, by walk_at "sz", fun p hp => k _ _ (same_upd hp) (fr_low hb h1' h2')⟩
        · have e3 : r = sg a b := by rw [sg_pos c]; omega
          rw [e3]
          exact ⟨div_ok hb h2' hn, div_ok hb h2' hn, by walk_at "sz", fun p hp => k _ _ (same_upd hp) (fr_low hb h1' h2')⟩
    · exact gt_mono
theorem u_law_lowest (n : Nat) {a b : Int} {H : Hp} {Q : VK} {E : XK} (hb : b ≠ 0) (h1 : a.natAbs < 2 ^ n) (h2 : b.natAbs < 2 ^ n) (hn : n ≤ 8000) (k : ∀ v H', Same H H' → Fr n H' v (Rat.divInt a b) → Q v H') : sp_law_lowest [.int a, .int b] H Q E := ⟨a, b, n, rfl, hb, h1, h2, hn, k⟩
theorem u_law_lowest24 {a b : Int} {H : Hp} {Q : VK} {E : XK} (hb : b ≠ 0) (h1 : a.natAbs < 16777216) (h2 : b.natAbs < 16777216) (k : ∀ v H', Same H H' → Fr 24 H' v (Rat.divInt a b) → Q v H') : sp_law_lowest [.int a, .int b] H Q E := u_law_lowest 24 hb h1 h2 (by decide) k
local macro_rules | `(tactic| walk_at "call") => `(tactic| ((with_reducible refine' u_law_lowest24 ?h1 ?h2 ?h3 ?k); (case h1 => omega); (case h2 => omega); (case h3 => omega); intro _ _ _ _))
abbrev s_law_gap : Stmt := top 55
theorem sc_law_gap : FnScope ["_law_here", "_law_there"] ["_law_here", "_law_there"] (defScope s_law_gap) := ⟨rfl, rfl, rfl, by decide +kernel, rfl, by decide +kernel, by decide +kernel⟩
theorem gap_q {x y : Rat} : (lsN y x : Rat) = (y - x) * (lsD x y : Rat) := by
  have h := sub_q y x
  have e : lsD x y = lsD y x := by unfold lsD; exact Int.mul_comm _ _
  rw [e]
  exact h
def sp_law_gap : Sp := fun vs H Q _ => ∃ (x y : V) (a b : Rat) (m : Nat), vs = [x, y] ∧ Fr m H x a ∧ Fr m H y b ∧ m ≤ 3000 ∧ ∀ v H', Same H H' → TupI H' v (lsN b a) (lsD a b) → (lsN b a).natAbs < 2 ^ (m + m + 1) → (lsD a b).natAbs < 2 ^ (m + m) → Q v H'

set_option maxHeartbeats 4000000 in
theorem ok_law_gap {f : Addr} {fd : FuncData} (F : Fun K "_law_gap" "_law_gap" s_law_gap f fd) (m : mg "_law_gap" = some (.ref f)) (b : Binds K fd ["_law_here", "_law_there"] []) : Cal P w K mg base 1 "_law_gap" ["_law_here", "_law_there"] sp_law_gap := by
  refine cal_ofW F sc_law_gap m b (fun vs H Q E h => ?_) (fun cdv A outer s H vs Q E hr h => ?_)
  · obtain ⟨x, y, a, b, m, rfl, _⟩ := h
    rfl
  · obtain ⟨x, y, a, b, m, rfl, hx, hy, hm, k⟩ := h
    refine ⟨_, (wss_one ⟨(ps_ret (pe_tup (pa_cons (pe_op op_sub (pe_op op_mulB (pe_ix ix_seq (pv 1) pe_int (fun _ _ => rfl)) (pe_ix ix_seq (pv 0) pe_int (fun _ _ => rfl))) (pe_op op_mulB (pe_ix ix_seq (pv 0) pe_int (fun _ _ => rfl)) (pe_ix ix_seq (pv 1) pe_int (fun _ _ => rfl)))) (pa_cons (pe_op op_mulB (pe_ix ix_seq (pv 0) pe_int (fun _ _ => rfl)) (pe_ix ix_seq (pv 1) pe_int (fun _ _ => rfl))) pa_nil se_BinOp) se_BinOp)))⟩), ?_⟩
    have e : start ["_law_here", "_law_there"] [x, y] = [some x, some y] := rfl
    rw [e]
    walk_at "go"
    refine ⟨mulOk hy.nb (den_bd hx.db) (by omega), ?_⟩
    walk_at "go"
    refine ⟨mulOk hx.nb (den_bd hy.db) (by omega), ?_⟩
    walk_at "go"
    refine ⟨mulOk (den_bd hx.db) (den_bd hy.db) (by omega), ?_⟩
    refine newT (Nat.le_of_ble_eq_true rfl) (fun p H' s hp e2 => ?_)
    exact k _ _ s ⟨p, rfl, e2⟩ (sub_bd hy.nb (den_bd hx.db) hx.nb (den_bd hy.db)) (mul_bd (den_bd hx.db) (den_bd hy.db))
theorem u_law_gap {x y : V} {a b : Rat} {m : Nat} {H : Hp} {Q : VK} {E : XK} (hx : Fr m H x a) (hy : Fr m H y b) (hm : m ≤ 3000) (k : ∀ v H', Same H H' → TupI H' v (lsN b a) (lsD a b) → (lsN b a).natAbs < 2 ^ (m + m + 1) → (lsD a b).natAbs < 2 ^ (m + m) → Q v H') : sp_law_gap [x, y] H Q E := ⟨x, y, a, b, m, rfl, hx, hy, hm, k⟩
local macro_rules | `(tactic| walk_at "call") => `(tactic| ((with_reducible refine' u_law_gap ?h1 ?h2 ?h4 ?k); (case h1 => walk_at "fr"); (case h2 => walk_at "fr"); (case h4 => omega); intro _ _ _ _ _ _))
abbrev s_law_twice : Stmt := top 56
theorem sc_law_twice : FnScope ["_law_one", "_law_other", "_law_third", "_law_right_here", "_law_up", "_law_across", "_law_high", "_law_top"] ["_law_one", "_law_other", "_law_third"] (defScope s_law_twice) := ⟨rfl, rfl, rfl, by decide +kernel, rfl, by decide +kernel, by decide +kernel⟩
def sp_law_twice : Sp := fun vs H Q _ => ∃ (x y z : V) (a b c : Rat × Rat) (m : Nat), vs = [x, y, z] ∧ Spt m H x a ∧ Spt m H y b ∧ Spt m H z c ∧ m ≤ 1000 ∧ ∀ v (T B : Int) H', Same H H' → TupI H' v T B → 0 < B → (T : Rat) = tw a b c * (B : Rat) → T.natAbs < 2 ^ (8 * m + 10) → B.natAbs < 2 ^ (8 * m + 10) → Q v H'

set_option maxHeartbeats 4000000 in
theorem ok_law_twice {f : Addr} {fd : FuncData} (F : Fun K "_law_twice" "_law_twice" s_law_twice f fd) (m : mg "_law_twice" = some (.ref f)) (b : Binds K fd ["_law_one", "_law_other", "_law_third"] []) (C_law_gap : Cal P w K mg base 1 "_law_gap" ["_law_here", "_law_there"] sp_law_gap) : Cal P w K mg base 2 "_law_twice" ["_law_one", "_law_other", "_law_third"] sp_law_twice := by
  refine cal_ofW F sc_law_twice m b (fun vs H Q E h => ?_) (fun cdv A outer s H vs Q E hr h => ?_)
  · obtain ⟨x, y, z, a, b, c, m, rfl, _⟩ := h
    rfl
  · obtain ⟨x, y, z, a, b, c, m, rfl, hx, hy, hz, hm, k⟩ := h
    refine ⟨_, (wss_cons ⟨(ps_par (i := 3) (j := 4) (by rfl) sc_law_twice.nd rfl rfl (by decide) rfl rfl (pa_cons (pe_callC C_law_gap hr (by decide) (by rfl) (pa_cons (pe_ix ix_seq (pv 0) pe_int (fun _ _ => rfl)) (pa_cons (pe_ix ix_seq (pv 1) pe_int (fun _ _ => rfl)) pa_nil se_Subscript) se_Subscript) (by decide) se_Subscript (se_any rfl)) (pa_cons (pe_callC C_law_gap hr (by decide) (by rfl) (pa_cons (pe_ix ix_seq (pv 0) pe_int (fun _ _ => rfl)) (pa_cons (pe_ix ix_seq (pv 1) pe_int (fun _ _ => rfl)) pa_nil se_Subscript) se_Subscript) (by decide) se_Subscript (se_any rfl)) pa_nil se_Call) se_Call) (by rfl))⟩
        (wss_cons ⟨(ps_par (i := 5) (j := 6) (by rfl) sc_law_twice.nd rfl rfl (by decide) rfl rfl (pa_cons (pe_callC C_law_gap hr (by decide) (by rfl) (pa_cons (pe_ix ix_seq (pv 0) pe_int (fun _ _ => rfl)) (pa_cons (pe_ix ix_seq (pv 2) pe_int (fun _ _ => rfl)) pa_nil se_Subscript) se_Subscript) (by decide) se_Subscript (se_any rfl)) (pa_cons (pe_callC C_law_gap hr (by decide) (by rfl) (pa_cons (pe_ix ix_seq (pv 0) pe_int (fun _ _ => rfl)) (pa_cons (pe_ix ix_seq (pv 2) pe_int (fun _ _ => rfl)) pa_nil se_Subscript) se_Subscript) (by decide) se_Subscript (se_any rfl)) pa_nil se_Call) se_Call) (by rfl))⟩
        (wss_cons ⟨(ps_set (i := 7) sc_law_twice.nd rfl (by first | exact Or.inl rfl | exact Or.inr rfl) (pe_op op_mulB (pe_op op_mulB (pe_op op_mulB (pe_ix ix_seq (pv 3) pe_int (fun _ _ => rfl)) (pe_ix ix_seq (pv 6) pe_int (fun _ _ => rfl))) (pe_ix ix_seq (pv 4) pe_int (fun _ _ => rfl))) (pe_ix ix_seq (pv 5) pe_int (fun _ _ => rfl))))⟩
        (wss_one ⟨(ps_ret (pe_tup (pa_cons (pe_op op_sub (pv 7) (pe_op op_mulB (pe_op op_mulB (pe_op op_mulB (pe_ix ix_seq (pv 5) pe_int (fun _ _ => rfl)) (pe_ix ix_seq (pv 4) pe_int (fun _ _ => rfl))) (pe_ix ix_seq (pv 3) pe_int (fun _ _ => rfl))) (pe_ix ix_seq (pv 6) pe_int (fun _ _ => rfl)))) (pa_cons (pe_op op_mulB (pe_op op_mulB (pe_op op_mulB (pe_ix ix_seq (pv 3) pe_int (fun _ _ => rfl)) (pe_ix ix_seq (pv 6) pe_int (fun _ _ => rfl))) (pe_ix ix_seq (pv 4) pe_int (fun _ _ => rfl))) (pe_ix ix_seq (pv 5) pe_int (fun _ _ => rfl))) pa_nil se_BinOp) se_BinOp)))⟩)))), ?_⟩
    have e : start ["_law_one", "_law_other", "_law_third", "_law_right_here", "_law_up", "_law_across", "_law_high", "_law_top"] [x, y, z] = [some x, some y, some z, none, none, none, none, none] := rfl
    rw [e]
    walk_at "go"
    rename_i e1a f1a e1b f1b v1 H1 s1 t1 n1 d1 e2a f2a e2b f2b v2 H2 s2 t2 n2 d2 e3a f3a e3b f3b v3 H3 s3 t3 n3 d3 e4a f4a e4b f4b v4 H4 s4 t4 n4 d4
    have p1 := mul_bd n1 n4
    have p2 := mul_bd p1 d2
    have p3 := mul_bd p2 d3
    have q1 := mul_bd n3 n2
    have q2 := mul_bd q1 d1
    have q3 := mul_bd q2 d4
    have b1 := mul_bd d1 d4
    have b2 := mul_bd b1 d2
    have b3 := mul_bd b2 d3
    refine ⟨mulOk n1 n4 (by omega), ?_⟩
    walk_at "go"
    refine ⟨mulOk p1 d2 (by omega), ?_⟩
    walk_at "go"
    refine ⟨mulOk p2 d3 (by omega), ?_⟩
    walk_at "go"
    refine ⟨mulOk n3 n2 (by omega), ?_⟩
    walk_at "go"
    refine ⟨mulOk q1 d1 (by omega), ?_⟩
    walk_at "go"
    refine ⟨mulOk q2 d4 (by omega), ?_⟩
    walk_at "go"
    refine ⟨mulOk d1 d4 (by omega), ?_⟩
    walk_at "go"
    refine ⟨mulOk b1 d2 (by omega), ?_⟩
    walk_at "go"
    refine ⟨mulOk b2 d3 (by omega), ?_⟩
    walk_at "go"
    refine newT (Nat.le_of_ble_eq_true rfl) (fun p H5 s5 hp e5 => ?_)
    refine k _ _ _ H5 (s1.trans (s2.trans (s3.trans (s4.trans s5)))) ⟨p, rfl, e5⟩ ?_ ?_ ?_ (bdle b3 (by omega))
    · exact Int.mul_pos (Int.mul_pos (Int.mul_pos (lsD_pos _ _) (lsD_pos _ _)) (lsD_pos _ _)) (lsD_pos _ _)
    · have g1 := gap_q (x := a.1) (y := b.1)
      have g2 := gap_q (x := a.2) (y := b.2)
      have g3 := gap_q (x := a.1) (y := c.1)
      have g4 := gap_q (x := a.2) (y := c.2)
      simp only [Rat.intCast_sub, Rat.intCast_mul]
      rw [g1, g2, g3, g4]
      unfold tw
      grind
    · have e1 : ∀ u v : Int, u - v = u + -v := fun u v => by omega
      rw [e1]
      exact bdle (add_bd2 (bdle p3 (Nat.le_refl _)) (by rw [Int.natAbs_neg]; exact bdle q3 (by omega))) (by omega)
theorem u_law_twice {x y z : V} {a b c : Rat × Rat} {m : Nat} {H : Hp} {Q : VK} {E : XK} (hx : Spt m H x a) (hy : Spt m H y b) (hz : Spt m H z c) (hm : m ≤ 1000) (k : ∀ v (T B : Int) H', Same H H' → TupI H' v T B → 0 < B → (T : Rat) = tw a b c * (B : Rat) → T.natAbs < 2 ^ (8 * m + 10) → B.natAbs < 2 ^ (8 * m + 10) → Q v H') : sp_law_twice [x, y, z] H Q E := ⟨x, y, z, a, b, c, m, rfl, hx, hy, hz, hm, k⟩

abbrev s_law_field : Stmt := top 59
theorem sc_law_field : FnScope ["_law_row", "_law_far", "_law_some", "_law_corners", "_law_side", "_law_a", "_law_d", "_law_b", "_law_c", "_law_e", "_law_f", "_law_w", "_law_found", "_law_x", "_law_y", "_law_right_here", "_law_at"] ["_law_row", "_law_far"] (defScope s_law_field) := ⟨rfl, rfl, rfl, by decide +kernel, rfl, by decide +kernel, by decide +kernel⟩
def Sps (m : Nat) (H : Hp) (xs : List V) : Prop := ∀ v ∈ xs, ∃ p, Spt m H v p
theorem Sps.tk {m : Nat} {H H' : Hp} {xs : List V} (s : Tk H H') (h : Sps m H xs) : Sps m H' xs := fun v hv => let ⟨p, hp⟩ := h v hv; ⟨p, hp.tk s⟩
theorem Sps.le {m n : Nat} {H : Hp} {xs : List V} (l : m ≤ n) (h : Sps m H xs) : Sps n H xs := fun v hv => let ⟨p, hp⟩ := h v hv; ⟨p, hp.le l⟩
theorem Sps.three {m : Nat} {H : Hp} {x y z : V} {a b c : Rat × Rat} (h1 : Spt m H x a) (h2 : Spt m H y b) (h3 : Spt m H z c) : Sps m H [x, y, z] := fun v hv => by
  rcases List.mem_cons.mp hv with rfl | hv
  · exact ⟨_, h1⟩
  rcases List.mem_cons.mp hv with rfl | hv
  · exact ⟨_, h2⟩
  rw [List.mem_singleton.mp hv]; exact ⟨_, h3⟩
theorem Sps.set {m : Nat} {H : Hp} {xs : List V} {j : Nat} {v : V} {p : Rat × Rat} (h : Sps m H xs) (hv : Spt m H v p) : Sps m H (xs.set j v) := fun w hw => by
  rcases List.mem_or_eq_of_mem_set hw with hw | rfl
  · exact h w hw
  · exact ⟨_, hv⟩
theorem spl_snoc {m : Nat} {H : Hp} {xs : List V} {ps : List (Rat × Rat)} {v : V} {p : Rat × Rat} (h : SpL m H xs ps) (hv : Spt m H v p) : SpL m H (xs ++ [v]) (ps ++ [p]) := by
  refine ⟨by rw [List.length_append, List.length_append, h.1]; rfl, fun i x e => ?_⟩
  by_cases c : i < xs.length
  · rw [List.getElem?_append_left c] at e
    obtain ⟨p', e2, hp⟩ := h.2 i x e
    exact ⟨p', by rw [List.getElem?_append_left (by rw [← h.1]; exact c)]; exact e2, hp⟩
  · rw [List.getElem?_append_right (by omega)] at e
    have c2 : i - xs.length = 0 := by
      have := (List.getElem?_eq_some_iff.mp e).1
      simp only [List.length_cons, List.length_nil] at this
      omega
    rw [c2] at e
    cases e
    refine ⟨p, ?_, hv⟩
    rw [List.getElem?_append_right (by rw [← h.1]; omega), ← h.1, c2]
    rfl
def twI (p q r : Int × Int) : Int := (q.1 - p.1) * (r.2 - p.2) - (r.1 - p.1) * (q.2 - p.2)
def gI (cs : List (Int × Int)) (k : Nat) : Int × Int := cs.getD k (0, 0)
def fdI (cs : List (Int × Int)) : Bool := (List.range cs.length).all fun k => (List.range cs.length).all fun j => decide (j = k) || decide (j = aft cs.length k) || decide (0 < twI (gI cs k) (gI cs (aft cs.length k)) (gI cs j))
def CS8 : List (List (Int × Int)) := [[(0, 0), (1, 0), (0, 1)], [(0, 0), (1, 0), (1, 1), (0, 1)], [(0, 0), (3, 0), (2, 1), (0, 1)], [(0, 0), (2, 0), (3, 2), (0, 1)], [(0, 0), (2, 0), (3, 1), (1, 3), (0, 2)], [(1, 0), (3, 1), (2, 3)], [(0, 0), (1, 0), (2, 1), (2, 2), (1, 2), (0, 1)], [(0, 0), (3, 0), (4, 2), (3, 4), (1, 4), (0, 3)]]
def rotI (cs : List (Int × Int)) (k : Nat) : List (Int × Int) := cs.drop k ++ cs.take k
theorem cs8_ok : ∀ cs ∈ CS8, 3 ≤ cs.length ∧ cs.length ≤ 6 ∧ (∀ c ∈ cs, 0 ≤ c.1 ∧ c.1 ≤ 4 ∧ 0 ≤ c.2 ∧ c.2 ≤ 4) ∧ (∀ k < cs.length, fdI (rotI cs k) = true ∧ (rotI cs k).length = cs.length) := by decide +kernel
/-- the picture of a whole corner -/
def img (a b c d e f w : Int) (p : Int × Int) : Rat × Rat := (Rat.divInt (a * p.1 + b * p.2 + e * w) w, Rat.divInt (c * (a * p.1 + b * p.2) + d * p.2 + f * w) w)
theorem tw_img {a b c d e f w : Int} (hw : w ≠ 0) {p q r : Int × Int} : tw (img a b c d e f w p) (img a b c d e f w q) (img a b c d e f w r) * ((w : Rat) * (w : Rat)) = ((a * d * twI p q r : Int) : Rat) := by
  have hw' : (w : Rat) ≠ 0 := fun z => hw (Rat.intCast_inj.mp z)
  unfold tw img twI
  simp only [Rat.divInt_eq_div, Rat.intCast_add, Rat.intCast_mul, Rat.intCast_sub]
  grind
theorem sg_img {a b c d e f w : Int} (hw : 0 < w) (ha : 0 < a) (hd : 0 < d) {p q r : Int × Int} (h : 0 < twI p q r) : sgQ (tw (img a b c d e f w p) (img a b c d e f w q) (img a b c d e f w r)) = 1 := by
  rw [sgQ_pos]
  have e1 := tw_img (a := a) (b := b) (c := c) (d := d) (e := e) (f := f) (p := p) (q := q) (r := r) (show w ≠ 0 by omega)
  have hw' : (0 : Rat) < (w : Rat) := by exact_mod_cast hw
  have hww : (0 : Rat) < (w : Rat) * (w : Rat) := Rat.mul_pos hw' hw'
  have hpos : (0 : Rat) < ((a * d * twI p q r : Int) : Rat) := by exact_mod_cast Int.mul_pos (Int.mul_pos ha hd) h
  rw [← e1] at hpos
  clear e1
  generalize tw (img a b c d e f w p) (img a b c d e f w q) (img a b c d e f w r) = t at *
  generalize (w : Rat) * (w : Rat) = ww at *
  by_cases z : t ≤ 0
  · exfalso
    by_cases z0 : t = 0
    · rw [z0, Rat.zero_mul] at hpos; exact absurd hpos (by decide)
    · have h2 := Rat.mul_pos (show (0 : Rat) < -t by grind) hww
      grind
  · exact Rat.not_le.mp z
theorem gp_map {cs : List (Int × Int)} {g : Int × Int → Rat × Rat} {k : Nat} (hk : k < cs.length) : gp (cs.map g) k = g (gI cs k) := by
  unfold gp gI
  rw [List.getD_eq_getElem?_getD, List.getD_eq_getElem?_getD, List.getElem?_map, List.getElem?_eq_getElem hk]
  rfl
theorem fd_img {a b c d e f w : Int} (hw : 0 < w) (ha : 0 < a) (hd : 0 < d) {cs : List (Int × Int)} (h3 : 3 ≤ cs.length) (h6 : cs.length ≤ 6) (h : fdI cs = true) : fdP (cs.map (img a b c d e f w)) = true := by
  unfold fdP
  rw [List.length_map, decide_eq_true h3, decide_eq_true h6, Bool.true_and, Bool.true_and]
  refine List.all_eq_true.mpr fun k hk => ?_
  unfold olB
  refine List.all_eq_true.mpr fun j hj => ?_
  rw [List.length_map] at hj ⊢
  have hk' := List.mem_range.mp hk
  have hj' := List.mem_range.mp hj
  have hA : aft cs.length k < cs.length := Nat.mod_lt _ (by omega)
  have := List.all_eq_true.mp (List.all_eq_true.mp h k hk) j hj
  rw [gp_map hk', gp_map hA, gp_map hj']
  by_cases c1 : j = k
  · simp [c1]
  by_cases c2 : j = aft cs.length k
  · simp [c2]
  rw [decide_eq_false c1, decide_eq_false c2, Bool.false_or, Bool.false_or, decide_eq_true_eq] at this
  rw [decide_eq_true (sg_img hw ha hd this)]
  simp
def PtL (H : Hp) (xs : List V) (cs : List (Int × Int)) : Prop := xs.length = cs.length ∧ ∀ (i : Nat) x, xs[i]? = some x → ∃ c, cs[i]? = some c ∧ TupI H x c.1 c.2
theorem PtL.nil {H : Hp} : PtL H [] [] := ⟨rfl, fun i x e => by cases e⟩
theorem PtL.cons {H : Hp} {x : V} {xs : List V} {a b : Int} {cs : List (Int × Int)} (h : TupI H x a b) (hs : PtL H xs cs) : PtL H (x :: xs) ((a, b) :: cs) := ⟨by rw [List.length_cons, List.length_cons, hs.1], fun i y e => by
  cases i with
  | zero => cases e; exact ⟨(a, b), rfl, h⟩
  | succ i => exact hs.2 i y e⟩
theorem PtL.tk {H H' : Hp} {xs : List V} {cs : List (Int × Int)} (t : Tk H H') (h : PtL H xs cs) : PtL H' xs cs := ⟨h.1, fun i x e => let ⟨c, e1, h1⟩ := h.2 i x e; ⟨c, e1, h1.tk t⟩⟩
/-- a list of pairs of ints, not at r -/
def Pts (r : Addr) (H : Hp) (v : V) (cs : List (Int × Int)) : Prop := ∃ l xs, v = .ref l ∧ H l = some (.lst xs) ∧ PtL H xs cs ∧ l ≠ r
theorem Pts.same {r : Addr} {H H' : Hp} {v : V} {cs : List (Int × Int)} (s : Same H H') (h : Pts r H v cs) : Pts r H' v cs := let ⟨l, xs, e, e1, hp, n⟩ := h; ⟨l, xs, e, s _ _ e1, hp.tk s.tk, n⟩
theorem Pts.kp {r : Addr} {H H' : Hp} {v : V} {cs : List (Int × Int)} (k : Kp r H H') (t : Tk H H') (h : Pts r H v cs) : Pts r H' v cs := let ⟨l, xs, e, e1, hp, n⟩ := h; ⟨l, xs, e, k _ _ e1 n, hp.tk t, n⟩
/-- each a list of corners of the eight -/
def Cor (r : Addr) (H : Hp) (vs : List V) : Prop := ∀ v ∈ vs, ∃ cs ∈ CS8, Pts r H v cs
theorem Cor.same {r : Addr} {H H' : Hp} {vs : List V} (s : Same H H') (h : Cor r H vs) : Cor r H' vs := fun v hv => let ⟨cs, h1, h2⟩ := h v hv; ⟨cs, h1, h2.same s⟩
theorem Cor.kp {r : Addr} {H H' : Hp} {vs : List V} (k : Kp r H H') (t : Tk H H') (h : Cor r H vs) : Cor r H' vs := fun v hv => let ⟨cs, h1, h2⟩ := h v hv; ⟨cs, h1, h2.kp k t⟩
theorem Cor.nil {r : Addr} {H : Hp} : Cor r H [] := fun _ h => nomatch h
theorem Cor.cons {r : Addr} {H : Hp} {v : V} {vs : List V} (cs : List (Int × Int)) (hc : cs ∈ CS8) (h : Pts r H v cs) (hs : Cor r H vs) : Cor r H (v :: vs) := fun w hw => by
  rcases List.mem_cons.mp hw with rfl | hw
  · exact ⟨cs, hc, h⟩
  · exact hs w hw
theorem Cor.append {r : Addr} {H : Hp} {vs ws : List V} (h : Cor r H vs) (hs : Cor r H ws) : Cor r H (vs ++ ws) := fun w hw => (List.mem_append.mp hw).elim (h w) (hs w)
theorem newPI {H : Hp} {Q : VK} {a b : Int} (k : ∀ p H', Same H H' → TupI H' (.ref p) a b → Q (.ref p) H') : NewT [.int a, .int b] H Q :=
  newT (Nat.le_of_ble_eq_true rfl) (fun p H' s _ e => k p H' s ⟨⟨p, rfl, e⟩⟩)
theorem newPL {r : Addr} {zs : List V} {H : Hp} {Q : VK} {xs : List V} {cs : List (Int × Int)} (hr : H r = some (.lst zs)) (h : PtL H xs cs) (hl : xs.length ≤ 1000) (k : ∀ p H', Same H H' → Pts r H' (.ref p) cs → Q (.ref p) H') : NewL xs H Q :=
  newL hl (fun p H' s hp e => k p H' s ⟨p, xs, rfl, e, h.tk s.tk, (ne_of_none hr hp).symm⟩)
theorem img_bd {a b c d e f w : Int} {p : Int × Int} {m : Nat} (hw : 0 < w) (hw6 : w ≤ 6) (ha : a.natAbs ≤ 10000000) (hb : b.natAbs ≤ 10000000) (hc : c.natAbs ≤ 10000000) (hd : d.natAbs ≤ 10000000) (he : e.natAbs < 2 ^ 100) (hf : f.natAbs < 2 ^ 100) (h1 : 0 ≤ p.1 ∧ p.1 ≤ 4 ∧ 0 ≤ p.2 ∧ p.2 ≤ 4) : Bs 104 3 (img a b c d e f w p) := by
  obtain ⟨x, y⟩ := p
  obtain ⟨x0, x4, y0, y4⟩ := h1
  simp only at x0 x4 y0 y4
  have hxb : x.natAbs < 2 ^ 3 := by show _ < 8; omega
  have hyb : y.natAbs < 2 ^ 3 := by show _ < 8; omega
  have hab : a.natAbs < 2 ^ 24 := by show _ < 16777216; omega
  have hbb : b.natAbs < 2 ^ 24 := by show _ < 16777216; omega
  have hcb : c.natAbs < 2 ^ 24 := by show _ < 16777216; omega
  have hdb : d.natAbs < 2 ^ 24 := by show _ < 16777216; omega
  have hwb : w.natAbs < 2 ^ 3 := by show _ < 8; omega
  have r1 : (a * x + b * y).natAbs < 2 ^ 28 := add_bd2 (mul_bd hab hxb) (mul_bd hbb hyb)
  have r2 : (c * (a * x + b * y)).natAbs < 2 ^ 52 := mul_bd hcb r1
  have r3 : (c * (a * x + b * y) + d * y).natAbs < 2 ^ 53 := add_bd2 r2 (bdle (mul_bd hdb hyb) (by decide))
  refine ⟨Bq.div (by omega) ?_ hwb, Bq.div (by omega) ?_ hwb⟩
  · exact add_bd2 (bdle r1 (by decide)) (mul_bd he hwb)
  · exact add_bd2 (bdle r3 (by decide)) (mul_bd hf hwb)
theorem rot_map {cs : List (Int × Int)} {g : Int × Int → Rat × Rat} {k : Nat} : (rotI cs k).map g = (cs.map g).drop k ++ (cs.map g).take k := by
  unfold rotI
  rw [List.map_append, List.map_drop, List.map_take]
def sp_law_field : Sp := fun vs H Q _ => ∃ (r : Addr) (far : Int) (n : Nat), vs = [.ref r, .int far] ∧ Row n H r ∧ n + 200 ≤ 1000000 ∧ 0 ≤ far ∧ far < 2 ^ 100 ∧ ∀ p ps H', Tps 104 H' p ps → (∀ s ∈ ps, Bs 104 3 s) → fdP ps = true → p ≠ r → Row (n + 9) H' r → Kp r H H' → Tk H H' → Q (.ref p) H'

set_option maxHeartbeats 4000000 in
theorem ok_law_field {f : Addr} {fd : FuncData} (F : Fun K "_law_field" "_law_field" s_law_field f fd) (m : mg "_law_field" = some (.ref f)) (b : Binds K fd ["_law_row", "_law_far"] []) (z_tuple : mg "tuple" = none) (z_int : mg "int" = none) (z_len : mg "len" = none) (C_law_take : Cal P w K mg base 1 "_law_take" ["_law_row", "_law_base"] sp_law_take) (C_law_lowest : Cal P w K mg base 1 "_law_lowest" ["_law_top", "_law_bottom"] sp_law_lowest) : Cal P w K mg base 2 "_law_field" ["_law_row", "_law_far"] sp_law_field := by
  refine cal_ofW F sc_law_field m b (fun vs H Q E h => ?_) (fun cdv A outer s H vs Q E hr h => ?_)
  · obtain ⟨r, far, n, rfl, _⟩ := h
    rfl
  · obtain ⟨r, far, n, rfl, row, hn, f0, f1, k⟩ := h
    refine ⟨_, (wss_cons (ws_set (i := 2) sc_law_field.nd rfl (by first | exact Or.inl rfl | exact Or.inr rfl) (we_lst (wa_cons (we_lst (wa_cons we_ci2 (wa_cons we_ci2 (wa_cons we_ci2 wa_nil rfl) rfl) rfl)) (wa_cons (we_lst (wa_cons we_ci2 (wa_cons we_ci2 (wa_cons we_ci2 (wa_cons we_ci2 wa_nil rfl) rfl) rfl) rfl)) (wa_cons (we_lst (wa_cons we_ci2 (wa_cons we_ci2 (wa_cons we_ci2 (wa_cons we_ci2 wa_nil rfl) rfl) rfl) rfl)) wa_nil rfl) rfl) rfl)))
        (wss_cons (ws_set (i := 2) sc_law_field.nd rfl (by first | exact Or.inl rfl | exact Or.inr rfl) (we_op op_addA ⟨(pv 2)⟩ (we_lst (wa_cons (we_lst (wa_cons we_ci2 (wa_cons we_ci2 (wa_cons we_ci2 (wa_cons we_ci2 wa_nil rfl) rfl) rfl) rfl)) (wa_cons (we_lst (wa_cons we_ci2 (wa_cons we_ci2 (wa_cons we_ci2 (wa_cons we_ci2 (wa_cons we_ci2 wa_nil rfl) rfl) rfl) rfl) rfl)) (wa_cons (we_lst (wa_cons we_ci2 (wa_cons we_ci2 (wa_cons we_ci2 wa_nil rfl) rfl) rfl)) wa_nil rfl) rfl) rfl))))
        (wss_cons (ws_set (i := 2) sc_law_field.nd rfl (by first | exact Or.inl rfl | exact Or.inr rfl) (we_op op_addA ⟨(pv 2)⟩ (we_lst (wa_cons (we_lst (wa_cons we_ci2 (wa_cons we_ci2 (wa_cons we_ci2 (wa_cons we_ci2 (wa_cons we_ci2 (wa_cons we_ci2 wa_nil rfl) rfl) rfl) rfl) rfl) rfl)) (wa_cons (we_lst (wa_cons we_ci2 (wa_cons we_ci2 (wa_cons we_ci2 (wa_cons we_ci2 (wa_cons we_ci2 (wa_cons we_ci2 wa_nil rfl) rfl) rfl) rfl) rfl) rfl)) wa_nil rfl) rfl))))
        (wss_cons ⟨(ps_set (i := 3) sc_law_field.nd rfl (by first | exact Or.inl rfl | exact Or.inr rfl) (pe_ix ix_seq (pv 2) (pe_callC C_law_take hr (by decide) (by rfl) (pa_cons (pv 0) (pa_cons pe_int pa_nil se_Constant) se_Name) (by decide) se_Name (se_any rfl)) (fun _ _ => rfl)))⟩
        (wss_cons ⟨(ps_set (i := 4) sc_law_field.nd rfl (by first | exact Or.inl rfl | exact Or.inr rfl) (pe_ix ix_seq (pe_lst (pa_cons pe_int (pa_cons (pe_op op_pow pe_int pe_int) pa_nil se_BinOp) se_Constant)) (pe_callTy call_int1 (by rfl) z_int bt_int (pa_cons (pe_cmpR op_gt (pv 1) pe_int (nomark _)) pa_nil se_Compare)) (fun _ _ => rfl)))⟩
        (wss_cons ⟨(ps_par (i := 5) (j := 6) (by rfl) sc_law_field.nd rfl rfl (by decide) rfl rfl (pa_cons (pe_op op_addA pe_int (pe_callC C_law_take hr (by decide) (by rfl) (pa_cons (pv 0) (pa_cons (pv 4) pa_nil se_Name) se_Name) (by decide) se_Name (se_any rfl))) (pa_cons (pe_op op_addA pe_int (pe_callC C_law_take hr (by decide) (by rfl) (pa_cons (pv 0) (pa_cons (pv 4) pa_nil se_Name) se_Name) (by decide) se_Name (se_any rfl))) pa_nil se_BinOp) se_BinOp) (by rfl))⟩
        (wss_cons ⟨(ps_par (i := 7) (j := 8) (by rfl) sc_law_field.nd rfl rfl (by decide) rfl rfl (pa_cons (pe_op op_addA (pe_op op_sub (pe_callC C_law_take hr (by decide) (by rfl) (pa_cons (pv 0) (pa_cons (pe_op op_sub (pe_op op_mulB pe_int (pv 4)) pe_int) pa_nil se_BinOp) se_Name) (by decide) se_Name (se_any rfl)) (pv 4)) pe_int) (pa_cons (pe_op op_addA (pe_op op_sub (pe_callC C_law_take hr (by decide) (by rfl) (pa_cons (pv 0) (pa_cons (pe_op op_sub (pe_op op_mulB pe_int (pv 4)) pe_int) pa_nil se_BinOp) se_Name) (by decide) se_Name (se_any rfl)) (pv 4)) pe_int) pa_nil se_BinOp) se_BinOp) (by rfl))⟩
        (wss_cons ⟨(ps_par3 (i := 9) (j := 10) (l := 11) (by rfl) sc_law_field.nd rfl rfl rfl (by decide) (by decide) (by decide) rfl rfl rfl (pa_cons (pe_op op_sub (pe_callC C_law_take hr (by decide) (by rfl) (pa_cons (pv 0) (pa_cons (pe_op op_addA (pe_op op_mulB pe_int (pv 1)) pe_int) pa_nil se_BinOp) se_Name) (by decide) se_Name (se_any rfl)) (pv 1)) (pa_cons (pe_op op_sub (pe_callC C_law_take hr (by decide) (by rfl) (pa_cons (pv 0) (pa_cons (pe_op op_addA (pe_op op_mulB pe_int (pv 1)) pe_int) pa_nil se_BinOp) se_Name) (by decide) se_Name (se_any rfl)) (pv 1)) (pa_cons (pe_op op_addA pe_int (pe_callC C_law_take hr (by decide) (by rfl) (pa_cons (pv 0) (pa_cons pe_int pa_nil se_Constant) se_Name) (by decide) se_Name (se_any rfl))) pa_nil se_BinOp) se_BinOp) se_BinOp) (by kernel_rfl))⟩
        (wss_cons ⟨(ps_set (i := 12) sc_law_field.nd rfl (by first | exact Or.inl rfl | exact Or.inr rfl) (pe_lst pa_nil))⟩
        (wss_cons (ws_for PassesOwn.never rfl ⟨(pi_list (pv 3))⟩ (pg_seq (n := 2) (by rfl) (pgs_cons (pg_name (i := 13) sc_law_field.nd rfl (by first | exact Or.inl rfl | exact Or.inr rfl)) (pgs_cons (pg_name (i := 14) sc_law_field.nd rfl (by first | exact Or.inl rfl | exact Or.inr rfl)) pgs_nil))) (wss_cons ⟨(ps_set (i := 15) sc_law_field.nd rfl (by first | exact Or.inl rfl | exact Or.inr rfl) (pe_op op_addA (pe_op op_mulB (pv 5) (pv 13)) (pe_op op_mulB (pv 7) (pv 14))))⟩
        (wss_one ⟨(ps_expr (pe_bm PySem.F.plainAttrs_list PySem.F.slot_list_append PySem.F.type_list_append mt_append (pv 12) (pa_cons (pe_tup (pa_cons (pe_callC C_law_lowest hr (by decide) (by rfl) (pa_cons (pe_op op_addA (pv 15) (pe_op op_mulB (pv 9) (pv 11))) (pa_cons (pv 11) pa_nil se_Name) se_BinOp) (by decide) se_BinOp (se_any rfl)) (pa_cons (pe_callC C_law_lowest hr (by decide) (by rfl) (pa_cons (pe_op op_addA (pe_op op_addA (pe_op op_mulB (pv 8) (pv 15)) (pe_op op_mulB (pv 6) (pv 14))) (pe_op op_mulB (pv 10) (pv 11))) (pa_cons (pv 11) pa_nil se_Name) se_BinOp) (by decide) se_BinOp (se_any rfl)) pa_nil se_Call) se_Call)) pa_nil se_Tuple)))⟩)))
        (wss_cons ⟨(ps_set (i := 16) sc_law_field.nd rfl (by first | exact Or.inl rfl | exact Or.inr rfl) (pe_callC C_law_take hr (by decide) (by rfl) (pa_cons (pv 0) (pa_cons (pe_callB call_lenA (by rfl) z_len bt_len (pa_cons (pv 12) pa_nil se_Name)) pa_nil se_Call) se_Name) (by decide) se_Name (se_any rfl)))⟩
        (wss_one ⟨(ps_ret (pe_callTy call_tuple_of (by rfl) z_tuple bt_tuple (pa_cons (pe_op op_addA (pe_slice sl_list (pv 12) (po_some (pv 16)) po_none) (pe_slice sl_list (pv 12) po_none (po_some (pv 16)))) pa_nil se_BinOp)))⟩)))))))))))), ?_⟩
    have e : start ["_law_row", "_law_far", "_law_some", "_law_corners", "_law_side", "_law_a", "_law_d", "_law_b", "_law_c", "_law_e", "_law_f", "_law_w", "_law_found", "_law_x", "_law_y", "_law_right_here", "_law_at"] [V.ref r, V.int far] = [some (.ref r), some (.int far), none, none, none, none, none, none, none, none, none, none, none, none, none, none, none] := rfl
    rw [e]
    obtain ⟨zs, hr⟩ := row.at_
    have KK : Kp r H H := Kp.refl _
    have TT : Tk H H := Tk.refl _
    try walk_at "vc"
    refine newPI (fun q1 J1 s1 t1 => ?_)
    replace hr := s1 _ _ hr
    replace row := Row.mono s1 row
    replace KK := Kp.trans KK (Same.kp s1)
    replace TT := Tk.trans TT (Same.tk s1)
    clear s1
    refine newPI (fun q2 J2 s2 t2 => ?_)
    replace hr := s2 _ _ hr
    replace row := Row.mono s2 row
    replace KK := Kp.trans KK (Same.kp s2)
    replace TT := Tk.trans TT (Same.tk s2)
    replace t1 := TupI.tk (Same.tk s2) t1
    clear s2
    refine newPI (fun q3 J3 s3 t3 => ?_)
    replace hr := s3 _ _ hr
    replace row := Row.mono s3 row
    replace KK := Kp.trans KK (Same.kp s3)
    replace TT := Tk.trans TT (Same.tk s3)
    replace t1 := TupI.tk (Same.tk s3) t1
    replace t2 := TupI.tk (Same.tk s3) t2
    clear s3
    refine newPL hr (PtL.cons t1 (PtL.cons t2 (PtL.cons t3 PtL.nil))) (Nat.le_of_ble_eq_true rfl) (fun l0 J4 s4 P0 => ?_)
    clear t1 t2 t3
    replace hr := s4 _ _ hr
    replace row := Row.mono s4 row
    replace KK := Kp.trans KK (Same.kp s4)
    replace TT := Tk.trans TT (Same.tk s4)
    clear s4
    refine newPI (fun q5 J5 s5 t5 => ?_)
    replace hr := s5 _ _ hr
    replace row := Row.mono s5 row
    replace KK := Kp.trans KK (Same.kp s5)
    replace TT := Tk.trans TT (Same.tk s5)
    replace P0 := Pts.same s5 P0
    clear s5
    refine newPI (fun q6 J6 s6 t6 => ?_)
    replace hr := s6 _ _ hr
    replace row := Row.mono s6 row
    replace KK := Kp.trans KK (Same.kp s6)
    replace TT := Tk.trans TT (Same.tk s6)
    replace P0 := Pts.same s6 P0
    replace t5 := TupI.tk (Same.tk s6) t5
    clear s6
    refine newPI (fun q7 J7 s7 t7 => ?_)
    replace hr := s7 _ _ hr
    replace row := Row.mono s7 row
    replace KK := Kp.trans KK (Same.kp s7)
    replace TT := Tk.trans TT (Same.tk s7)
    replace P0 := Pts.same s7 P0
    replace t5 := TupI.tk (Same.tk s7) t5
    replace t6 := TupI.tk (Same.tk s7) t6
    clear s7
    refine newPI (fun q8 J8 s8 t8 => ?_)
    replace hr := s8 _ _ hr
    replace row := Row.mono s8 row
    replace KK := Kp.trans KK (Same.kp s8)
    replace TT := Tk.trans TT (Same.tk s8)
    replace P0 := Pts.same s8 P0
    replace t5 := TupI.tk (Same.tk s8) t5
    replace t6 := TupI.tk (Same.tk s8) t6
    replace t7 := TupI.tk (Same.tk s8) t7
    clear s8
    refine newPL hr (PtL.cons t5 (PtL.cons t6 (PtL.cons t7 (PtL.cons t8 PtL.nil)))) (Nat.le_of_ble_eq_true rfl) (fun l1 J9 s9 P1 => ?_)
    clear t5 t6 t7 t8
    replace hr := s9 _ _ hr
    replace row := Row.mono s9 row
    replace KK := Kp.trans KK (Same.kp s9)
    replace TT := Tk.trans TT (Same.tk s9)
    replace P0 := Pts.same s9 P0
    clear s9
    refine newPI (fun q10 J10 s10 t10 => ?_)
    replace hr := s10 _ _ hr
    replace row := Row.mono s10 row
    replace KK := Kp.trans KK (Same.kp s10)
    replace TT := Tk.trans TT (Same.tk s10)
    replace P0 := Pts.same s10 P0
    replace P1 := Pts.same s10 P1
    clear s10
    refine newPI (fun q11 J11 s11 t11 => ?_)
    replace hr := s11 _ _ hr
    replace row := Row.mono s11 row
    replace KK := Kp.trans KK (Same.kp s11)
    replace TT := Tk.trans TT (Same.tk s11)
    replace P0 := Pts.same s11 P0
    replace P1 := Pts.same s11 P1
    replace t10 := TupI.tk (Same.tk s11) t10
    clear s11
    refine newPI (fun q12 J12 s12 t12 => ?_)
    replace hr := s12 _ _ hr
    replace row := Row.mono s12 row
    replace KK := Kp.trans KK (Same.kp s12)
    replace TT := Tk.trans TT (Same.tk s12)
    replace P0 := Pts.same s12 P0
    replace P1 := Pts.same s12 P1
    replace t10 := TupI.tk (Same.tk s12) t10
    replace t11 := TupI.tk (Same.tk s12) t11
    clear s12
    refine newPI (fun q13 J13 s13 t13 => ?_)
    replace hr := s13 _ _ hr
    replace row := Row.mono s13 row
    replace KK := Kp.trans KK (Same.kp s13)
    replace TT := Tk.trans TT (Same.tk s13)
    replace P0 := Pts.same s13 P0
    replace P1 := Pts.same s13 P1
    replace t10 := TupI.tk (Same.tk s13) t10
    replace t11 := TupI.tk (Same.tk s13) t11
    replace t12 := TupI.tk (Same.tk s13) t12
    clear s13
    refine newPL hr (PtL.cons t10 (PtL.cons t11 (PtL.cons t12 (PtL.cons t13 PtL.nil)))) (Nat.le_of_ble_eq_true rfl) (fun l2 J14 s14 P2 => ?_)
    clear t10 t11 t12 t13
    replace hr := s14 _ _ hr
    replace row := Row.mono s14 row
    replace KK := Kp.trans KK (Same.kp s14)
    replace TT := Tk.trans TT (Same.tk s14)
    replace P0 := Pts.same s14 P0
    replace P1 := Pts.same s14 P1
    clear s14
    refine newL (Nat.le_of_ble_eq_true rfl) (fun S1 J15 s15 h15 e_S1 => ?_)
    have n_S1 : S1 ≠ r := (ne_of_none hr h15).symm
    replace hr := s15 _ _ hr
    replace row := Row.mono s15 row
    replace KK := Kp.trans KK (Same.kp s15)
    replace TT := Tk.trans TT (Same.tk s15)
    replace P0 := Pts.same s15 P0
    replace P1 := Pts.same s15 P1
    replace P2 := Pts.same s15 P2
    clear s15 h15
    have C_S1 := (Cor.cons _ (by decide) P0 (Cor.cons _ (by decide) P1 (Cor.cons _ (by decide) P2 Cor.nil)))
    clear P0 P1 P2
    try walk_at "vc"
    refine newPI (fun q16 J16 s16 t16 => ?_)
    replace hr := s16 _ _ hr
    replace row := Row.mono s16 row
    replace KK := Kp.trans KK (Same.kp s16)
    replace TT := Tk.trans TT (Same.tk s16)
    replace e_S1 := s16 _ _ e_S1
    replace C_S1 := Cor.same s16 C_S1
    clear s16
    refine newPI (fun q17 J17 s17 t17 => ?_)
    replace hr := s17 _ _ hr
    replace row := Row.mono s17 row
    replace KK := Kp.trans KK (Same.kp s17)
    replace TT := Tk.trans TT (Same.tk s17)
    replace e_S1 := s17 _ _ e_S1
    replace C_S1 := Cor.same s17 C_S1
    replace t16 := TupI.tk (Same.tk s17) t16
    clear s17
    refine newPI (fun q18 J18 s18 t18 => ?_)
    replace hr := s18 _ _ hr
    replace row := Row.mono s18 row
    replace KK := Kp.trans KK (Same.kp s18)
    replace TT := Tk.trans TT (Same.tk s18)
    replace e_S1 := s18 _ _ e_S1
    replace C_S1 := Cor.same s18 C_S1
    replace t16 := TupI.tk (Same.tk s18) t16
    replace t17 := TupI.tk (Same.tk s18) t17
    clear s18
    refine newPI (fun q19 J19 s19 t19 => ?_)
    replace hr := s19 _ _ hr
    replace row := Row.mono s19 row
    replace KK := Kp.trans KK (Same.kp s19)
    replace TT := Tk.trans TT (Same.tk s19)
    replace e_S1 := s19 _ _ e_S1
    replace C_S1 := Cor.same s19 C_S1
    replace t16 := TupI.tk (Same.tk s19) t16
    replace t17 := TupI.tk (Same.tk s19) t17
    replace t18 := TupI.tk (Same.tk s19) t18
    clear s19
    refine newPL hr (PtL.cons t16 (PtL.cons t17 (PtL.cons t18 (PtL.cons t19 PtL.nil)))) (Nat.le_of_ble_eq_true rfl) (fun l3 J20 s20 P3 => ?_)
    clear t16 t17 t18 t19
    replace hr := s20 _ _ hr
    replace row := Row.mono s20 row
    replace KK := Kp.trans KK (Same.kp s20)
    replace TT := Tk.trans TT (Same.tk s20)
    replace e_S1 := s20 _ _ e_S1
    replace C_S1 := Cor.same s20 C_S1
    clear s20
    refine newPI (fun q21 J21 s21 t21 => ?_)
    replace hr := s21 _ _ hr
    replace row := Row.mono s21 row
    replace KK := Kp.trans KK (Same.kp s21)
    replace TT := Tk.trans TT (Same.tk s21)
    replace e_S1 := s21 _ _ e_S1
    replace C_S1 := Cor.same s21 C_S1
    replace P3 := Pts.same s21 P3
    clear s21
    refine newPI (fun q22 J22 s22 t22 => ?_)
    replace hr := s22 _ _ hr
    replace row := Row.mono s22 row
    replace KK := Kp.trans KK (Same.kp s22)
    replace TT := Tk.trans TT (Same.tk s22)
    replace e_S1 := s22 _ _ e_S1
    replace C_S1 := Cor.same s22 C_S1
    replace P3 := Pts.same s22 P3
    replace t21 := TupI.tk (Same.tk s22) t21
    clear s22
    refine newPI (fun q23 J23 s23 t23 => ?_)
    replace hr := s23 _ _ hr
    replace row := Row.mono s23 row
    replace KK := Kp.trans KK (Same.kp s23)
    replace TT := Tk.trans TT (Same.tk s23)
    replace e_S1 := s23 _ _ e_S1
    replace C_S1 := Cor.same s23 C_S1
    replace P3 := Pts.same s23 P3
    replace t21 := TupI.tk (Same.tk s23) t21
    replace t22 := TupI.tk (Same.tk s23) t22
    clear s23
    refine newPI (fun q24 J24 s24 t24 => ?_)
    replace hr := s24 _ _ hr
    replace row := Row.mono s24 row
    replace KK := Kp.trans KK (Same.kp s24)
    replace TT := Tk.trans TT (Same.tk s24)
    replace e_S1 := s24 _ _ e_S1
    replace C_S1 := Cor.same s24 C_S1
    replace P3 := Pts.same s24 P3
    replace t21 := TupI.tk (Same.tk s24) t21
    replace t22 := TupI.tk (Same.tk s24) t22
    replace t23 := TupI.tk (Same.tk s24) t23
    clear s24
    refine newPI (fun q25 J25 s25 t25 => ?_)
    replace hr := s25 _ _ hr
    replace row := Row.mono s25 row
    replace KK := Kp.trans KK (Same.kp s25)
    replace TT := Tk.trans TT (Same.tk s25)
    replace e_S1 := s25 _ _ e_S1
    replace C_S1 := Cor.same s25 C_S1
    replace P3 := Pts.same s25 P3
    replace t21 := TupI.tk (Same.tk s25) t21
    replace t22 := TupI.tk (Same.tk s25) t22
    replace t23 := TupI.tk (Same.tk s25) t23
    replace t24 := TupI.tk (Same.tk s25) t24
    clear s25
    refine newPL hr (PtL.cons t21 (PtL.cons t22 (PtL.cons t23 (PtL.cons t24 (PtL.cons t25 PtL.nil))))) (Nat.le_of_ble_eq_true rfl) (fun l4 J26 s26 P4 => ?_)
    clear t21 t22 t23 t24 t25
    replace hr := s26 _ _ hr
    replace row := Row.mono s26 row
    replace KK := Kp.trans KK (Same.kp s26)
    replace TT := Tk.trans TT (Same.tk s26)
    replace e_S1 := s26 _ _ e_S1
    replace C_S1 := Cor.same s26 C_S1
    replace P3 := Pts.same s26 P3
    clear s26
    refine newPI (fun q27 J27 s27 t27 => ?_)
    replace hr := s27 _ _ hr
    replace row := Row.mono s27 row
    replace KK := Kp.trans KK (Same.kp s27)
    replace TT := Tk.trans TT (Same.tk s27)
    replace e_S1 := s27 _ _ e_S1
    replace C_S1 := Cor.same s27 C_S1
    replace P3 := Pts.same s27 P3
    replace P4 := Pts.same s27 P4
    clear s27
    refine newPI (fun q28 J28 s28 t28 => ?_)
    replace hr := s28 _ _ hr
    replace row := Row.mono s28 row
    replace KK := Kp.trans KK (Same.kp s28)
    replace TT := Tk.trans TT (Same.tk s28)
    replace e_S1 := s28 _ _ e_S1
    replace C_S1 := Cor.same s28 C_S1
    replace P3 := Pts.same s28 P3
    replace P4 := Pts.same s28 P4
    replace t27 := TupI.tk (Same.tk s28) t27
    clear s28
    refine newPI (fun q29 J29 s29 t29 => ?_)
    replace hr := s29 _ _ hr
    replace row := Row.mono s29 row
    replace KK := Kp.trans KK (Same.kp s29)
    replace TT := Tk.trans TT (Same.tk s29)
    replace e_S1 := s29 _ _ e_S1
    replace C_S1 := Cor.same s29 C_S1
    replace P3 := Pts.same s29 P3
    replace P4 := Pts.same s29 P4
    replace t27 := TupI.tk (Same.tk s29) t27
    replace t28 := TupI.tk (Same.tk s29) t28
    clear s29
    refine newPL hr (PtL.cons t27 (PtL.cons t28 (PtL.cons t29 PtL.nil))) (Nat.le_of_ble_eq_true rfl) (fun l5 J30 s30 P5 => ?_)
    clear t27 t28 t29
    replace hr := s30 _ _ hr
    replace row := Row.mono s30 row
    replace KK := Kp.trans KK (Same.kp s30)
    replace TT := Tk.trans TT (Same.tk s30)
    replace e_S1 := s30 _ _ e_S1
    replace C_S1 := Cor.same s30 C_S1
    replace P3 := Pts.same s30 P3
    replace P4 := Pts.same s30 P4
    clear s30
    refine newL (Nat.le_of_ble_eq_true rfl) (fun S2 J31 s31 h31 e_S2 => ?_)
    have n_S2 : S2 ≠ r := (ne_of_none hr h31).symm
    replace hr := s31 _ _ hr
    replace row := Row.mono s31 row
    replace KK := Kp.trans KK (Same.kp s31)
    replace TT := Tk.trans TT (Same.tk s31)
    replace e_S1 := s31 _ _ e_S1
    replace C_S1 := Cor.same s31 C_S1
    replace P3 := Pts.same s31 P3
    replace P4 := Pts.same s31 P4
    replace P5 := Pts.same s31 P5
    clear s31 h31
    have C_S2 := (Cor.cons _ (by decide) P3 (Cor.cons _ (by decide) P4 (Cor.cons _ (by decide) P5 Cor.nil)))
    clear P3 P4 P5
    refine catLB e_S1 e_S2 (Nat.le_of_ble_eq_true rfl) (fun S3 J32 s32 h32 e_S3 => ?_)
    have n_S3 : S3 ≠ r := (ne_of_none hr h32).symm
    have fr_S3 : ∀ b o, H b = some o → b ≠ r → b ≠ S3 := fun b o eb nb => ne_of_none (KK b o eb nb) h32
    have C_S3 := Cor.same s32 (Cor.append C_S1 C_S2)
    replace hr := s32 _ _ hr
    replace row := Row.mono s32 row
    replace KK := Kp.trans KK (Same.kp s32)
    replace TT := Tk.trans TT (Same.tk s32)
    clear s32 h32
    try walk_at "vc"
    refine newPI (fun q33 J33 s33 t33 => ?_)
    replace hr := s33 _ _ hr
    replace row := Row.mono s33 row
    replace KK := Kp.trans KK (Same.kp s33)
    replace TT := Tk.trans TT (Same.tk s33)
    replace e_S3 := s33 _ _ e_S3
    replace C_S3 := Cor.same s33 C_S3
    clear s33
    refine newPI (fun q34 J34 s34 t34 => ?_)
    replace hr := s34 _ _ hr
    replace row := Row.mono s34 row
    replace KK := Kp.trans KK (Same.kp s34)
    replace TT := Tk.trans TT (Same.tk s34)
    replace e_S3 := s34 _ _ e_S3
    replace C_S3 := Cor.same s34 C_S3
    replace t33 := TupI.tk (Same.tk s34) t33
    clear s34
    refine newPI (fun q35 J35 s35 t35 => ?_)
    replace hr := s35 _ _ hr
    replace row := Row.mono s35 row
    replace KK := Kp.trans KK (Same.kp s35)
    replace TT := Tk.trans TT (Same.tk s35)
    replace e_S3 := s35 _ _ e_S3
    replace C_S3 := Cor.same s35 C_S3
    replace t33 := TupI.tk (Same.tk s35) t33
    replace t34 := TupI.tk (Same.tk s35) t34
    clear s35
    refine newPI (fun q36 J36 s36 t36 => ?_)
    replace hr := s36 _ _ hr
    replace row := Row.mono s36 row
    replace KK := Kp.trans KK (Same.kp s36)
    replace TT := Tk.trans TT (Same.tk s36)
    replace e_S3 := s36 _ _ e_S3
    replace C_S3 := Cor.same s36 C_S3
    replace t33 := TupI.tk (Same.tk s36) t33
    replace t34 := TupI.tk (Same.tk s36) t34
    replace t35 := TupI.tk (Same.tk s36) t35
    clear s36
    refine newPI (fun q37 J37 s37 t37 => ?_)
    replace hr := s37 _ _ hr
    replace row := Row.mono s37 row
    replace KK := Kp.trans KK (Same.kp s37)
    replace TT := Tk.trans TT (Same.tk s37)
    replace e_S3 := s37 _ _ e_S3
    replace C_S3 := Cor.same s37 C_S3
    replace t33 := TupI.tk (Same.tk s37) t33
    replace t34 := TupI.tk (Same.tk s37) t34
    replace t35 := TupI.tk (Same.tk s37) t35
    replace t36 := TupI.tk (Same.tk s37) t36
    clear s37
    refine newPI (fun q38 J38 s38 t38 => ?_)
    replace hr := s38 _ _ hr
    replace row := Row.mono s38 row
    replace KK := Kp.trans KK (Same.kp s38)
    replace TT := Tk.trans TT (Same.tk s38)
    replace e_S3 := s38 _ _ e_S3
    replace C_S3 := Cor.same s38 C_S3
    replace t33 := TupI.tk (Same.tk s38) t33
    replace t34 := TupI.tk (Same.tk s38) t34
    replace t35 := TupI.tk (Same.tk s38) t35
    replace t36 := TupI.tk (Same.tk s38) t36
    replace t37 := TupI.tk (Same.tk s38) t37
    clear s38
    refine newPL hr (PtL.cons t33 (PtL.cons t34 (PtL.cons t35 (PtL.cons t36 (PtL.cons t37 (PtL.cons t38 PtL.nil)))))) (Nat.le_of_ble_eq_true rfl) (fun l6 J39 s39 P6 => ?_)
    clear t33 t34 t35 t36 t37 t38
    replace hr := s39 _ _ hr
    replace row := Row.mono s39 row
    replace KK := Kp.trans KK (Same.kp s39)
    replace TT := Tk.trans TT (Same.tk s39)
    replace e_S3 := s39 _ _ e_S3
    replace C_S3 := Cor.same s39 C_S3
    clear s39
    refine newPI (fun q40 J40 s40 t40 => ?_)
    replace hr := s40 _ _ hr
    replace row := Row.mono s40 row
    replace KK := Kp.trans KK (Same.kp s40)
    replace TT := Tk.trans TT (Same.tk s40)
    replace e_S3 := s40 _ _ e_S3
    replace C_S3 := Cor.same s40 C_S3
    replace P6 := Pts.same s40 P6
    clear s40
    refine newPI (fun q41 J41 s41 t41 => ?_)
    replace hr := s41 _ _ hr
    replace row := Row.mono s41 row
    replace KK := Kp.trans KK (Same.kp s41)
    replace TT := Tk.trans TT (Same.tk s41)
    replace e_S3 := s41 _ _ e_S3
    replace C_S3 := Cor.same s41 C_S3
    replace P6 := Pts.same s41 P6
    replace t40 := TupI.tk (Same.tk s41) t40
    clear s41
    refine newPI (fun q42 J42 s42 t42 => ?_)
    replace hr := s42 _ _ hr
    replace row := Row.mono s42 row
    replace KK := Kp.trans KK (Same.kp s42)
    replace TT := Tk.trans TT (Same.tk s42)
    replace e_S3 := s42 _ _ e_S3
    replace C_S3 := Cor.same s42 C_S3
    replace P6 := Pts.same s42 P6
    replace t40 := TupI.tk (Same.tk s42) t40
    replace t41 := TupI.tk (Same.tk s42) t41
    clear s42
    refine newPI (fun q43 J43 s43 t43 => ?_)
    replace hr := s43 _ _ hr
    replace row := Row.mono s43 row
    replace KK := Kp.trans KK (Same.kp s43)
    replace TT := Tk.trans TT (Same.tk s43)
    replace e_S3 := s43 _ _ e_S3
    replace C_S3 := Cor.same s43 C_S3
    replace P6 := Pts.same s43 P6
    replace t40 := TupI.tk (Same.tk s43) t40
    replace t41 := TupI.tk (Same.tk s43) t41
    replace t42 := TupI.tk (Same.tk s43) t42
    clear s43
    refine newPI (fun q44 J44 s44 t44 => ?_)
    replace hr := s44 _ _ hr
    replace row := Row.mono s44 row
    replace KK := Kp.trans KK (Same.kp s44)
    replace TT := Tk.trans TT (Same.tk s44)
    replace e_S3 := s44 _ _ e_S3
    replace C_S3 := Cor.same s44 C_S3
    replace P6 := Pts.same s44 P6
    replace t40 := TupI.tk (Same.tk s44) t40
    replace t41 := TupI.tk (Same.tk s44) t41
    replace t42 := TupI.tk (Same.tk s44) t42
    replace t43 := TupI.tk (Same.tk s44) t43
    clear s44
    refine newPI (fun q45 J45 s45 t45 => ?_)
    replace hr := s45 _ _ hr
    replace row := Row.mono s45 row
    replace KK := Kp.trans KK (Same.kp s45)
    replace TT := Tk.trans TT (Same.tk s45)
    replace e_S3 := s45 _ _ e_S3
    replace C_S3 := Cor.same s45 C_S3
    replace P6 := Pts.same s45 P6
    replace t40 := TupI.tk (Same.tk s45) t40
    replace t41 := TupI.tk (Same.tk s45) t41
    replace t42 := TupI.tk (Same.tk s45) t42
    replace t43 := TupI.tk (Same.tk s45) t43
    replace t44 := TupI.tk (Same.tk s45) t44
    clear s45
    refine newPL hr (PtL.cons t40 (PtL.cons t41 (PtL.cons t42 (PtL.cons t43 (PtL.cons t44 (PtL.cons t45 PtL.nil)))))) (Nat.le_of_ble_eq_true rfl) (fun l7 J46 s46 P7 => ?_)
    clear t40 t41 t42 t43 t44 t45
    replace hr := s46 _ _ hr
    replace row := Row.mono s46 row
    replace KK := Kp.trans KK (Same.kp s46)
    replace TT := Tk.trans TT (Same.tk s46)
    replace e_S3 := s46 _ _ e_S3
    replace C_S3 := Cor.same s46 C_S3
    replace P6 := Pts.same s46 P6
    clear s46
    refine newL (Nat.le_of_ble_eq_true rfl) (fun S4 J47 s47 h47 e_S4 => ?_)
    have n_S4 : S4 ≠ r := (ne_of_none hr h47).symm
    replace hr := s47 _ _ hr
    replace row := Row.mono s47 row
    replace KK := Kp.trans KK (Same.kp s47)
    replace TT := Tk.trans TT (Same.tk s47)
    replace e_S3 := s47 _ _ e_S3
    replace C_S3 := Cor.same s47 C_S3
    replace P6 := Pts.same s47 P6
    replace P7 := Pts.same s47 P7
    clear s47 h47
    have C_S4 := (Cor.cons _ (by decide) P6 (Cor.cons _ (by decide) P7 Cor.nil))
    clear P6 P7
    refine catLB e_S3 e_S4 (Nat.le_of_ble_eq_true rfl) (fun S5 J48 s48 h48 e_S5 => ?_)
    have n_S5 : S5 ≠ r := (ne_of_none hr h48).symm
    have fr_S5 : ∀ b o, H b = some o → b ≠ r → b ≠ S5 := fun b o eb nb => ne_of_none (KK b o eb nb) h48
    have C_S5 := Cor.same s48 (Cor.append C_S3 C_S4)
    replace hr := s48 _ _ hr
    replace row := Row.mono s48 row
    replace KK := Kp.trans KK (Same.kp s48)
    replace TT := Tk.trans TT (Same.tk s48)
    clear s48 h48
    try walk_at "vc"
    have eU := e_S5
    have KU := KK
    have TU := TT
    have rowU := row
    have CU := C_S5
    clear hr fr_S5 fr_S3
    try walk_at "vc"
    refine u_law_take rowU (by omega) (by decide) (by decide) (fun t8 U1 a0 b0 row1 k1 t1 => ?_)
    have C1 := CU.kp k1 t1
    have KU := KU.trans k1
    have TU := TU.trans t1
    refine ix_any (k1 _ _ eU n_S5) a0 b0 (fun v hv => ?_)
    obtain ⟨cs, hcs, l, xs, rfl, el, hpl, nl⟩ := C1 v hv
    obtain ⟨l3', l6', hbx, hrot⟩ := cs8_ok cs hcs
    clear C1 CU hv k1 t1 eU rowU row KK TT e_S5 C_S5
    try walk_at "vc"
    refine newL (Nat.le_of_ble_eq_true rfl) (fun pd U2 s2 hpd e2 => ?_)
    refine .inr ?_
    refine ix_two e2 (by split <;> decide) (by split <;> decide) (fun side hside => ?_)
    have sd0 : 4 ≤ side := by omega
    have sd1 : side ≤ 10000000 := by omega
    have row2 := row1.mono s2
    have KU := KU.trans s2.kp
    have TU := TU.trans s2.tk
    have el := s2 _ _ el
    have hpl := hpl.tk s2.tk
    clear s2 e2 hpd hside row1
    try walk_at "vc"
    have f1 : far < 1267650600228229401496703205376 := f1
    refine u_law_take row2 (by omega) (by omega) (by show _ < 1606938044258990275541962092341162602522202993782792835301376; omega) (fun ta U3 a3 b3 row3 k3 t3 => ?_)
    try walk_at "vc"
    refine u_law_take row3 (by omega) (by omega) (by show _ < 1606938044258990275541962092341162602522202993782792835301376; omega) (fun td U4 a4 b4 row4 k4 t4 => ?_)
    try walk_at "vc"
    refine u_law_take row4 (by omega) (by omega) (by show _ < 1606938044258990275541962092341162602522202993782792835301376; omega) (fun tb' U5 a5 b5 row5 k5 t5 => ?_)
    try walk_at "vc"
    refine u_law_take row5 (by omega) (by omega) (by show _ < 1606938044258990275541962092341162602522202993782792835301376; omega) (fun tc U6 a6 b6 row6 k6 t6 => ?_)
    try walk_at "vc"
    refine u_law_take row6 (by omega) (by omega) (by show _ < 1606938044258990275541962092341162602522202993782792835301376; omega) (fun te U7 a7 b7 row7 k7 t7 => ?_)
    try walk_at "vc"
    refine u_law_take row7 (by omega) (by omega) (by show _ < 1606938044258990275541962092341162602522202993782792835301376; omega) (fun tf U8 a8 b8 row8 k8 t8' => ?_)
    try walk_at "vc"
    refine u_law_take row8 (by omega) (by decide) (by decide) (fun tw' U9 a9 b9 row9 k9 t9 => ?_)
    try walk_at "vc"
    have kk := k3.trans (k4.trans (k5.trans (k6.trans (k7.trans (k8.trans k9)))))
    have tt := t3.trans (t4.trans (t5.trans (t6.trans (t7.trans (t8'.trans t9)))))
    have KU := KU.trans kk
    have TU := TU.trans tt
    have el := kk _ _ el nl
    have hpl := hpl.tk tt
    clear k3 k4 k5 k6 k7 k8 k9 t3 t4 t5 t6 t7 t8' t9 kk tt row2 row3 row4 row5 row6 row7 row8
    have ha : 0 < 1 + ta ∧ (1 + ta).natAbs ≤ 10000000 := by omega
    have hd : 0 < 1 + td ∧ (1 + td).natAbs ≤ 10000000 := by omega
    have hb : (tb' - side + 1).natAbs ≤ 10000000 := by omega
    have hc : (tc - side + 1).natAbs ≤ 10000000 := by omega
    have he : (te - far).natAbs < 2 ^ 100 := by show _ < 1267650600228229401496703205376; omega
    have hf : (tf - far).natAbs < 2 ^ 100 := by show _ < 1267650600228229401496703205376; omega
    have hw : 0 < 1 + tw' ∧ 1 + tw' ≤ 6 := by omega
    generalize 1 + ta = a at ha ⊢
    generalize 1 + td = d at hd ⊢
    generalize tb' - side + 1 = b at hb ⊢
    generalize tc - side + 1 = c at hc ⊢
    generalize te - far = e at he ⊢
    generalize tf - far = f at hf ⊢
    generalize 1 + tw' = w at hw ⊢
    obtain ⟨ha0, ha⟩ := ha
    obtain ⟨hd0, hd⟩ := hd
    obtain ⟨hw0, hw6⟩ := hw
    have hab : a.natAbs < 2 ^ 24 := by show _ < 16777216; omega
    have hbb : b.natAbs < 2 ^ 24 := by show _ < 16777216; omega
    have hcb : c.natAbs < 2 ^ 24 := by show _ < 16777216; omega
    have hdb : d.natAbs < 2 ^ 24 := by show _ < 16777216; omega
    have hwb : w.natAbs < 2 ^ 3 := by show _ < 8; omega
    refine newL (Nat.le_of_ble_eq_true rfl) (fun pf V0 s0 hpf e0 => ?_)
    have nf : pf ≠ r := by
      obtain ⟨_, er⟩ := row9.at_
      exact (ne_of_none er hpf).symm
    have nfl : l ≠ pf := ne_of_none el hpf
    have frf : ∀ b o, H b = some o → b ≠ r → b ≠ pf := fun b o eb nb => ne_of_none (KU b o eb nb) hpf
    try walk_at "vc"
    refine forL (xs := xs) (fun i σ H2 => ∃ o13 o14 o15 : Option V, σ = [some (V.ref r), some (V.int far), some (V.ref S5), some (V.ref l), some (V.int side), some (V.int a), some (V.int d), some (V.int b), some (V.int c), some (V.int e), some (V.int f), some (V.int w), some (V.ref pf), o13, o14, o15, none] ∧ H2 l = some (.lst xs) ∧ PtL H2 xs cs ∧ Row (n + 8) H2 r ∧ Kp r H H2 ∧ Tk H H2 ∧ ∃ fs, H2 pf = some (.lst fs) ∧ SpL 104 H2 fs ((cs.map (img a b c d e f w)).take i)) ⟨_, _, _, rfl, s0 _ _ el, hpl.tk s0.tk, row9.mono s0, KU.trans s0.kp, TU.trans s0.tk, [], e0, ⟨rfl, fun i x e => by cases e⟩⟩ (fun i σ H2 _ ⟨_, _, _, _, h2, _⟩ => SqL.of h2) ?_ ?_
    · rintro i v σ H2 hi ⟨o13, o14, o15, rfl, el, hpl, row, kp, tk, fs, ef, hfs⟩
      obtain ⟨pt, ept, ht⟩ := hpl.2 i v hi
      have hpt := hbx pt (List.mem_of_getElem? ept)
      refine seq_ti ht ?_
      try walk_at "vc"
      obtain ⟨x, y⟩ := pt
      obtain ⟨x0, x4, y0, y4⟩ := hpt
      simp only at x0 x4 y0 y4
      have hxb : x.natAbs < 2 ^ 3 := by show _ < 8; omega
      have hyb : y.natAbs < 2 ^ 3 := by show _ < 8; omega
      have r1 : (a * x + b * y).natAbs < 2 ^ 28 := add_bd2 (mul_bd hab hxb) (mul_bd hbb hyb)
      have r2 : (c * (a * x + b * y)).natAbs < 2 ^ 52 := mul_bd hcb r1
      have r3 : (c * (a * x + b * y) + d * y).natAbs < 2 ^ 53 := add_bd2 r2 (bdle (mul_bd hdb hyb) (by decide))
      have r4 : (a * x + b * y + e * w).natAbs < 2 ^ 104 := add_bd2 (bdle r1 (by decide)) (mul_bd he hwb)
      have r5 : (c * (a * x + b * y) + d * y + f * w).natAbs < 2 ^ 104 := add_bd2 (bdle r3 (by decide)) (mul_bd hf hwb)
      refine ⟨mulOk hab hxb (by decide), mulOk hbb hyb (by decide), ?_⟩
      refine ⟨.inl ⟨rfl, _, SqL.of ef⟩, ?_⟩
      try walk_at "vc"
      refine ⟨mulOk he hwb (by decide), ?_⟩
      refine u_law_lowest 104 (by omega) r4 (bdle hwb (by decide)) (by decide) (fun vx H3 s3 f3 => ?_)
      try walk_at "vc"
      refine ⟨mulOk hcb r1 (by decide), mulOk hdb hyb (by decide), mulOk hf hwb (by decide), ?_⟩
      refine u_law_lowest 104 (by omega) r5 (bdle hwb (by decide)) (by decide) (fun vy H4 s4 f4 => ?_)
      refine newS (f3.mono s4) f4 (fun ps H5 s5 f5 => ?_)
      have S := s3.trans (s4.trans s5)
      have ef5 := S _ _ ef
      refine ⟨pf, fs, .ref ps, rfl, rfl, ef5, small1000 (by rw [hfs.1, List.length_take, List.length_map]; omega), ?_⟩
      have tu := tk_upd (o := .lst (fs ++ [.ref ps])) ef5
      have kpu : Kp pf H5 (upd H5 pf (.lst (fs ++ [.ref ps]))) := kp_upd
      have T2 := S.tk.trans tu
      have e2 : (cs.map (img a b c d e f w)).take (i + 1) = (cs.map (img a b c d e f w)).take i ++ [img a b c d e f w (x, y)] := by
        rw [List.take_succ, List.getElem?_map, ept]; rfl
      refine ⟨kpu _ _ (S _ _ el) nfl, hpl.tk T2, ?_, fun b o eb nb => by rw [upd_ne (frf b o eb nb)]; exact (kp.trans S.kp) b o eb nb, tk.trans T2, _, upd_same, ?_⟩
      · obtain ⟨c, k, e, l1, l2⟩ := (row.mono S).ex
        exact ⟨c, k, kpu _ _ e nf.symm, l1, by omega⟩
      · rw [e2]
        exact spl_snoc (hfs.tk T2) (f5.tk tu)
    rintro σ H2 ⟨o13, o14, o15, rfl, el, hpl, row, kp, tk, fs, ef, hfs⟩
    have hlc := hpl.1
    rw [hlc, ← List.length_map (as := cs) (f := img a b c d e f w), List.take_length] at hfs
    have hlf : fs.length = cs.length := by rw [hfs.1, List.length_map]
    try walk_at "vc"
    refine len_l ef ?_
    rw [hlf]
    refine u_law_take row (by omega) (by omega) (by show _ < 1606938044258990275541962092341162602522202993782792835301376; omega) (fun at1 H3 a3' b3' row3 k3 t3 => ?_)
    have ef3 := k3 _ _ ef nf
    try walk_at "vc"
    refine ⟨_, SqL.of ef3, fun p1 hp1 => ?_⟩
    have s1 := same_upd (o := .lst (cutV fs (some at1) none)) hp1
    refine ⟨_, SqL.of (s1 _ _ ef3), fun p2 hp2 => ?_⟩
    have s2 := same_upd (o := .lst (cutV fs none (some at1))) hp2
    have hk : at1.toNat < cs.length := by omega
    have c1 : cutV fs (some at1) none = fs.drop at1.toNat := cut_drop a3' (by omega)
    have c2 : cutV fs none (some at1) = fs.take at1.toNat := cut_take a3' (by omega)
    have E1 := s2 _ _ (upd_same (H := H3) (a := p1) (o := .lst (cutV fs (some at1) none)))
    have E2 := upd_same (H := upd H3 p1 (.lst (cutV fs (some at1) none))) (a := p2) (o := .lst (cutV fs none (some at1)))
    have S2 := s1.trans s2
    generalize upd (upd H3 p1 (.lst (cutV fs (some at1) none))) p2 (.lst (cutV fs none (some at1))) = H4 at E1 E2 S2 ⊢
    rw [c1] at E1
    rw [c2] at E2
    clear s1 s2
    refine cat_l E1 E2 (Nat.le_of_lt (small1000 (by rw [List.length_drop, List.length_take]; omega))) (fun p3 hp3 => ?_)
    have s3 := same_upd (o := .lst (fs.drop at1.toNat ++ fs.take at1.toNat)) hp3
    refine ⟨p3, rfl, _, .inl ⟨SqL.of upd_same, fun t ht => ?_⟩⟩
    have s4 := same_upd (o := .tup (fs.drop at1.toNat ++ fs.take at1.toNat)) ht
    have S4 := S2.trans (s3.trans s4)
    have row4 := row3.mono S4
    have nt : t ≠ r := by
      obtain ⟨_, er⟩ := (row3.mono (S2.trans s3)).at_
      exact (ne_of_none er ht).symm
    have hsp := hfs.tk (t3.trans S4.tk)
    obtain ⟨hr1, hr2⟩ := hrot _ hk
    refine k t ((rotI cs at1.toNat).map (img a b c d e f w)) _ ⟨_, upd_same, ?_⟩ (fun s hs => ?_) (fd_img hw0 ha0 hd0 (by omega) (by omega) hr1) nt row4 (kp.trans (k3.trans S4.kp)) (tk.trans (t3.trans S4.tk))
    · rw [rot_map]
      exact spl_app (spl_drop _ hsp) (spl_take _ hsp)
    · obtain ⟨c', hc', rfl⟩ := List.mem_map.mp hs
      refine img_bd (m := 0) hw0 hw6 ha hb hc hd he hf (hbx c' ?_)
      rcases List.mem_append.mp hc' with z | z
      · exact List.mem_of_mem_drop z
      · exact List.mem_of_mem_take z
theorem u_law_field {r : Addr} {far : Int} {n : Nat} {H : Hp} {Q : VK} {E : XK} (h : Row n H r) (hn : n + 200 ≤ 1000000) (f0 : 0 ≤ far) (f1 : far < 2 ^ 100) (k : ∀ p ps H', Tps 104 H' p ps → (∀ s ∈ ps, Bs 104 3 s) → fdP ps = true → p ≠ r → Row (n + 9) H' r → Kp r H H' → Tk H H' → Q (.ref p) H') : sp_law_field [.ref r, .int far] H Q E := ⟨r, far, n, rfl, h, hn, f0, f1, k⟩
abbrev s_law_word : Stmt := top 62
theorem sc_law_word : FnScope ["_law_error", "_law_some", "_law_words"] ["_law_error"] (defScope s_law_word) := ⟨rfl, rfl, rfl, by decide +kernel, rfl, by decide +kernel, by decide +kernel⟩
theorem IsExc.mono {H H' : Hp} {a C : Addr} (s : Same H H') (e : IsExc H a C) : IsExc H' a C := let ⟨φ, h, k⟩ := e; ⟨φ, s _ _ h, k⟩
theorem IsExc.put {H : Hp} {a C l : Addr} {xs : List V} {o : HO} (hl : H l = some (.lst xs)) (e : IsExc H a C) : IsExc (upd H l o) a C := by
  obtain ⟨φ, h, k⟩ := e
  have n : a ≠ l := fun z => by rw [z, hl] at h; cases h
  exact ⟨φ, (upd_ne n).trans h, k⟩
def wordsL : List Str := ["number", "prime", "field", "cutting", "line", "frame", "door", "paper", "areas", "way", "spot", "move", "bend", "many", "text", "row", "name"]
def wordAt (i : Nat) : Str := wordsL.getD i ""
theorem cnt17 : ∀ i : Nat, i < 17 → (((List.range 17).map fun j => V.bl (i == j)).countP fun z => eqV z (.bl true)) = 1 := by decide +kernel
theorem idx17 : ∀ i : Nat, i < 17 → ∀ m : Nat, m < i → (((List.range 17).map fun j => V.bl (i == j))[m]?) = some (.bl false) := by decide +kernel
theorem flat17 : ∀ i : Nat, i < 17 → ((List.range 17).map fun j => V.bl (i == j)).all flatV = true := by decide +kernel
def sp_law_word (cs : List Addr) : Sp := fun vs H Q _ => ∃ (a C : Addr) (i : Nat), vs = [.ref a] ∧ IsExc H a C ∧ cs[i]? = some C ∧ ∀ H', Same H H' → Q (.str (wordAt i)) H'

set_option maxHeartbeats 4000000 in
theorem ok_law_word {f : Addr} {fd : FuncData} (F : Fun K "_law_word" "_law_word" s_law_word f fd) (m : mg "_law_word" = some (.ref f)) (b : Binds K fd ["_law_error"] []) (z_isinstance : mg "isinstance" = none) (z_ValueError : mg "ValueError" = none) (g_NoNumber : mg "NoNumber" = some (.ref c_NoNumber)) (g_NoPrime : mg "NoPrime" = some (.ref c_NoPrime)) (g_NoField : mg "NoField" = some (.ref c_NoField)) (g_NoCutting : mg "NoCutting" = some (.ref c_NoCutting)) (g_NoLine : mg "NoLine" = some (.ref c_NoLine)) (g_NoFrame : mg "NoFrame" = some (.ref c_NoFrame)) (g_NoDoor : mg "NoDoor" = some (.ref c_NoDoor)) (g_NoPaper : mg "NoPaper" = some (.ref c_NoPaper)) (g_NoAreas : mg "NoAreas" = some (.ref c_NoAreas)) (g_NoWay : mg "NoWay" = some (.ref c_NoWay)) (g_NoSpot : mg "NoSpot" = some (.ref c_NoSpot)) (g_NoMove : mg "NoMove" = some (.ref c_NoMove)) (g_NoBend : mg "NoBend" = some (.ref c_NoBend)) (g_TooMany : mg "TooMany" = some (.ref c_TooMany)) (g_NoText : mg "NoText" = some (.ref c_NoText)) (g_NoRow : mg "NoRow" = some (.ref c_NoRow)) (g_NoName : mg "NoName" = some (.ref c_NoName)) (tab : tabB K [c_NoNumber, c_NoPrime, c_NoField, c_NoCutting, c_NoLine, c_NoFrame, c_NoDoor, c_NoPaper, c_NoAreas, c_NoWay, c_NoSpot, c_NoMove, c_NoBend, c_TooMany, c_NoText, c_NoRow, c_NoName] = true) (xcls : List.all [c_NoNumber, c_NoPrime, c_NoField, c_NoCutting, c_NoLine, c_NoFrame, c_NoDoor, c_NoPaper, c_NoAreas, c_NoWay, c_NoSpot, c_NoMove, c_NoBend, c_TooMany, c_NoText, c_NoRow, c_NoName] (xclsB K) = true) (kVal : kitAllB K [c_NoNumber, c_NoPrime, c_NoField, c_NoCutting, c_NoLine, c_NoFrame, c_NoDoor, c_NoPaper, c_NoAreas, c_NoWay, c_NoSpot, c_NoMove, c_NoBend, c_TooMany, c_NoText, c_NoRow, c_NoName] (.type "ValueError") = true) : Cal P w K mg base 1 "_law_word" ["_law_error"] (sp_law_word [c_NoNumber, c_NoPrime, c_NoField, c_NoCutting, c_NoLine, c_NoFrame, c_NoDoor, c_NoPaper, c_NoAreas, c_NoWay, c_NoSpot, c_NoMove, c_NoBend, c_TooMany, c_NoText, c_NoRow, c_NoName]) := by
  refine cal_ofW F sc_law_word m b (fun vs H Q E h => ?_) (fun cdv A outer s H vs Q E hr h => ?_)
  · obtain ⟨_, _, _, rfl, _⟩ := h
    rfl
  · have TAB := tab_ofB tab
    obtain ⟨a, C, i, rfl, ea, hi, k⟩ := h
    have xc := xclsAll_of xcls hi
    refine ⟨_, (wss_cons ⟨(ps_set (i := 1) sc_law_word.nd rfl (by first | exact Or.inl rfl | exact Or.inr rfl) (pe_lst (pa_cons (pe_callB call_isy (by rfl) z_isinstance bt_isinstance (pa_cons (pv 0) (pa_cons (pe_glob (v := .ref c_NoNumber) (by rfl) g_NoNumber rfl) pa_nil se_Name) se_Name)) (pa_cons (pe_callB call_isy (by rfl) z_isinstance bt_isinstance (pa_cons (pv 0) (pa_cons (pe_glob (v := .ref c_NoPrime) (by rfl) g_NoPrime rfl) pa_nil se_Name) se_Name)) (pa_cons (pe_callB call_isy (by rfl) z_isinstance bt_isinstance (pa_cons (pv 0) (pa_cons (pe_glob (v := .ref c_NoField) (by rfl) g_NoField rfl) pa_nil se_Name) se_Name)) pa_nil se_Call) se_Call) se_Call)))⟩
        (wss_cons (ws_expr (we_bm PySem.F.plainAttrs_list PySem.F.slot_list_extend PySem.F.type_list_extend mt_extend ⟨(pv 1)⟩ (wa_cons (we_lst (wa_cons ⟨(pe_callB call_isy (by rfl) z_isinstance bt_isinstance (pa_cons (pv 0) (pa_cons (pe_glob (v := .ref c_NoCutting) (by rfl) g_NoCutting rfl) pa_nil se_Name) se_Name))⟩ (wa_cons ⟨(pe_callB call_isy (by rfl) z_isinstance bt_isinstance (pa_cons (pv 0) (pa_cons (pe_glob (v := .ref c_NoLine) (by rfl) g_NoLine rfl) pa_nil se_Name) se_Name))⟩ (wa_cons ⟨(pe_callB call_isy (by rfl) z_isinstance bt_isinstance (pa_cons (pv 0) (pa_cons (pe_glob (v := .ref c_NoFrame) (by rfl) g_NoFrame rfl) pa_nil se_Name) se_Name))⟩ wa_nil rfl) rfl) rfl)) wa_nil rfl)))
        (wss_cons (ws_expr (we_bm PySem.F.plainAttrs_list PySem.F.slot_list_extend PySem.F.type_list_extend mt_extend ⟨(pv 1)⟩ (wa_cons (we_lst (wa_cons ⟨(pe_callB call_isy (by rfl) z_isinstance bt_isinstance (pa_cons (pv 0) (pa_cons (pe_glob (v := .ref c_NoDoor) (by rfl) g_NoDoor rfl) pa_nil se_Name) se_Name))⟩ (wa_cons ⟨(pe_callB call_isy (by rfl) z_isinstance bt_isinstance (pa_cons (pv 0) (pa_cons (pe_glob (v := .ref c_NoPaper) (by rfl) g_NoPaper rfl) pa_nil se_Name) se_Name))⟩ (wa_cons ⟨(pe_callB call_isy (by rfl) z_isinstance bt_isinstance (pa_cons (pv 0) (pa_cons (pe_glob (v := .ref c_NoAreas) (by rfl) g_NoAreas rfl) pa_nil se_Name) se_Name))⟩ wa_nil rfl) rfl) rfl)) wa_nil rfl)))
        (wss_cons (ws_expr (we_bm PySem.F.plainAttrs_list PySem.F.slot_list_extend PySem.F.type_list_extend mt_extend ⟨(pv 1)⟩ (wa_cons (we_lst (wa_cons ⟨(pe_callB call_isy (by rfl) z_isinstance bt_isinstance (pa_cons (pv 0) (pa_cons (pe_glob (v := .ref c_NoWay) (by rfl) g_NoWay rfl) pa_nil se_Name) se_Name))⟩ (wa_cons ⟨(pe_callB call_isy (by rfl) z_isinstance bt_isinstance (pa_cons (pv 0) (pa_cons (pe_glob (v := .ref c_NoSpot) (by rfl) g_NoSpot rfl) pa_nil se_Name) se_Name))⟩ (wa_cons ⟨(pe_callB call_isy (by rfl) z_isinstance bt_isinstance (pa_cons (pv 0) (pa_cons (pe_glob (v := .ref c_NoMove) (by rfl) g_NoMove rfl) pa_nil se_Name) se_Name))⟩ wa_nil rfl) rfl) rfl)) wa_nil rfl)))
        (wss_cons (ws_expr (we_bm PySem.F.plainAttrs_list PySem.F.slot_list_extend PySem.F.type_list_extend mt_extend ⟨(pv 1)⟩ (wa_cons (we_lst (wa_cons ⟨(pe_callB call_isy (by rfl) z_isinstance bt_isinstance (pa_cons (pv 0) (pa_cons (pe_glob (v := .ref c_NoBend) (by rfl) g_NoBend rfl) pa_nil se_Name) se_Name))⟩ (wa_cons ⟨(pe_callB call_isy (by rfl) z_isinstance bt_isinstance (pa_cons (pv 0) (pa_cons (pe_glob (v := .ref c_TooMany) (by rfl) g_TooMany rfl) pa_nil se_Name) se_Name))⟩ (wa_cons ⟨(pe_callB call_isy (by rfl) z_isinstance bt_isinstance (pa_cons (pv 0) (pa_cons (pe_glob (v := .ref c_NoText) (by rfl) g_NoText rfl) pa_nil se_Name) se_Name))⟩ wa_nil rfl) rfl) rfl)) wa_nil rfl)))
        (wss_cons (ws_expr (we_bm PySem.F.plainAttrs_list PySem.F.slot_list_extend PySem.F.type_list_extend mt_extend ⟨(pv 1)⟩ (wa_cons (we_lst (wa_cons ⟨(pe_callB call_isy (by rfl) z_isinstance bt_isinstance (pa_cons (pv 0) (pa_cons (pe_glob (v := .ref c_NoRow) (by rfl) g_NoRow rfl) pa_nil se_Name) se_Name))⟩ (wa_cons ⟨(pe_callB call_isy (by rfl) z_isinstance bt_isinstance (pa_cons (pv 0) (pa_cons (pe_glob (v := .ref c_NoName) (by rfl) g_NoName rfl) pa_nil se_Name) se_Name))⟩ wa_nil rfl) rfl)) wa_nil rfl)))
        (wss_cons (ws_set (i := 2) sc_law_word.nd rfl (by first | exact Or.inl rfl | exact Or.inr rfl) (we_lst (wa_cons ⟨pe_str⟩ (wa_cons ⟨pe_str⟩ (wa_cons ⟨pe_str⟩ (wa_cons ⟨pe_str⟩ (wa_cons ⟨pe_str⟩ (wa_cons ⟨pe_str⟩ (wa_cons ⟨pe_str⟩ (wa_cons ⟨pe_str⟩ (wa_cons ⟨pe_str⟩ (wa_cons ⟨pe_str⟩ (wa_cons ⟨pe_str⟩ (wa_cons ⟨pe_str⟩ wa_nil rfl) rfl) rfl) rfl) rfl) rfl) rfl) rfl) rfl) rfl) rfl) rfl)))
        (wss_cons (ws_expr (we_bm PySem.F.plainAttrs_list PySem.F.slot_list_extend PySem.F.type_list_extend mt_extend ⟨(pv 2)⟩ (wa_cons (we_lst (wa_cons ⟨pe_str⟩ (wa_cons ⟨pe_str⟩ (wa_cons ⟨pe_str⟩ (wa_cons ⟨pe_str⟩ (wa_cons ⟨pe_str⟩ wa_nil rfl) rfl) rfl) rfl) rfl)) wa_nil rfl)))
        (wss_cons (ws_if (PW.pt (pw_or (pt_cmpR (op_neA hr.units) (pe_bm PySem.F.plainAttrs_list PySem.F.slot_list_count PySem.F.type_list_count mt_countL (pv 1) (pa_cons pe_bl pa_nil se_Constant)) pe_int (nomark _)) (pw_or1 (pt_not (pt_val (pe_callB call_isy (by rfl) z_isinstance bt_isinstance (pa_cons (pv 0) (pa_cons (pe_bltn (v := .ty "ValueError") (by rfl) z_ValueError bt_ValueError rfl) pa_nil se_Name) se_Name))))))) (wss_one ⟨(ps_ret pe_str)⟩) wss_nil)
        (wss_one ⟨(ps_ret (pe_ix ix_seq (pv 2) (pe_bm PySem.F.plainAttrs_list PySem.F.slot_list_index PySem.F.type_list_index mt_index (pv 1) (pa_cons pe_bl pa_nil se_Constant)) (fun _ _ => rfl)))⟩)))))))))), ?_⟩
    have e : start ["_law_error", "_law_some", "_law_words"] [V.ref a] = [some (.ref a), none, none] := rfl
    rw [e]
    try walk_at "vc"
    refine isy_one ea xc (TAB i 0 _ _ hi rfl) ?_
    refine isy_one ea xc (TAB i 1 _ _ hi rfl) ?_
    refine isy_one ea xc (TAB i 2 _ _ hi rfl) ?_
    refine newL (Nat.le_of_ble_eq_true rfl) (fun l H0 s0 nl e0 => ?_)
    replace ea := IsExc.mono s0 ea
    have KK : Kp l H H0 := s0.kp
    try walk_at "vc"
    refine ⟨.inl ⟨rfl, _, SqL.of e0⟩, ?_⟩
    try walk_at "vc"
    refine isy_one ea xc (TAB i 3 _ _ hi rfl) ?_
    refine isy_one ea xc (TAB i 4 _ _ hi rfl) ?_
    refine isy_one ea xc (TAB i 5 _ _ hi rfl) ?_
    refine newL (Nat.le_of_ble_eq_true rfl) (fun q1 J1 s1 nq1 e1 => ?_)
    refine ⟨l, q1, _, _, rfl, rfl, s1 _ _ e0, e1, Nat.le_of_lt (small1000 (Nat.le_of_ble_eq_true rfl)), ?_⟩
    try walk_at "vc"
    have ea' : IsExc (upd J1 l (HO.lst [V.bl (i == 0), V.bl (i == 1), V.bl (i == 2), V.bl (i == 3), V.bl (i == 4), V.bl (i == 5)])) a C := IsExc.put (s1 _ _ e0) (IsExc.mono s1 ea)
    have KK' : Kp l H (upd J1 l (HO.lst [V.bl (i == 0), V.bl (i == 1), V.bl (i == 2), V.bl (i == 3), V.bl (i == 4), V.bl (i == 5)])) := (KK.trans s1.kp).trans kp_upd
    have e0' : upd J1 l (HO.lst [V.bl (i == 0), V.bl (i == 1), V.bl (i == 2), V.bl (i == 3), V.bl (i == 4), V.bl (i == 5)]) l = some (HO.lst [V.bl (i == 0), V.bl (i == 1), V.bl (i == 2), V.bl (i == 3), V.bl (i == 4), V.bl (i == 5)]) := upd_same
    clear e0 ea KK
    generalize upd J1 l (HO.lst [V.bl (i == 0), V.bl (i == 1), V.bl (i == 2), V.bl (i == 3), V.bl (i == 4), V.bl (i == 5)]) = G1 at ea' KK' e0' ⊢
    have e0 := e0'
    have ea := ea'
    have KK := KK'
    clear e0' ea' KK'
    try walk_at "vc"
    refine ⟨.inl ⟨rfl, _, SqL.of e0⟩, ?_⟩
    try walk_at "vc"
    refine isy_one ea xc (TAB i 6 _ _ hi rfl) ?_
    refine isy_one ea xc (TAB i 7 _ _ hi rfl) ?_
    refine isy_one ea xc (TAB i 8 _ _ hi rfl) ?_
    refine newL (Nat.le_of_ble_eq_true rfl) (fun q2 J2 s2 nq2 e2 => ?_)
    refine ⟨l, q2, _, _, rfl, rfl, s2 _ _ e0, e2, Nat.le_of_lt (small1000 (Nat.le_of_ble_eq_true rfl)), ?_⟩
    try walk_at "vc"
    have ea' : IsExc (upd J2 l (HO.lst [V.bl (i == 0), V.bl (i == 1), V.bl (i == 2), V.bl (i == 3), V.bl (i == 4), V.bl (i == 5), V.bl (i == 6), V.bl (i == 7), V.bl (i == 8)])) a C := IsExc.put (s2 _ _ e0) (IsExc.mono s2 ea)
    have KK' : Kp l H (upd J2 l (HO.lst [V.bl (i == 0), V.bl (i == 1), V.bl (i == 2), V.bl (i == 3), V.bl (i == 4), V.bl (i == 5), V.bl (i == 6), V.bl (i == 7), V.bl (i == 8)])) := (KK.trans s2.kp).trans kp_upd
    have e0' : upd J2 l (HO.lst [V.bl (i == 0), V.bl (i == 1), V.bl (i == 2), V.bl (i == 3), V.bl (i == 4), V.bl (i == 5), V.bl (i == 6), V.bl (i == 7), V.bl (i == 8)]) l = some (HO.lst [V.bl (i == 0), V.bl (i == 1), V.bl (i == 2), V.bl (i == 3), V.bl (i == 4), V.bl (i == 5), V.bl (i == 6), V.bl (i == 7), V.bl (i == 8)]) := upd_same
    clear e0 ea KK
    generalize upd J2 l (HO.lst [V.bl (i == 0), V.bl (i == 1), V.bl (i == 2), V.bl (i == 3), V.bl (i == 4), V.bl (i == 5), V.bl (i == 6), V.bl (i == 7), V.bl (i == 8)]) = G2 at ea' KK' e0' ⊢
    have e0 := e0'
    have ea := ea'
    have KK := KK'
    clear e0' ea' KK'
    try walk_at "vc"
    refine ⟨.inl ⟨rfl, _, SqL.of e0⟩, ?_⟩
    try walk_at "vc"
    refine isy_one ea xc (TAB i 9 _ _ hi rfl) ?_
    refine isy_one ea xc (TAB i 10 _ _ hi rfl) ?_
    refine isy_one ea xc (TAB i 11 _ _ hi rfl) ?_
    refine newL (Nat.le_of_ble_eq_true rfl) (fun q3 J3 s3 nq3 e3 => ?_)
    refine ⟨l, q3, _, _, rfl, rfl, s3 _ _ e0, e3, Nat.le_of_lt (small1000 (Nat.le_of_ble_eq_true rfl)), ?_⟩
    try walk_at "vc"
    have ea' : IsExc (upd J3 l (HO.lst [V.bl (i == 0), V.bl (i == 1), V.bl (i == 2), V.bl (i == 3), V.bl (i == 4), V.bl (i == 5), V.bl (i == 6), V.bl (i == 7), V.bl (i == 8), V.bl (i == 9), V.bl (i == 10), V.bl (i == 11)])) a C := IsExc.put (s3 _ _ e0) (IsExc.mono s3 ea)
    have KK' : Kp l H (upd J3 l (HO.lst [V.bl (i == 0), V.bl (i == 1), V.bl (i == 2), V.bl (i == 3), V.bl (i == 4), V.bl (i == 5), V.bl (i == 6), V.bl (i == 7), V.bl (i == 8), V.bl (i == 9), V.bl (i == 10), V.bl (i == 11)])) := (KK.trans s3.kp).trans kp_upd
    have e0' : upd J3 l (HO.lst [V.bl (i == 0), V.bl (i == 1), V.bl (i == 2), V.bl (i == 3), V.bl (i == 4), V.bl (i == 5), V.bl (i == 6), V.bl (i == 7), V.bl (i == 8), V.bl (i == 9), V.bl (i == 10), V.bl (i == 11)]) l = some (HO.lst [V.bl (i == 0), V.bl (i == 1), V.bl (i == 2), V.bl (i == 3), V.bl (i == 4), V.bl (i == 5), V.bl (i == 6), V.bl (i == 7), V.bl (i == 8), V.bl (i == 9), V.bl (i == 10), V.bl (i == 11)]) := upd_same
    clear e0 ea KK
    generalize upd J3 l (HO.lst [V.bl (i == 0), V.bl (i == 1), V.bl (i == 2), V.bl (i == 3), V.bl (i == 4), V.bl (i == 5), V.bl (i == 6), V.bl (i == 7), V.bl (i == 8), V.bl (i == 9), V.bl (i == 10), V.bl (i == 11)]) = G3 at ea' KK' e0' ⊢
    have e0 := e0'
    have ea := ea'
    have KK := KK'
    clear e0' ea' KK'
    try walk_at "vc"
    refine ⟨.inl ⟨rfl, _, SqL.of e0⟩, ?_⟩
    try walk_at "vc"
    refine isy_one ea xc (TAB i 12 _ _ hi rfl) ?_
    refine isy_one ea xc (TAB i 13 _ _ hi rfl) ?_
    refine isy_one ea xc (TAB i 14 _ _ hi rfl) ?_
    refine newL (Nat.le_of_ble_eq_true rfl) (fun q4 J4 s4 nq4 e4 => ?_)
    refine ⟨l, q4, _, _, rfl, rfl, s4 _ _ e0, e4, Nat.le_of_lt (small1000 (Nat.le_of_ble_eq_true rfl)), ?_⟩
    try walk_at "vc"
    have ea' : IsExc (upd J4 l (HO.lst [V.bl (i == 0), V.bl (i == 1), V.bl (i == 2), V.bl (i == 3), V.bl (i == 4), V.bl (i == 5), V.bl (i == 6), V.bl (i == 7), V.bl (i == 8), V.bl (i == 9), V.bl (i == 10), V.bl (i == 11), V.bl (i == 12), V.bl (i == 13), V.bl (i == 14)])) a C := IsExc.put (s4 _ _ e0) (IsExc.mono s4 ea)
    have KK' : Kp l H (upd J4 l (HO.lst [V.bl (i == 0), V.bl (i == 1), V.bl (i == 2), V.bl (i == 3), V.bl (i == 4), V.bl (i == 5), V.bl (i == 6), V.bl (i == 7), V.bl (i == 8), V.bl (i == 9), V.bl (i == 10), V.bl (i == 11), V.bl (i == 12), V.bl (i == 13), V.bl (i == 14)])) := (KK.trans s4.kp).trans kp_upd
    have e0' : upd J4 l (HO.lst [V.bl (i == 0), V.bl (i == 1), V.bl (i == 2), V.bl (i == 3), V.bl (i == 4), V.bl (i == 5), V.bl (i == 6), V.bl (i == 7), V.bl (i == 8), V.bl (i == 9), V.bl (i == 10), V.bl (i == 11), V.bl (i == 12), V.bl (i == 13), V.bl (i == 14)]) l = some (HO.lst [V.bl (i == 0), V.bl (i == 1), V.bl (i == 2), V.bl (i == 3), V.bl (i == 4), V.bl (i == 5), V.bl (i == 6), V.bl (i == 7), V.bl (i == 8), V.bl (i == 9), V.bl (i == 10), V.bl (i == 11), V.bl (i == 12), V.bl (i == 13), V.bl (i == 14)]) := upd_same
    clear e0 ea KK
    generalize upd J4 l (HO.lst [V.bl (i == 0), V.bl (i == 1), V.bl (i == 2), V.bl (i == 3), V.bl (i == 4), V.bl (i == 5), V.bl (i == 6), V.bl (i == 7), V.bl (i == 8), V.bl (i == 9), V.bl (i == 10), V.bl (i == 11), V.bl (i == 12), V.bl (i == 13), V.bl (i == 14)]) = G4 at ea' KK' e0' ⊢
    have e0 := e0'
    have ea := ea'
    have KK := KK'
    clear e0' ea' KK'
    try walk_at "vc"
    refine ⟨.inl ⟨rfl, _, SqL.of e0⟩, ?_⟩
    try walk_at "vc"
    refine isy_one ea xc (TAB i 15 _ _ hi rfl) ?_
    refine isy_one ea xc (TAB i 16 _ _ hi rfl) ?_
    refine newL (Nat.le_of_ble_eq_true rfl) (fun q5 J5 s5 nq5 e5 => ?_)
    refine ⟨l, q5, _, _, rfl, rfl, s5 _ _ e0, e5, Nat.le_of_lt (small1000 (Nat.le_of_ble_eq_true rfl)), ?_⟩
    try walk_at "vc"
    have ea' : IsExc (upd J5 l (HO.lst [V.bl (i == 0), V.bl (i == 1), V.bl (i == 2), V.bl (i == 3), V.bl (i == 4), V.bl (i == 5), V.bl (i == 6), V.bl (i == 7), V.bl (i == 8), V.bl (i == 9), V.bl (i == 10), V.bl (i == 11), V.bl (i == 12), V.bl (i == 13), V.bl (i == 14), V.bl (i == 15), V.bl (i == 16)])) a C := IsExc.put (s5 _ _ e0) (IsExc.mono s5 ea)
    have KK' : Kp l H (upd J5 l (HO.lst [V.bl (i == 0), V.bl (i == 1), V.bl (i == 2), V.bl (i == 3), V.bl (i == 4), V.bl (i == 5), V.bl (i == 6), V.bl (i == 7), V.bl (i == 8), V.bl (i == 9), V.bl (i == 10), V.bl (i == 11), V.bl (i == 12), V.bl (i == 13), V.bl (i == 14), V.bl (i == 15), V.bl (i == 16)])) := (KK.trans s5.kp).trans kp_upd
    have e0' : upd J5 l (HO.lst [V.bl (i == 0), V.bl (i == 1), V.bl (i == 2), V.bl (i == 3), V.bl (i == 4), V.bl (i == 5), V.bl (i == 6), V.bl (i == 7), V.bl (i == 8), V.bl (i == 9), V.bl (i == 10), V.bl (i == 11), V.bl (i == 12), V.bl (i == 13), V.bl (i == 14), V.bl (i == 15), V.bl (i == 16)]) l = some (HO.lst [V.bl (i == 0), V.bl (i == 1), V.bl (i == 2), V.bl (i == 3), V.bl (i == 4), V.bl (i == 5), V.bl (i == 6), V.bl (i == 7), V.bl (i == 8), V.bl (i == 9), V.bl (i == 10), V.bl (i == 11), V.bl (i == 12), V.bl (i == 13), V.bl (i == 14), V.bl (i == 15), V.bl (i == 16)]) := upd_same
    clear e0 ea KK
    generalize upd J5 l (HO.lst [V.bl (i == 0), V.bl (i == 1), V.bl (i == 2), V.bl (i == 3), V.bl (i == 4), V.bl (i == 5), V.bl (i == 6), V.bl (i == 7), V.bl (i == 8), V.bl (i == 9), V.bl (i == 10), V.bl (i == 11), V.bl (i == 12), V.bl (i == 13), V.bl (i == 14), V.bl (i == 15), V.bl (i == 16)]) = G5 at ea' KK' e0' ⊢
    have e0 := e0'
    have ea := ea'
    have KK := KK'
    clear e0' ea' KK'
    try walk_at "vc"
    refine newL (Nat.le_of_ble_eq_true rfl) (fun w HW sW nw eW => ?_)
    have nwl : l ≠ w := ne_of_none e0 nw
    have nwH : H w = none := by
      cases z : H w with
      | none => rfl
      | some u =>
        have := KK w u z (fun z2 => nwl z2.symm)
        rw [nw] at this
        cases this
    replace ea := IsExc.mono sW ea
    replace e0 := sW _ _ e0
    try walk_at "vc"
    refine ⟨.inl ⟨rfl, _, SqL.of eW⟩, ?_⟩
    try walk_at "vc"
    refine newL (Nat.le_of_ble_eq_true rfl) (fun w2 HX sX nw2 eX => ?_)
    refine ⟨w, w2, _, _, rfl, rfl, sX _ _ eW, eX, Nat.le_of_lt (small1000 (Nat.le_of_ble_eq_true rfl)), ?_⟩
    try walk_at "vc"
    have eaF : IsExc (upd HX w (HO.lst [V.str (Str.ofString "number"), V.str (Str.ofString "prime"), V.str (Str.ofString "field"), V.str (Str.ofString "cutting"), V.str (Str.ofString "line"), V.str (Str.ofString "frame"), V.str (Str.ofString "door"), V.str (Str.ofString "paper"), V.str (Str.ofString "areas"), V.str (Str.ofString "way"), V.str (Str.ofString "spot"), V.str (Str.ofString "move"), V.str (Str.ofString "bend"), V.str (Str.ofString "many"), V.str (Str.ofString "text"), V.str (Str.ofString "row"), V.str (Str.ofString "name")])) a C := IsExc.put (sX _ _ eW) (IsExc.mono sX ea)
    have e0F : (upd HX w (HO.lst [V.str (Str.ofString "number"), V.str (Str.ofString "prime"), V.str (Str.ofString "field"), V.str (Str.ofString "cutting"), V.str (Str.ofString "line"), V.str (Str.ofString "frame"), V.str (Str.ofString "door"), V.str (Str.ofString "paper"), V.str (Str.ofString "areas"), V.str (Str.ofString "way"), V.str (Str.ofString "spot"), V.str (Str.ofString "move"), V.str (Str.ofString "bend"), V.str (Str.ofString "many"), V.str (Str.ofString "text"), V.str (Str.ofString "row"), V.str (Str.ofString "name")])) l = some (.lst ((List.range 17).map fun j => V.bl (i == j))) := (upd_ne nwl).trans (sX _ _ e0)
    have eWF : (upd HX w (HO.lst [V.str (Str.ofString "number"), V.str (Str.ofString "prime"), V.str (Str.ofString "field"), V.str (Str.ofString "cutting"), V.str (Str.ofString "line"), V.str (Str.ofString "frame"), V.str (Str.ofString "door"), V.str (Str.ofString "paper"), V.str (Str.ofString "areas"), V.str (Str.ofString "way"), V.str (Str.ofString "spot"), V.str (Str.ofString "move"), V.str (Str.ofString "bend"), V.str (Str.ofString "many"), V.str (Str.ofString "text"), V.str (Str.ofString "row"), V.str (Str.ofString "name")])) w = some (HO.lst [V.str (Str.ofString "number"), V.str (Str.ofString "prime"), V.str (Str.ofString "field"), V.str (Str.ofString "cutting"), V.str (Str.ofString "line"), V.str (Str.ofString "frame"), V.str (Str.ofString "door"), V.str (Str.ofString "paper"), V.str (Str.ofString "areas"), V.str (Str.ofString "way"), V.str (Str.ofString "spot"), V.str (Str.ofString "move"), V.str (Str.ofString "bend"), V.str (Str.ofString "many"), V.str (Str.ofString "text"), V.str (Str.ofString "row"), V.str (Str.ofString "name")]) := upd_same
    have SF : Same H (upd HX w (HO.lst [V.str (Str.ofString "number"), V.str (Str.ofString "prime"), V.str (Str.ofString "field"), V.str (Str.ofString "cutting"), V.str (Str.ofString "line"), V.str (Str.ofString "frame"), V.str (Str.ofString "door"), V.str (Str.ofString "paper"), V.str (Str.ofString "areas"), V.str (Str.ofString "way"), V.str (Str.ofString "spot"), V.str (Str.ofString "move"), V.str (Str.ofString "bend"), V.str (Str.ofString "many"), V.str (Str.ofString "text"), V.str (Str.ofString "row"), V.str (Str.ofString "name")])) := fun b u eb => by
      rw [upd_ne (ne_of_none eb nwH)]
      exact sX _ _ (sW _ _ (KK b u eb (ne_of_none eb nl)))
    clear ea e0 KK eX eW nw2
    generalize upd HX w (HO.lst [V.str (Str.ofString "number"), V.str (Str.ofString "prime"), V.str (Str.ofString "field"), V.str (Str.ofString "cutting"), V.str (Str.ofString "line"), V.str (Str.ofString "frame"), V.str (Str.ofString "door"), V.str (Str.ofString "paper"), V.str (Str.ofString "areas"), V.str (Str.ofString "way"), V.str (Str.ofString "spot"), V.str (Str.ofString "move"), V.str (Str.ofString "bend"), V.str (Str.ofString "many"), V.str (Str.ofString "text"), V.str (Str.ofString "row"), V.str (Str.ofString "name")]) = F at eaF e0F eWF SF ⊢
    have i17 : i < 17 := (List.getElem?_eq_some_iff.mp hi).1
    refine ⟨.inl ⟨rfl, _, SqL.of e0F⟩, ?_⟩
    refine ⟨l, _, _, rfl, rfl, SqL.of e0F, rfl, flat17 i i17, ?_⟩
    rw [cnt17 i i17]
    refine ne_i ?_
    try walk_at "vc"
    refine ite_n (fun z => absurd rfl z) (fun _ => ?_)
    refine isy_ty eaF xc (kitAll_of kVal hi) ?_
    try walk_at "vc"
    refine ⟨.inl ⟨rfl, _, SqL.of e0F⟩, ?_⟩
    refine ⟨l, _, _, i, .bl true, rfl, rfl, SqL.of e0F, rfl, flat17 i i17, ?_, rfl, fun m z hm hz => ?_, ?_⟩
    · rw [List.getElem?_map, List.getElem?_range i17]
      simp
    · rw [idx17 i i17 m hm] at hz
      cases hz
      rfl
    refine ix_lst eWF (v := .str (wordAt i)) ?_ (k F SF)
    have hW : ∀ i : Nat, i < 17 → (wordsL.map V.str)[i]? = some (V.str (wordAt i)) := by decide +kernel
    exact hW i i17
theorem u_law_word {cs : List Addr} {H : Hp} {Q : VK} {E : XK} {a C : Addr} {i : Nat} (ea : IsExc H a C) (hi : cs[i]? = some C) (k : ∀ H', Same H H' → Q (.str (wordAt i)) H') : sp_law_word cs [.ref a] H Q E := ⟨a, C, i, rfl, ea, hi, k⟩
abbrev s_law_said : Stmt := top 63
theorem sc_law_said : FnScope ["_law_ask", "_law_parts", "_law_caught", "_law_found", "_law_e"] ["_law_ask", "_law_parts"] (defScope s_law_said) := ⟨rfl, rfl, rfl, by decide +kernel, rfl, by decide +kernel, by decide +kernel⟩
/-- what a call that may refuse tells: answers, refusals -/
def Asked (sp : Sp) (xs : List V) (H : Hp) (Qs : VK) (Es : Addr → Addr → Hp → Prop) : Prop := ∀ Q2 E2, (∀ v H', Qs v H' → Q2 v H') → (∀ C x H', Es C x H' → E2 (.ref C) (some x) H') → sp xs H Q2 E2
def sp_law_said (P : Program) (w : World) (K : PySem.W.Frag) (mg : Str → Option Value) (base : Heap) (cs : List Addr) : Sp := fun vs H Q _ => ∃ (f l : Addr) (xs : List V) (k : Nat) (ps : List Str) (sp : Sp) (Qs : VK) (Es : Addr → Addr → Hp → Prop), vs = [.ref f, .ref l] ∧ CalF P w K mg base k f ps sp ∧ k ≤ 13 ∧ H l = some (.lst xs) ∧ 1 ≤ xs.length ∧ xs.length ≤ 4 ∧ Asked sp xs H Qs Es ∧
  (∀ v H', Qs v H' → ∀ p H'', Same H' H'' → H'' p = some (.tup [v]) → Q (.ref p) H'') ∧ (∀ C x H', Es C x H' → ∃ i, cs[i]? = some C ∧ IsExc H' x C ∧ ∀ p H'', Same H' H'' → H'' p = some (.tup [.str "refused", .str (wordAt i)]) → Q (.ref p) H'')

set_option maxHeartbeats 4000000 in
theorem ok_law_said {f : Addr} {fd : FuncData} (F : Fun K "_law_said" "_law_said" s_law_said f fd) (m : mg "_law_said" = some (.ref f)) (b : Binds K fd ["_law_ask", "_law_parts"] []) (z_len : mg "len" = none) (C_law_word : Cal P w K mg base 1 "_law_word" ["_law_error"] (sp_law_word [c_NoNumber, c_NoPrime, c_NoField, c_NoCutting, c_NoLine, c_NoFrame, c_NoDoor, c_NoPaper, c_NoAreas, c_NoWay, c_NoSpot, c_NoMove, c_NoBend, c_TooMany, c_NoText, c_NoRow, c_NoName])) (g_ShardError : mg "ShardError" = some (.ref c_ShardError)) (S_ShardError : XHnd K c_ShardError) (kSub : List.all [c_NoNumber, c_NoPrime, c_NoField, c_NoCutting, c_NoLine, c_NoFrame, c_NoDoor, c_NoPaper, c_NoAreas, c_NoWay, c_NoSpot, c_NoMove, c_NoBend, c_TooMany, c_NoText, c_NoRow, c_NoName] (fun C => PySem.W.mroIn K C (.ref c_ShardError) == some true) = true) : Cal P w K mg base 14 "_law_said" ["_law_ask", "_law_parts"] (sp_law_said P w K mg base [c_NoNumber, c_NoPrime, c_NoField, c_NoCutting, c_NoLine, c_NoFrame, c_NoDoor, c_NoPaper, c_NoAreas, c_NoWay, c_NoSpot, c_NoMove, c_NoBend, c_TooMany, c_NoText, c_NoRow, c_NoName]) := by
  refine cal_ofW F sc_law_said m b (fun vs H Q E h => ?_) (fun cdv A outer s H vs Q E hr h => ?_)
  · obtain ⟨f, l, xs, k, ps, sp, Qs, Es, rfl, _⟩ := h
    rfl
  · obtain ⟨f, l, xs, k, ps, sp, Qs, Es, rfl, C, hk, el, l1, l4, ha, kq, ke⟩ := h
    refine ⟨_, (wss_cons ⟨(ps_set (i := 2) sc_law_said.nd rfl (by first | exact Or.inl rfl | exact Or.inr rfl) pe_non)⟩
        (wss_cons ⟨(ps_set (i := 3) sc_law_said.nd rfl (by first | exact Or.inl rfl | exact Or.inr rfl) pe_non)⟩
        (wss_cons (ws_try2 (i := 4) rfl rfl g_ShardError S_ShardError (by rfl) sc_law_said.nd rfl rfl (fun _ _ => (wss_one (ws_if (pt_cmpR (op_eqK hr.units rfl) (pe_callB (call_lenK rfl) (by rfl) z_len bt_len (pa_cons (pv 1) pa_nil se_Name)) pe_int (nomark _)) (wss_one ⟨(ps_set (i := 3) sc_law_said.nd rfl (by first | exact Or.inl rfl | exact Or.inr rfl) (pe_callTV (i := 0) rfl (by first | exact Or.inl rfl | exact Or.inr (Or.inl rfl) | exact Or.inr (Or.inr rfl)) hr (pa_cons (pe_ix (ix_seqK rfl) (pv 1) pe_int (fun _ _ => rfl)) pa_nil se_Subscript) (by decide) (by decide) se_Subscript (se_any rfl)))⟩) (wss_one (ws_if (pt_cmpR (op_eqK hr.units rfl) (pe_callB (call_lenK rfl) (by rfl) z_len bt_len (pa_cons (pv 1) pa_nil se_Name)) pe_int (nomark _)) (wss_one ⟨(ps_set (i := 3) sc_law_said.nd rfl (by first | exact Or.inl rfl | exact Or.inr rfl) (pe_callTV (i := 0) rfl (by first | exact Or.inl rfl | exact Or.inr (Or.inl rfl) | exact Or.inr (Or.inr rfl)) hr (pa_cons (pe_ix (ix_seqK rfl) (pv 1) pe_int (fun _ _ => rfl)) (pa_cons (pe_ix (ix_seqK rfl) (pv 1) pe_int (fun _ _ => rfl)) pa_nil se_Subscript) se_Subscript) (by decide) (by decide) se_Subscript (se_any rfl)))⟩) (wss_one (ws_if (pt_cmpR (op_eqK hr.units rfl) (pe_callB (call_lenK rfl) (by rfl) z_len bt_len (pa_cons (pv 1) pa_nil se_Name)) pe_int (nomark _)) (wss_one ⟨(ps_set (i := 3) sc_law_said.nd rfl (by first | exact Or.inl rfl | exact Or.inr rfl) (pe_callTV (i := 0) rfl (by first | exact Or.inl rfl | exact Or.inr (Or.inl rfl) | exact Or.inr (Or.inr rfl)) hr (pa_cons (pe_ix (ix_seqK rfl) (pv 1) pe_int (fun _ _ => rfl)) (pa_cons (pe_ix (ix_seqK rfl) (pv 1) pe_int (fun _ _ => rfl)) (pa_cons (pe_ix (ix_seqK rfl) (pv 1) pe_int (fun _ _ => rfl)) pa_nil se_Subscript) se_Subscript) se_Subscript) (by decide) (by decide) se_Subscript (se_any rfl)))⟩) (wss_one ⟨(ps_set (i := 3) sc_law_said.nd rfl (by first | exact Or.inl rfl | exact Or.inr rfl) (pe_callTV (i := 0) rfl (by first | exact Or.inl rfl | exact Or.inr (Or.inl rfl) | exact Or.inr (Or.inr rfl)) hr (pa_cons (pe_ix (ix_seqK rfl) (pv 1) pe_int (fun _ _ => rfl)) (pa_cons (pe_ix (ix_seqK rfl) (pv 1) pe_int (fun _ _ => rfl)) (pa_cons (pe_ix (ix_seqK rfl) (pv 1) pe_int (fun _ _ => rfl)) (pa_cons (pe_ix (ix_seqK rfl) (pv 1) pe_int (fun _ _ => rfl)) pa_nil se_Subscript) se_Subscript) se_Subscript) se_Subscript) (by decide) (by decide) se_Subscript (se_any rfl)))⟩)))))))) (fun _ => (wss_one ⟨(ps_set (i := 2) sc_law_said.nd rfl (by first | exact Or.inl rfl | exact Or.inr rfl) (pv 4))⟩)))
        (wss_cons (ws_if (pt_cmpR op_isA (pv 2) pe_non (nomark _)) (wss_one ⟨(ps_ret (pe_tup (pa_cons (pv 3) pa_nil se_Name)))⟩) wss_nil)
        (wss_one ⟨(ps_ret (pe_tup (pa_cons pe_str (pa_cons (pe_callC C_law_word hr (by decide) (by rfl) (pa_cons (pv 2) pa_nil se_Name) (by decide) se_Name (se_any rfl)) pa_nil se_Call) se_Constant)))⟩))))), ?_⟩
    have e : start ["_law_ask", "_law_parts", "_law_caught", "_law_found", "_law_e"] [V.ref f, V.ref l] = [some (.ref f), some (.ref l), none, none, none] := rfl
    rw [e]
    try walk_at "vc"
    refine len_l el ?_
    refine eq_i ?_
    try walk_at "vc"
    match xs, l1, l4, el, ha with
    | [x0], _, _, el, ha =>
      rw [if_pos (by simp)]
      refine ⟨k, ps, sp, C, hk, ?_⟩
      refine ix_lst (j := 0) el rfl ?_
      refine ha _ _ (fun v H' q => ?_) (fun C x H' q => ?_)
      · refine .inl ⟨rfl, true, rfl, ?_⟩
        rw [if_pos rfl]
        refine newT (Nat.le_of_ble_eq_true rfl) (fun p H2 s2 np e2 => ?_)
        exact kq v H' q p H2 s2 e2
      · obtain ⟨i, hi, ex, kk⟩ := ke C x H' q
        have hm := List.all_eq_true.mp kSub C (List.mem_of_getElem? hi)
        rw [beq_iff_eq] at hm
        refine ⟨C, rfl, x, rfl, hm, ?_⟩
        refine .inl ⟨rfl, false, rfl, ?_⟩
        rw [if_neg (by decide)]
        refine u_law_word ex hi (fun H2 s2 => ?_)
        refine newT (Nat.le_of_ble_eq_true rfl) (fun p H3 s3 np e3 => ?_)
        exact kk p H3 (s2.trans s3) e3
    | [x0, x1], _, _, el, ha =>
      rw [if_neg (by simp)]
      refine len_l el ?_
      refine eq_i ?_
      try walk_at "vc"
      rw [if_pos (by simp)]
      refine ⟨k, ps, sp, C, hk, ?_⟩
      refine ix_lst (j := 0) el rfl ?_
      refine ix_lst (j := 1) el rfl ?_
      refine ha _ _ (fun v H' q => ?_) (fun C x H' q => ?_)
      · refine .inl ⟨rfl, true, rfl, ?_⟩
        rw [if_pos rfl]
        refine newT (Nat.le_of_ble_eq_true rfl) (fun p H2 s2 np e2 => ?_)
        exact kq v H' q p H2 s2 e2
      · obtain ⟨i, hi, ex, kk⟩ := ke C x H' q
        have hm := List.all_eq_true.mp kSub C (List.mem_of_getElem? hi)
        rw [beq_iff_eq] at hm
        refine ⟨C, rfl, x, rfl, hm, ?_⟩
        refine .inl ⟨rfl, false, rfl, ?_⟩
        rw [if_neg (by decide)]
        refine u_law_word ex hi (fun H2 s2 => ?_)
        refine newT (Nat.le_of_ble_eq_true rfl) (fun p H3 s3 np e3 => ?_)
        exact kk p H3 (s2.trans s3) e3
    | [x0, x1, x2], _, _, el, ha =>
      rw [if_neg (by simp)]
      refine len_l el ?_
      refine eq_i ?_
      try walk_at "vc"
      rw [if_neg (by simp)]
      refine len_l el ?_
      refine eq_i ?_
      try walk_at "vc"
      rw [if_pos (by simp)]
      refine ⟨k, ps, sp, C, hk, ?_⟩
      refine ix_lst (j := 0) el rfl ?_
      refine ix_lst (j := 1) el rfl ?_
      refine ix_lst (j := 2) el rfl ?_
      refine ha _ _ (fun v H' q => ?_) (fun C x H' q => ?_)
      · refine .inl ⟨rfl, true, rfl, ?_⟩
        rw [if_pos rfl]
        refine newT (Nat.le_of_ble_eq_true rfl) (fun p H2 s2 np e2 => ?_)
        exact kq v H' q p H2 s2 e2
      · obtain ⟨i, hi, ex, kk⟩ := ke C x H' q
        have hm := List.all_eq_true.mp kSub C (List.mem_of_getElem? hi)
        rw [beq_iff_eq] at hm
        refine ⟨C, rfl, x, rfl, hm, ?_⟩
        refine .inl ⟨rfl, false, rfl, ?_⟩
        rw [if_neg (by decide)]
        refine u_law_word ex hi (fun H2 s2 => ?_)
        refine newT (Nat.le_of_ble_eq_true rfl) (fun p H3 s3 np e3 => ?_)
        exact kk p H3 (s2.trans s3) e3
    | [x0, x1, x2, x3], _, _, el, ha =>
      rw [if_neg (by simp)]
      refine len_l el ?_
      refine eq_i ?_
      try walk_at "vc"
      rw [if_neg (by simp)]
      refine len_l el ?_
      refine eq_i ?_
      try walk_at "vc"
      rw [if_neg (by simp)]
      refine ⟨k, ps, sp, C, hk, ?_⟩
      refine ix_lst (j := 0) el rfl ?_
      refine ix_lst (j := 1) el rfl ?_
      refine ix_lst (j := 2) el rfl ?_
      refine ix_lst (j := 3) el rfl ?_
      refine ha _ _ (fun v H' q => ?_) (fun C x H' q => ?_)
      · refine .inl ⟨rfl, true, rfl, ?_⟩
        rw [if_pos rfl]
        refine newT (Nat.le_of_ble_eq_true rfl) (fun p H2 s2 np e2 => ?_)
        exact kq v H' q p H2 s2 e2
      · obtain ⟨i, hi, ex, kk⟩ := ke C x H' q
        have hm := List.all_eq_true.mp kSub C (List.mem_of_getElem? hi)
        rw [beq_iff_eq] at hm
        refine ⟨C, rfl, x, rfl, hm, ?_⟩
        refine .inl ⟨rfl, false, rfl, ?_⟩
        rw [if_neg (by decide)]
        refine u_law_word ex hi (fun H2 s2 => ?_)
        refine newT (Nat.le_of_ble_eq_true rfl) (fun p H3 s3 np e3 => ?_)
        exact kk p H3 (s2.trans s3) e3
    | _ :: _ :: _ :: _ :: _ :: _, _, l4, _, _ => exact absurd l4 (by simp only [List.length_cons]; omega)
abbrev s_law_added : Stmt := top 64
theorem sc_law_added : FnScope ["_law_one", "_law_other"] ["_law_one", "_law_other"] (defScope s_law_added) := ⟨rfl, rfl, rfl, by decide +kernel, rfl, by decide +kernel, by decide +kernel⟩
/-- a pair of whole numbers that stands for a fraction, in any terms -/
structure Qt (m : Nat) (H : Hp) (v : V) (q : Rat) : Prop where
  ex : ∃ a b : Int, TupI H v a b ∧ 0 < b ∧ (a : Rat) = q * (b : Rat) ∧ a.natAbs < 2 ^ m ∧ b.natAbs < 2 ^ m
theorem Qt.tk {m : Nat} {H H' : Hp} {v : V} {q : Rat} (t : Tk H H') (h : Qt m H v q) : Qt m H' v q := let ⟨a, b, h1, h2⟩ := h.ex; ⟨a, b, h1.tk t, h2⟩
theorem Fr.qt {m : Nat} {H : Hp} {v : V} {q : Rat} (h : Fr m H v q) : Qt m H v q := by
  obtain ⟨⟨p, e1, e2⟩, nb, db⟩ := h
  have := q.den_pos
  exact ⟨q.num, q.den, ⟨p, e1, e2⟩, by omega, num_q q, nb, den_bd db⟩
theorem dv_of {t B : Int} {S : Rat} (hB : B ≠ 0) (h : (t : Rat) = S * (B : Rat)) : Rat.divInt t B = S := by
  have := mid_end (W := 1) hB (by decide) h
  rw [Int.mul_one] at this
  rw [this]
  have e : ((1 : Int) : Rat) = 1 := rfl
  rw [e]
  grind
def sp_law_added : Sp := fun vs H Q _ => ∃ (x y : V) (q r : Rat) (m n : Nat), vs = [x, y] ∧ Qt m H x q ∧ Qt n H y r ∧ m + n + 1 ≤ 8000 ∧ ∀ v H', Same H H' → Fr (m + n + 1) H' v (q + r) → Q v H'

set_option maxHeartbeats 4000000 in
theorem ok_law_added {f : Addr} {fd : FuncData} (F : Fun K "_law_added" "_law_added" s_law_added f fd) (m : mg "_law_added" = some (.ref f)) (b : Binds K fd ["_law_one", "_law_other"] []) (C_law_lowest : Cal P w K mg base 1 "_law_lowest" ["_law_top", "_law_bottom"] sp_law_lowest) : Cal P w K mg base 2 "_law_added" ["_law_one", "_law_other"] sp_law_added := by
  refine cal_ofW F sc_law_added m b (fun vs H Q E h => ?_) (fun cdv A outer s H vs Q E hr h => ?_)
  · obtain ⟨x, y, q, r, m, n, rfl, _⟩ := h
    rfl
  · obtain ⟨x, y, q, r, m, n, rfl, hx, hy, hm, k⟩ := h
    refine ⟨_, (wss_one ⟨(ps_ret (pe_callC C_law_lowest hr (by decide) (by rfl) (pa_cons (pe_op op_addA (pe_op op_mulB (pe_ix ix_seq (pv 0) pe_int (fun _ _ => rfl)) (pe_ix ix_seq (pv 1) pe_int (fun _ _ => rfl))) (pe_op op_mulB (pe_ix ix_seq (pv 1) pe_int (fun _ _ => rfl)) (pe_ix ix_seq (pv 0) pe_int (fun _ _ => rfl)))) (pa_cons (pe_op op_mulB (pe_ix ix_seq (pv 0) pe_int (fun _ _ => rfl)) (pe_ix ix_seq (pv 1) pe_int (fun _ _ => rfl))) pa_nil se_BinOp) se_BinOp) (by decide) se_BinOp (se_any rfl)))⟩), ?_⟩
    have e : start ["_law_one", "_law_other"] [x, y] = [some x, some y] := rfl
    rw [e]
    obtain ⟨a, b, t1, b0, e1, a1, b1⟩ := hx.ex
    obtain ⟨c, d, t2, d0, e2, c1, d1⟩ := hy.ex
    walk_at "go"
    refine ⟨mulOk a1 d1 (by omega), ?_⟩
    walk_at "go"
    refine ⟨mulOk c1 b1 (by omega), ?_⟩
    walk_at "go"
    refine ⟨mulOk b1 d1 (by omega), ?_⟩
    have hB : b * d ≠ 0 := by have := Int.mul_pos b0 d0; omega
    refine u_law_lowest (m + n + 1) hB (add_bd a1 d1 c1 b1) (bdle (mul_bd b1 d1) (by omega)) hm (fun v H' s f => ?_)
    rw [dv_of hB (S := q + r) (by rw [Rat.intCast_add, Rat.intCast_mul, Rat.intCast_mul, Rat.intCast_mul, e1, e2]; grind)] at f
    exact k v H' s f
theorem u_law_added {x y : V} {q r : Rat} {m n : Nat} {H : Hp} {Q : VK} {E : XK} (hx : Qt m H x q) (hy : Qt n H y r) (hm : m + n + 1 ≤ 8000) (k : ∀ v H', Same H H' → Fr (m + n + 1) H' v (q + r) → Q v H') : sp_law_added [x, y] H Q E := ⟨x, y, q, r, m, n, rfl, hx, hy, hm, k⟩
abbrev s_law_over : Stmt := top 66
theorem sc_law_over : FnScope ["_law_one", "_law_other"] ["_law_one", "_law_other"] (defScope s_law_over) := ⟨rfl, rfl, rfl, by decide +kernel, rfl, by decide +kernel, by decide +kernel⟩
def sp_law_over : Sp := fun vs H Q _ => ∃ (x y : V) (q r : Rat) (m n : Nat), vs = [x, y] ∧ Qt m H x q ∧ Qt n H y r ∧ r ≠ 0 ∧ m + n ≤ 8000 ∧ ∀ v H', Same H H' → Fr (m + n) H' v (q / r) → Q v H'

set_option maxHeartbeats 4000000 in
theorem ok_law_over {f : Addr} {fd : FuncData} (F : Fun K "_law_over" "_law_over" s_law_over f fd) (m : mg "_law_over" = some (.ref f)) (b : Binds K fd ["_law_one", "_law_other"] []) (C_law_lowest : Cal P w K mg base 1 "_law_lowest" ["_law_top", "_law_bottom"] sp_law_lowest) : Cal P w K mg base 2 "_law_over" ["_law_one", "_law_other"] sp_law_over := by
  refine cal_ofW F sc_law_over m b (fun vs H Q E h => ?_) (fun cdv A outer s H vs Q E hr h => ?_)
  · obtain ⟨x, y, q, r, m, n, rfl, _⟩ := h
    rfl
  · obtain ⟨x, y, q, r, m, n, rfl, hx, hy, hr0, hm, k⟩ := h
    refine ⟨_, (wss_one ⟨(ps_ret (pe_callC C_law_lowest hr (by decide) (by rfl) (pa_cons (pe_op op_mulB (pe_ix ix_seq (pv 0) pe_int (fun _ _ => rfl)) (pe_ix ix_seq (pv 1) pe_int (fun _ _ => rfl))) (pa_cons (pe_op op_mulB (pe_ix ix_seq (pv 0) pe_int (fun _ _ => rfl)) (pe_ix ix_seq (pv 1) pe_int (fun _ _ => rfl))) pa_nil se_BinOp) se_BinOp) (by decide) se_BinOp (se_any rfl)))⟩), ?_⟩
    have e : start ["_law_one", "_law_other"] [x, y] = [some x, some y] := rfl
    rw [e]
    obtain ⟨a, b, t1, b0, e1, a1, b1⟩ := hx.ex
    obtain ⟨c, d, t2, d0, e2, c1, d1⟩ := hy.ex
    walk_at "go"
    refine ⟨mulOk a1 d1 (by omega), ?_⟩
    walk_at "go"
    refine ⟨mulOk b1 c1 (by omega), ?_⟩
    have hc : c ≠ 0 := fun z => by
      rw [z] at e2
      have e3 : ((0 : Int) : Rat) = 0 := rfl
      rw [e3] at e2
      have hd : (d : Rat) ≠ 0 := fun z2 => by have : d = 0 := by exact_mod_cast z2
                                              omega
      rcases Rat.mul_eq_zero.mp e2.symm with z2 | z2
      · exact hr0 z2
      · exact hd z2
    have hB : b * c ≠ 0 := Int.mul_ne_zero (by omega) hc
    refine u_law_lowest (m + n) hB (mul_bd a1 d1) (mul_bd b1 c1) hm (fun v H' s f => ?_)
    rw [dv_of hB (S := q / r) (by
      rw [Rat.intCast_mul, Rat.intCast_mul, e1, e2, Rat.div_def]
      have := Rat.mul_inv_cancel _ hr0
      grind)] at f
    exact k v H' s f
theorem u_law_over {x y : V} {q r : Rat} {m n : Nat} {H : Hp} {Q : VK} {E : XK} (hx : Qt m H x q) (hy : Qt n H y r) (hr0 : r ≠ 0) (hm : m + n ≤ 8000) (k : ∀ v H', Same H H' → Fr (m + n) H' v (q / r) → Q v H') : sp_law_over [x, y] H Q E := ⟨x, y, q, r, m, n, rfl, hx, hy, hr0, hm, k⟩
abbrev s_law_whole_of : Stmt := top 65
theorem sc_law_whole_of : FnScope ["_law_corners", "_law_total", "_law_k"] ["_law_corners"] (defScope s_law_whole_of) := ⟨rfl, rfl, rfl, by decide +kernel, rfl, by decide +kernel, by decide +kernel⟩
def sQ (qs : List Rat) : Rat := qs.foldr (· + ·) 0
theorem sQ_snoc {qs : List Rat} {q : Rat} : sQ (qs ++ [q]) = sQ qs + q := by
  induction qs with
  | nil => show q + 0 = 0 + q; grind
  | cons a qs ih => show a + sQ (qs ++ [q]) = a + sQ qs + q; rw [ih]; grind
def sp_law_whole_of : Sp := fun vs H Q _ => ∃ (p : Addr) (ps : List (Rat × Rat)) (m : Nat), vs = [.ref p] ∧ Tps m H p ps ∧ m ≤ 150 ∧ 3 ≤ ps.length ∧ ps.length ≤ 6 ∧ ∀ v H', Same H H' → Fr (4 * (8 * m + 11) + 1) H' v (sQ ((fanP ps).map twP)) → Q v H'

set_option maxHeartbeats 4000000 in
theorem ok_law_whole_of {f : Addr} {fd : FuncData} (F : Fun K "_law_whole_of" "_law_whole_of" s_law_whole_of f fd) (m : mg "_law_whole_of" = some (.ref f)) (b : Binds K fd ["_law_corners"] []) (z_range : mg "range" = none) (z_len : mg "len" = none) (C_law_added : Cal P w K mg base 2 "_law_added" ["_law_one", "_law_other"] sp_law_added) (C_law_twice : Cal P w K mg base 2 "_law_twice" ["_law_one", "_law_other", "_law_third"] sp_law_twice) : Cal P w K mg base 3 "_law_whole_of" ["_law_corners"] sp_law_whole_of := by
  refine cal_ofW F sc_law_whole_of m b (fun vs H Q E h => ?_) (fun cdv A outer s H vs Q E hr h => ?_)
  · obtain ⟨p, ps, m, rfl, _⟩ := h
    rfl
  · obtain ⟨p, ps, m, rfl, hp, hm, h3, h6, k⟩ := h
    refine ⟨_, (wss_cons ⟨(ps_set (i := 1) sc_law_whole_of.nd rfl (by first | exact Or.inl rfl | exact Or.inr rfl) pe_ci2)⟩
        (wss_cons (ws_for PassesOwn.never rfl ⟨(pi_range2 (by rfl) z_range (pa_cons pe_int (pa_cons (pe_op op_sub (pe_callB call_lenA (by rfl) z_len bt_len (pa_cons (pv 0) pa_nil se_Name)) pe_int) pa_nil se_BinOp) se_Constant))⟩ (pg_name (i := 2) sc_law_whole_of.nd rfl (by first | exact Or.inl rfl | exact Or.inr rfl)) (wss_one ⟨(ps_set (i := 1) sc_law_whole_of.nd rfl (by first | exact Or.inl rfl | exact Or.inr rfl) (pe_callC C_law_added hr (by decide) (by rfl) (pa_cons (pv 1) (pa_cons (pe_callC C_law_twice hr (by decide) (by rfl) (pa_cons (pe_ix ix_seq (pv 0) pe_int (fun _ _ => rfl)) (pa_cons (pe_ix ix_seq (pv 0) (pv 2) (fun _ _ => rfl)) (pa_cons (pe_ix ix_seq (pv 0) (pe_op op_addA (pv 2) pe_int) (fun _ _ => rfl)) pa_nil se_Subscript) se_Subscript) se_Subscript) (by decide) se_Subscript (se_any rfl)) pa_nil se_Call) se_Name) (by decide) se_Name (se_any rfl)))⟩))
        (wss_one ⟨(ps_ret (pv 1))⟩))), ?_⟩
    have e : start ["_law_corners", "_law_total", "_law_k"] [V.ref p] = [some (V.ref p), none, none] := rfl
    rw [e]
    try walk_at "vc"
    obtain ⟨xs, ex, hxs⟩ := hp.ex
    have hxl := hxs.1
    refine newT (Nat.le_of_ble_eq_true rfl) (fun t0 H1 s1 nt e1 => ?_)
    refine len_t (s1 _ _ ex) ?_
    try walk_at "vc"
    have en : ((xs.length : Int) - 1 - 1).toNat = ps.length - 2 := by omega
    refine ⟨by omega, by omega, by omega, by omega, ?_⟩
    rw [en]
    have f0 : Fr 1 H1 (.ref t0) 0 := ⟨⟨t0, rfl, e1⟩, by decide, by decide⟩
    have hfl : ((fanP ps).map twP).length = ps.length - 2 := by unfold fanP; rw [List.length_map, List.length_map, List.length_range]
    refine forR (fun i σ J => ∃ (v : V) (o : Option V), σ = [some (V.ref p), some v, o] ∧ Same H J ∧ Fr (i * (8 * m + 11) + 1) J v (sQ (((fanP ps).map twP).take i))) ⟨_, _, rfl, s1, by rw [List.take_zero, Nat.zero_mul]; exact f0⟩ ?_ ?_
    · rintro i σ J hi ⟨v, o, rfl, sJ, fv⟩
      have hpJ := hp.tk sJ.tk
      try walk_at "vc"
      refine hpJ.ix (k := 0) rfl (by omega) (fun v0 f0 => ?_)
      refine hpJ.ix (k := i + 1) (by omega) (by omega) (fun v1 f1 => ?_)
      try walk_at "vc"
      refine hpJ.ix (k := i + 2) (by omega) (by omega) (fun v2 f2 => ?_)
      refine u_law_twice f0 f1 f2 (by omega) (fun tv TT BB J2 s2 ti b0 eT bT bB => ?_)
      have hib : i * (8 * m + 11) ≤ 4 * (8 * m + 11) := Nat.mul_le_mul_right _ (by omega)
      refine u_law_added (Fr.qt (fv.mono s2)) (n := 8 * m + 10) ⟨TT, BB, ti, b0, eT, bT, bB⟩ (by omega) (fun v3 J3 s3 f3 => ?_)
      refine ⟨sJ.trans (s2.trans s3), ?_⟩
      rw [List.take_succ]
      have eg : ((fanP ps).map twP)[i]? = some (tw (gp ps 0) (gp ps (i + 1)) (gp ps (i + 2))) := by
        unfold fanP
        rw [List.getElem?_map, List.getElem?_map, List.getElem?_range (by omega)]
        rfl
      rw [eg, Option.toList_some, sQ_snoc]
      have en2 : (i + 1) * (8 * m + 11) = i * (8 * m + 11) + (8 * m + 11) := by rw [Nat.add_mul, Nat.one_mul]
      exact f3.le (by omega)
    rintro σ J ⟨v, o, rfl, sJ, fv⟩
    try walk_at "vc"
    rw [List.take_of_length_le (by omega)] at fv
    have hib : (ps.length - 2) * (8 * m + 11) ≤ 4 * (8 * m + 11) := Nat.mul_le_mul_right _ (by omega)
    exact k v J sJ (fv.le (by omega))
theorem u_law_whole_of {p : Addr} {ps : List (Rat × Rat)} {m : Nat} {H : Hp} {Q : VK} {E : XK} (hp : Tps m H p ps) (hm : m ≤ 150) (h3 : 3 ≤ ps.length) (h6 : ps.length ≤ 6) (k : ∀ v H', Same H H' → Fr (4 * (8 * m + 11) + 1) H' v (sQ ((fanP ps).map twP)) → Q v H') : sp_law_whole_of [.ref p] H Q E := ⟨p, ps, m, rfl, hp, hm, h3, h6, k⟩
abbrev s_law_gcd : Stmt := top 67
theorem sc_law_gcd : FnScope ["_law_one", "_law_other"] ["_law_one", "_law_other"] (defScope s_law_gcd) := ⟨rfl, rfl, rfl, by decide +kernel, rfl, by decide +kernel, by decide +kernel⟩
theorem gt_mono2 {i : Nat} {c : Int} (σ : L2.St) (H : Hp) (Q Q' : Bool → Hp → Prop) (h : ∀ b H1, Q b H1 → Q' b H1) (t : tTest (tOp (rI0 fun i j => V.bl (decide (j < i))) (tVar i) (tC (V.int c))) σ H Q) : tTest (tOp (rI0 fun i j => V.bl (decide (j < i))) (tVar i) (tC (V.int c))) σ H Q' := by
  obtain ⟨v, e, a, b, e1, e2, k, e3, q⟩ := t
  exact ⟨v, e, a, b, e1, e2, k, e3, h _ _ q⟩
def sp_law_gcd : Sp := fun vs H Q _ => ∃ a b : Int, vs = [.int a, .int b] ∧ 0 ≤ a ∧ 0 ≤ b ∧ Q (.int (a.natAbs.gcd b.natAbs : Nat)) H

set_option maxHeartbeats 4000000 in
theorem ok_law_gcd {f : Addr} {fd : FuncData} (F : Fun K "_law_gcd" "_law_gcd" s_law_gcd f fd) (m : mg "_law_gcd" = some (.ref f)) (b : Binds K fd ["_law_one", "_law_other"] []) : Cal P w K mg base 1 "_law_gcd" ["_law_one", "_law_other"] sp_law_gcd := by
  refine cal_ofW F sc_law_gcd m b (fun vs H Q E h => ?_) (fun cdv A outer s H vs Q E hr h => ?_)
  · obtain ⟨a, b, rfl, _⟩ := h
    rfl
  · obtain ⟨a, b, rfl, a0, b0, k⟩ := h
    refine ⟨_, (wss_cons (ws_while PassesOwn.never (pt_cmpR op_gt (pv 1) pe_int (nomark _)) (wss_one ⟨(ps_par (i := 0) (j := 1) (by rfl) sc_law_gcd.nd rfl rfl (by decide) rfl rfl (pa_cons (pv 1) (pa_cons (pe_op op_modN (pv 0) (pv 1)) pa_nil se_BinOp) se_Name) (by rfl))⟩))
        (wss_one ⟨(ps_ret (pv 0))⟩)), ?_⟩
    have e : start ["_law_one", "_law_other"] [V.int a, V.int b] = [some (V.int a), some (V.int b)] := rfl
    rw [e]
    try walk_at "vc"
    refine while_by (fun σ H1 => ∃ r y : Int, σ = [some (V.int r), some (V.int y)] ∧ H1 = H ∧ 0 ≤ r ∧ 0 ≤ y ∧ r.natAbs.gcd y.natAbs = a.natAbs.gcd b.natAbs)
      (fun σ _ => match σ[1]? with | some (some (V.int y)) => y.toNat | _ => 0) ⟨_, _, rfl, rfl, a0, b0, rfl⟩ ?_ ?_
    · rintro σ H1 ⟨r, y, rfl, rfl, h1, h2, h3⟩
      walk_at "vc"
      refine ite_d (fun c => ?_) (fun c => ?_)
      · refine ⟨by omega, h2, ?_, ?_, ?_⟩
        · exact Int.fmod_nonneg_of_pos _ c
        · rw [← h3]; exact gcd_turn h1 c
        · show (r.fmod y).toNat < y.toNat
          have := Int.fmod_lt_of_pos r c
          omega
      · have e : y = 0 := by omega
        subst e
        have e2 : (r.natAbs : Int) = r := by omega
        rw [Int.natAbs_zero, Nat.gcd_zero_right] at h3
        rw [← h3, e2] at k
        exact k
    · exact gt_mono2
theorem u_law_gcd {a b : Int} {H : Hp} {Q : VK} {E : XK} (a0 : 0 ≤ a) (b0 : 0 ≤ b) (k : Q (.int (a.natAbs.gcd b.natAbs : Nat)) H) : sp_law_gcd [.int a, .int b] H Q E := ⟨a, b, rfl, a0, b0, k⟩
abbrev s_law_shares : Stmt := top 68
theorem sc_law_shares : FnScope ["_law_field_here", "_law_c", "_law_at", "_law_parts", "_law_k", "_law_top", "_law_bottom", "_law_under", "_law_part", "_law_tops", "_law_by"] ["_law_field_here", "_law_c"] (defScope s_law_shares) := ⟨rfl, rfl, rfl, by decide +kernel, rfl, by decide +kernel, by decide +kernel⟩
def sp_law_shares : Sp := fun vs H Q _ => ∃ (p : Addr) (ps : List (Rat × Rat)) (c m : Nat), vs = [.ref p, .int c] ∧ Tps m H p ps ∧ m ≤ 120 ∧ fdP ps = true ∧ c < ps.length ∧ ∀ q H', Same H H' → H q = none → H' q = some (.lst ((shF ps c).map V.int)) → (∀ s ∈ shF ps c, s.natAbs < 2 ^ 6971) → Q (.ref q) H'

set_option maxHeartbeats 4000000 in
theorem ok_law_shares {f : Addr} {fd : FuncData} (F : Fun K "_law_shares" "_law_shares" s_law_shares f fd) (m : mg "_law_shares" = some (.ref f)) (b : Binds K fd ["_law_field_here", "_law_c"] []) (z_range : mg "range" = none) (z_len : mg "len" = none) (C_law_twice : Cal P w K mg base 2 "_law_twice" ["_law_one", "_law_other", "_law_third"] sp_law_twice) (C_law_gcd : Cal P w K mg base 1 "_law_gcd" ["_law_one", "_law_other"] sp_law_gcd) (C_law_lowest : Cal P w K mg base 1 "_law_lowest" ["_law_top", "_law_bottom"] sp_law_lowest) : Cal P w K mg base 3 "_law_shares" ["_law_field_here", "_law_c"] sp_law_shares := by
  refine cal_ofW F sc_law_shares m b (fun vs H Q E h => ?_) (fun cdv A outer s H vs Q E hr h => ?_)
  · obtain ⟨p, ps, c, m, rfl, _⟩ := h
    rfl
  · obtain ⟨p, ps, c, m, rfl, hp, hm, hF, hc, k⟩ := h
    refine ⟨_, (wss_cons ⟨(ps_set (i := 2) sc_law_shares.nd rfl (by first | exact Or.inl rfl | exact Or.inr rfl) (pe_op op_catA (pe_slice sl_tupA (pv 0) (po_some (pv 1)) po_none) (pe_slice sl_tupA (pv 0) po_none (po_some (pv 1)))))⟩
        (wss_cons ⟨(ps_set (i := 3) sc_law_shares.nd rfl (by first | exact Or.inl rfl | exact Or.inr rfl) (pe_lst pa_nil))⟩
        (wss_cons (ws_for PassesOwn.never rfl ⟨(pi_range2 (by rfl) z_range (pa_cons pe_int (pa_cons (pe_op op_sub (pe_callB call_lenA (by rfl) z_len bt_len (pa_cons (pv 2) pa_nil se_Name)) pe_int) pa_nil se_BinOp) se_Constant))⟩ (pg_name (i := 4) sc_law_shares.nd rfl (by first | exact Or.inl rfl | exact Or.inr rfl)) (wss_cons ⟨(ps_asg (pe_callC C_law_twice hr (by decide) (by rfl) (pa_cons (pe_ix ix_seq (pv 2) pe_int (fun _ _ => rfl)) (pa_cons (pe_ix ix_seq (pv 2) (pv 4) (fun _ _ => rfl)) (pa_cons (pe_ix ix_seq (pv 2) (pe_op op_addA (pv 4) pe_int) (fun _ _ => rfl)) pa_nil se_Subscript) se_Subscript) se_Subscript) (by decide) se_Subscript (se_any rfl)) (pg_seq (n := 2) (by rfl) (pgs_cons (pg_name (i := 5) sc_law_shares.nd rfl (by first | exact Or.inl rfl | exact Or.inr rfl)) (pgs_cons (pg_name (i := 6) sc_law_shares.nd rfl (by first | exact Or.inl rfl | exact Or.inr rfl)) pgs_nil))))⟩
        (wss_one ⟨(ps_expr (pe_bm PySem.F.plainAttrs_list PySem.F.slot_list_append PySem.F.type_list_append mt_append (pv 3) (pa_cons (pe_callC C_law_lowest hr (by decide) (by rfl) (pa_cons (pv 5) (pa_cons (pv 6) pa_nil se_Name) se_Name) (by decide) se_Name (se_any rfl)) pa_nil se_Call)))⟩)))
        (wss_cons ⟨(ps_set (i := 7) sc_law_shares.nd rfl (by first | exact Or.inl rfl | exact Or.inr rfl) pe_int)⟩
        (wss_cons (ws_for PassesOwn.never rfl ⟨(pi_list (pv 3))⟩ (pg_name (i := 8) sc_law_shares.nd rfl (by first | exact Or.inl rfl | exact Or.inr rfl)) (wss_one ⟨(ps_set (i := 7) sc_law_shares.nd rfl (by first | exact Or.inl rfl | exact Or.inr rfl) (pe_op op_mulB (pv 7) (pe_op op_fdivB (pe_ix ix_seq (pv 8) pe_int (fun _ _ => rfl)) (pe_callC C_law_gcd hr (by decide) (by rfl) (pa_cons (pv 7) (pa_cons (pe_ix ix_seq (pv 8) pe_int (fun _ _ => rfl)) pa_nil se_Subscript) se_Name) (by decide) se_Name (se_any rfl)))))⟩))
        (wss_cons ⟨(ps_setLc (i := 9) (own := [("_law_part", 8)]) (g := (gName 8)) (by rfl) sc_law_shares.nd rfl rfl (sw_true rfl rfl rfl (by decide +kernel)) (pi_list (pv 3)) (blkOk_by (own := [("_law_part", 8)]) (N := ["_law_field_here", "_law_c", "_law_at", "_law_parts", "_law_k", "_law_top", "_law_bottom", "_law_under", "_law_part", "_law_tops", "_law_by"]) (sc := defScope s_law_shares) (by decide +kernel)) (fun _ _ _ _ _ => pg_name (i := 8) sc_law_shares.nd rfl (by first | exact Or.inl rfl | exact Or.inr rfl)) (fun _ _ _ _ _ => pts_nil) (fun _ _ _ _ _ => (pe_op op_mulB (pe_ix (ix_seqK rfl) (pv 8) pe_int (fun _ _ => rfl)) (pe_op op_fdivB (pv 7) (pe_ix (ix_seqK rfl) (pv 8) pe_int (fun _ _ => rfl))))))⟩
        (wss_cons ⟨(ps_set (i := 10) sc_law_shares.nd rfl (by first | exact Or.inl rfl | exact Or.inr rfl) pe_int)⟩
        (wss_cons (ws_for PassesOwn.never rfl ⟨(pi_list (pv 9))⟩ (pg_name (i := 5) sc_law_shares.nd rfl (by first | exact Or.inl rfl | exact Or.inr rfl)) (wss_one ⟨(ps_set (i := 10) sc_law_shares.nd rfl (by first | exact Or.inl rfl | exact Or.inr rfl) (pe_callC C_law_gcd hr (by decide) (by rfl) (pa_cons (pv 5) (pa_cons (pv 10) pa_nil se_Name) se_Name) (by decide) se_Name (se_any rfl)))⟩))
        (wss_one ⟨(ps_ret (pe_lc (own := [("_law_top", 5)]) (g := gName 5) (by rfl) sc_law_shares.nd (pi_list (pv 9)) (blkOk_by (own := [("_law_top", 5)]) (N := ["_law_field_here", "_law_c", "_law_at", "_law_parts", "_law_k", "_law_top", "_law_bottom", "_law_under", "_law_part", "_law_tops", "_law_by"]) (sc := defScope s_law_shares) (by decide +kernel)) (fun _ _ _ _ _ => pg_name (i := 5) sc_law_shares.nd rfl (by first | exact Or.inl rfl | exact Or.inr rfl)) (fun _ _ _ _ _ => pts_nil) (fun _ _ _ _ _ => (pe_op op_fdivB (pv 5) (pv 10)))))⟩))))))))), ?_⟩
    have e : start ["_law_field_here", "_law_c", "_law_at", "_law_parts", "_law_k", "_law_top", "_law_bottom", "_law_under", "_law_part", "_law_tops", "_law_by"] [V.ref p, V.int c] = [some (V.ref p), some (V.int c), none, none, none, none, none, none, none, none, none] := rfl
    rw [e]
    obtain ⟨h3, h6, _⟩ := fdP_parts hF
    have hpos := fan_pos hF hc
    have hl := rotP_len (ps := ps) (c := c) (by omega)
    try walk_at "vc"
    refine Tps.rot hp (by omega) (by omega) (fun q H2 s2 nq hq => ?_)
    try walk_at "vc"
    obtain ⟨ys, ey, hys⟩ := hq.ex
    have hyl := hys.1
    have hfl : (fanP (rotP ps c)).length = ps.length - 2 := by unfold fanP; rw [List.length_map, List.length_range, hl]
    have tl0 : ((fanP (rotP ps c)).map twP).length = ps.length - 2 := by rw [List.length_map, hfl]
    refine newL (Nat.le_of_ble_eq_true rfl) (fun pl H3 s3 npl el => ?_)
    have nql : q ≠ pl := ne_of_none ey npl
    refine len_t (s3 _ _ ey) ?_
    try walk_at "vc"
    have en : ((ys.length : Int) - 1 - 1).toNat = ps.length - 2 := by omega
    refine ⟨by omega, by omega, by omega, by omega, ?_⟩
    rw [en]
    refine forR (fun i σ J => ∃ o4 o5 o6 : Option V, σ = [some (V.ref p), some (V.int c), some (V.ref q), some (V.ref pl), o4, o5, o6, none, none, none, none] ∧ Kp pl H3 J ∧ Tk H3 J ∧ ∃ vs, J pl = some (.lst vs) ∧ FrQ (8 * m + 10) J vs (((fanP (rotP ps c)).map twP).take i)) ⟨_, _, _, rfl, Kp.refl _, Tk.refl _, [], el, by rw [List.take_zero]; exact FrQ.nil⟩ ?_ ?_
    · rintro i σ J hi ⟨o4, o5, o6, rfl, kJ, tJ, vs, eJ, hv⟩
      have hqJ := hq.tk (s3.tk.trans tJ)
      try walk_at "vc"
      refine hqJ.ix (k := 0) rfl (by omega) (fun v0 f0 => ?_)
      refine hqJ.ix (k := i + 1) (by omega) (by omega) (fun v1 f1 => ?_)
      try walk_at "vc"
      refine hqJ.ix (k := i + 2) (by omega) (by omega) (fun v2 f2 => ?_)
      refine u_law_twice f0 f1 f2 (by omega) (fun tv TT BB J2 s4 ti b0 eT bT bB => ?_)
      refine seq_ti ti ?_
      try walk_at "vc"
      have e4 := s4 _ _ eJ
      refine ⟨.inl ⟨rfl, _, SqL.of e4⟩, ?_⟩
      try walk_at "vc"
      refine u_law_lowest (8 * m + 10) (by omega) bT bB (by omega) (fun v J5 s5 f5 => ?_)
      rw [dv_of (by omega) eT] at f5
      have e5 := s5 _ _ e4
      have tu := tk_upd (o := .lst (vs ++ [v])) e5
      have hvl := hv.len
      rw [List.length_take] at hvl
      refine ⟨pl, vs, v, rfl, rfl, e5, small1000 (by omega), (kJ.trans (s4.trans s5).kp).trans kp_upd, tJ.trans ((s4.trans s5).tk.trans tu), _, upd_same, ?_⟩
      rw [List.take_succ]
      have eg : ((fanP (rotP ps c)).map twP)[i]? = some (tw (gp (rotP ps c) 0) (gp (rotP ps c) (i + 1)) (gp (rotP ps c) (i + 2))) := by
        unfold fanP
        rw [List.getElem?_map, List.getElem?_map, List.getElem?_range (by omega)]
        rfl
      rw [eg]
      exact (hv.tk ((s4.trans s5).tk.trans tu)).snoc (f5.tk tu)
    rintro σ J ⟨o4, o5, o6, rfl, kJ, tJ, vs, eJ, hv⟩
    rw [List.take_of_length_le (by omega)] at hv
    have SJ : Same H J := s2.trans (same_of_kp (kp_of_new kJ npl s3) npl)
    clear kJ tJ
    have hps : ∀ q ∈ (fanP (rotP ps c)).map twP, 0 < q := fun q hq => by
      obtain ⟨qs, hq', rfl⟩ := List.mem_map.mp hq
      exact (hpos qs hq').2
    have k : ∀ q H', Same H H' → H q = none → H' q = some (.lst ((shL ((fanP (rotP ps c)).map twP)).map V.int)) → (∀ s ∈ shL ((fanP (rotP ps c)).map twP), s.natAbs < 2 ^ 6971) → Q (.ref q) H' := k
    generalize (fanP (rotP ps c)).map twP = qs at *
    have hvl := hv.len
    have hm2 : (8 * m + 10) * qs.length ≤ 6000 := by
      have : (8 * m + 10) * qs.length ≤ (8 * m + 10) * 4 := Nat.mul_le_mul_left _ (by omega)
      omega
    try walk_at "vc"
    refine forL (xs := vs) (fun i σ J2 => ∃ o : Option V, σ = [some (V.ref p), some (V.int c), some (V.ref q), some (V.ref pl), o4, o5, o6, some (V.int (lcmL ((qs.take i).map (·.den)) : Nat)), o, none, none] ∧ J2 = J) ⟨_, rfl, rfl⟩ (fun i σ J2 _ ⟨_, _, h2⟩ => h2 ▸ SqL.of eJ) ?_ ?_
    · rintro i x σ J2 hi ⟨o, rfl, rfl⟩
      obtain ⟨r, er, hr'⟩ := hv.at_ i x hi
      try walk_at "vc"
      refine ix_fr1 hr' ?_
      refine ix_fr1 hr' ?_
      have c0 := lcm_take_pos (qs := qs) (i := i)
      have c1 := lcm_take_bd (i := i) hv hm2
      refine u_law_gcd (by omega) (by omega) ?_
      try walk_at "vc"
      rw [take_fold er]
      generalize lcmL ((qs.take i).map (·.den)) = cm at *
      rw [Int.natAbs_natCast, Int.natAbs_natCast]
      have g0 := Nat.gcd_pos_of_pos_left r.den c0
      have g1 : cm.gcd r.den < 2 ^ 6001 := Nat.lt_of_le_of_lt (Nat.gcd_le_left r.den c0) c1
      refine ⟨⟨by omega, by rw [Int.natAbs_natCast]; exact big_le g1 (by decide)⟩, ?_⟩
      refine ⟨mulOk (m := 6001) (by rw [Int.natAbs_natCast]; exact c1) (Nat.lt_of_le_of_lt (Int.natAbs_fdiv_le_natAbs _ _) (den_bd hr'.db)) (by omega), ?_⟩
      rw [lcm_fdiv' c0 r.den_pos]
    rintro σ J2 ⟨o, rfl, rfl⟩
    rw [hvl, List.take_length]
    try walk_at "vc"
    have c0 : 0 < lcmL (qs.map (·.den)) := by
      have := lcm_take_pos (qs := qs) (i := qs.length)
      rwa [List.take_length] at this
    have c1 : lcmL (qs.map (·.den)) < 2 ^ 6001 := by
      have := lcm_take_bd (i := qs.length) hv hm2
      rwa [List.take_length] at this
    have htop6 : ∀ t ∈ topsL qs, t.natAbs < 2 ^ 6971 := fun t ht => by
      obtain ⟨q, hq, rfl⟩ := List.mem_map.mp ht
      refine bdle (mul_bd (m := 8 * m + 10) (n := 6001) (hv.mem hq).1 ?_) (by omega)
      rw [Int.natAbs_natCast]
      exact Nat.lt_of_le_of_lt (Nat.div_le_self _ _) c1
    have htop : ∀ t ∈ topsL qs, 0 < t ∧ t.natAbs < 2 ^ 8000 := fun t ht => ⟨tops_pos hps ht, big_le (htop6 t ht) (by decide)⟩
    have tl : (topsL qs).length = qs.length := by unfold topsL; rw [List.length_map]
    refine ⟨⟨_, SqL.of eJ⟩, fun D2 hD2 => ?_⟩
    have nD2 : pl ≠ D2 := ne_of_none eJ hD2
    refine lcL (xs := vs) (fun i J3 => Kp D2 J2 J3 ∧ Tk J2 J3 ∧ J3 D2 = some (.lst (((topsL qs).take i).map V.int))) ⟨kp_upd, (same_upd hD2).tk, by rw [List.take_zero]; exact upd_same⟩ (fun i J3 _ ⟨k3, _⟩ => SqL.of (k3 _ _ eJ nD2)) ?_ ?_
    · rintro i x J3 hi ⟨k3, t3, e3⟩
      obtain ⟨r, er, fr⟩ := hv.at_ i x hi
      have fr3 := fr.tk t3
      try walk_at "vc"
      refine ix_fr0 fr3 ?_
      refine ix_fr1 fr3 ?_
      try walk_at "vc"
      have dp := r.den_pos
      have ed : Int.fdiv ((lcmL (qs.map (·.den)) : Nat) : Int) ((r.den : Nat) : Int) = ((lcmL (qs.map (·.den)) / r.den : Nat) : Int) := by
        rw [Int.fdiv_eq_ediv_of_nonneg _ (by omega)]; rfl
      refine ⟨⟨by omega, by rw [Int.natAbs_natCast]; exact big_le fr.db (by omega)⟩, ?_⟩
      rw [ed]
      refine ⟨mulOk (n := 6001) fr.nb (by rw [Int.natAbs_natCast]; exact Nat.lt_of_le_of_lt (Nat.div_le_self _ _) c1) (by omega), ?_⟩
      have hil : i < qs.length := by have := (List.getElem?_eq_some_iff.mp hi).1; omega
      refine ⟨_, e3, small1000 (by rw [List.length_map, List.length_take]; omega), k3.trans kp_upd, t3.trans (tk_upd e3), ?_⟩
      rw [upd_same, List.take_succ, List.map_append]
      congr 3
      have : (topsL qs)[i]? = some (r.num * ((lcmL (qs.map (·.den)) / r.den : Nat) : Int)) := by
        unfold topsL
        rw [List.getElem?_map, er]; rfl
      rw [this]
      rfl
    rintro J3 ⟨k3, t3, e3⟩
    rw [List.take_of_length_le (by omega)] at e3
    have S3 := SJ.trans (same_of_kp k3 hD2)
    unfold shL at k
    generalize topsL qs = ts at *
    try walk_at "vc"
    refine forL (xs := ts.map V.int) (fun i σ J4 => ∃ o5 : Option V, σ = [some (V.ref p), some (V.int c), some (V.ref q), some (V.ref pl), o4, o5, o6, some (V.int (lcmL (qs.map (·.den)) : Nat)), o, some (V.ref D2), some (V.int (gcdL (ts.take i) : Nat))] ∧ J4 = J3) ⟨_, rfl, rfl⟩ (fun i σ J4 _ ⟨_, _, h2⟩ => h2 ▸ SqL.of e3) ?_ ?_
    · rintro i x σ J4 hi ⟨o5', rfl, rfl⟩
      rw [List.getElem?_map] at hi
      cases et : ts[i]? with
      | none => rw [et] at hi; cases hi
      | some t =>
        rw [et] at hi
        cases hi
        try walk_at "vc"
        have t0 := htop t (List.mem_of_getElem? et)
        refine u_law_gcd (by omega) (by omega) ?_
        rw [Int.natAbs_natCast, gcd_take et, Nat.gcd_comm]
        exact ⟨rfl, rfl⟩
    rintro σ J4 ⟨o5', rfl, rfl⟩
    rw [List.length_map, List.take_length]
    try walk_at "vc"
    refine ⟨⟨_, SqL.of e3⟩, fun D hD => ?_⟩
    have nD : D2 ≠ D := ne_of_none e3 hD
    refine lcL (xs := ts.map V.int) (fun i J => Kp D J4 J ∧ J D = some (.lst (((ts.map fun t => t / ((gcdL ts : Nat) : Int)).take i).map V.int))) ⟨kp_upd, by rw [List.take_zero]; exact upd_same⟩ (fun i J _ ⟨kJ, _⟩ => SqL.of (kJ _ _ e3 nD)) ?_ ?_
    · rintro i x J hi ⟨kJ, eD⟩
      rw [List.getElem?_map] at hi
      cases et : ts[i]? with
      | none => rw [et] at hi; cases hi
      | some n =>
        rw [et] at hi
        cases hi
        try walk_at "vc"
        obtain ⟨n0, n1⟩ := htop n (List.mem_of_getElem? et)
        have gd := gcdL_mem (List.mem_of_getElem? et)
        have g0 : 0 < gcdL ts := Nat.pos_of_dvd_of_pos gd (by omega)
        have g1 := Nat.le_of_dvd (by omega) gd
        refine ⟨⟨by omega, by rw [Int.natAbs_natCast]; exact Nat.lt_of_le_of_lt g1 n1⟩, _, eD, small1000 (by rw [List.length_map, List.length_take, List.length_map]; omega), kJ.trans kp_upd, ?_⟩
        rw [upd_same, List.take_succ, List.getElem?_map, et, List.map_append, Int.fdiv_eq_ediv_of_nonneg _ (by omega)]
        rfl
    rintro J ⟨kJ, eD⟩
    rw [List.take_of_length_le (by rw [List.length_map, List.length_map]; exact Nat.le_refl _)] at eD
    exact k D J (S3.trans (same_of_kp kJ hD)) (none_of S3 hD) eD (fun s hs => by
      obtain ⟨t, ht, rfl⟩ := List.mem_map.mp hs
      exact Nat.lt_of_le_of_lt (Int.natAbs_ediv_le_natAbs _ _) (htop6 t ht))
theorem u_law_shares {p : Addr} {ps : List (Rat × Rat)} {c m : Nat} {H : Hp} {Q : VK} {E : XK} (hp : Tps m H p ps) (hm : m ≤ 120) (hF : fdP ps = true) (hc : c < ps.length) (k : ∀ q H', Same H H' → H q = none → H' q = some (.lst ((shF ps c).map V.int)) → (∀ s ∈ shF ps c, s.natAbs < 2 ^ 6971) → Q (.ref q) H') : sp_law_shares [.ref p, .int c] H Q E := ⟨p, ps, c, m, rfl, hp, hm, hF, hc, k⟩
abbrev s_law_spot : Stmt := top 69
theorem sc_law_spot : FnScope ["_law_one", "_law_other", "_law_k", "_law_many", "_law_found", "_law_way", "_law_a", "_law_b", "_law_c", "_law_d"] ["_law_one", "_law_other", "_law_k", "_law_many"] (defScope s_law_spot) := ⟨rfl, rfl, rfl, by decide +kernel, rfl, by decide +kernel, by decide +kernel⟩
theorem ix_cj {K : PySem.W.Frag} {H : Hp} {Q : VK} {x : V} {p : Rat × Rat} {m i : Nat} (h : Spt m H x p) (hi : i < 2) (k : ∀ v, Fr m H v (cj i p) → Q v H) : rIx K x (.int (0 + i)) H Q := by
  match i, hi with
  | 0, _ => exact ix_sp0 h k
  | 1, _ => exact ix_sp1 h k
theorem wy_q {a b : Rat} {n k : Nat} (hn : n ≠ 0) : a + Rat.divInt (k : Int) (n : Int) * (b - a) = (a * ((n : Int) - (k : Int) : Int) + b * ((k : Int) : Rat)) / ((n : Int) : Rat) := by
  rw [Rat.divInt_eq_div, Rat.intCast_sub, Rat.div_def, Rat.div_def]
  have h : ((n : Int) : Rat) ≠ 0 := fun z => hn (Int.ofNat_eq_zero.mp (by exact_mod_cast z))
  have := Rat.mul_inv_cancel _ h
  grind
def sp_law_spot : Sp := fun vs H Q _ => ∃ (x y : V) (a b : Rat × Rat) (k n m : Nat), vs = [x, y, .int k, .int n] ∧ Spt m H x a ∧ Spt m H y b ∧ m ≤ 1000 ∧ k ≤ n ∧ 1 ≤ n ∧ n ≤ 30 ∧ ∀ v H', Same H H' → Spt (2 * m + 6) H' v (wy a b n k) → Q v H'
theorem spot_q {a b : Rat} {n k : Nat} (hn : n ≠ 0) : Rat.divInt (a.num * (b.den : Int) * ((n : Int) - (k : Int)) + b.num * (a.den : Int) * (k : Int)) ((a.den : Int) * (b.den : Int) * (n : Int)) = a + Rat.divInt (k : Int) (n : Int) * (b - a) := by
  have ha := a.den_nz
  have hb := b.den_nz
  refine dv_of (Int.mul_ne_zero (Int.mul_ne_zero (by omega) (by omega)) (by omega)) ?_
  rw [wy_q hn, Rat.div_def]
  have h : ((n : Int) : Rat) ≠ 0 := fun z => hn (Int.ofNat_eq_zero.mp (by exact_mod_cast z))
  have h1 := Rat.mul_inv_cancel _ h
  have e1 := num_q a
  have e2 := num_q b
  have c1 : ((a.den : Int) : Rat) = (a.den : Rat) := rfl
  have c2 : ((b.den : Int) : Rat) = (b.den : Rat) := rfl
  simp only [Rat.intCast_add, Rat.intCast_mul, Rat.intCast_sub, e1, e2, c1, c2]
  grind

set_option maxHeartbeats 4000000 in
theorem ok_law_spot {f : Addr} {fd : FuncData} (F : Fun K "_law_spot" "_law_spot" s_law_spot f fd) (m : mg "_law_spot" = some (.ref f)) (b : Binds K fd ["_law_one", "_law_other", "_law_k", "_law_many"] []) (z_range : mg "range" = none) (C_law_lowest : Cal P w K mg base 1 "_law_lowest" ["_law_top", "_law_bottom"] sp_law_lowest) : Cal P w K mg base 2 "_law_spot" ["_law_one", "_law_other", "_law_k", "_law_many"] sp_law_spot := by
  refine cal_ofW F sc_law_spot m b (fun vs H Q E h => ?_) (fun cdv A outer s H vs Q E hr h => ?_)
  · obtain ⟨x, y, a, b, k, n, m, rfl, _⟩ := h
    rfl
  · obtain ⟨x, y, a, b, kk, n, m, rfl, hx, hy, hm, kn, n1, n30, k⟩ := h
    refine ⟨_, (wss_cons ⟨(ps_set (i := 4) sc_law_spot.nd rfl (by first | exact Or.inl rfl | exact Or.inr rfl) (pe_lst pa_nil))⟩
        (wss_cons (ws_for PassesOwn.never rfl ⟨(pi_range1 (by rfl) z_range (pa_cons pe_int pa_nil se_Constant))⟩ (pg_name (i := 5) sc_law_spot.nd rfl (by first | exact Or.inl rfl | exact Or.inr rfl)) (wss_cons ⟨(ps_asg (pe_tup (pa_cons (pe_ix ix_seq (pv 0) (pv 5) (fun _ _ => rfl)) (pa_cons (pe_ix ix_seq (pv 1) (pv 5) (fun _ _ => rfl)) pa_nil se_Subscript) se_Subscript)) (pg_seq (n := 2) (by rfl) (pgs_cons (pg_seq (n := 2) (by rfl) (pgs_cons (pg_name (i := 6) sc_law_spot.nd rfl (by first | exact Or.inl rfl | exact Or.inr rfl)) (pgs_cons (pg_name (i := 7) sc_law_spot.nd rfl (by first | exact Or.inl rfl | exact Or.inr rfl)) pgs_nil))) (pgs_cons (pg_seq (n := 2) (by rfl) (pgs_cons (pg_name (i := 8) sc_law_spot.nd rfl (by first | exact Or.inl rfl | exact Or.inr rfl)) (pgs_cons (pg_name (i := 9) sc_law_spot.nd rfl (by first | exact Or.inl rfl | exact Or.inr rfl)) pgs_nil))) pgs_nil))))⟩
        (wss_one ⟨(ps_expr (pe_bm PySem.F.plainAttrs_list PySem.F.slot_list_append PySem.F.type_list_append mt_append (pv 4) (pa_cons (pe_callC C_law_lowest hr (by decide) (by rfl) (pa_cons (pe_op op_addA (pe_op op_mulB (pe_op op_mulB (pv 6) (pv 9)) (pe_op op_sub (pv 3) (pv 2))) (pe_op op_mulB (pe_op op_mulB (pv 8) (pv 7)) (pv 2))) (pa_cons (pe_op op_mulB (pe_op op_mulB (pv 7) (pv 9)) (pv 3)) pa_nil se_BinOp) se_BinOp) (by decide) se_BinOp (se_any rfl)) pa_nil se_Call)))⟩)))
        (wss_one ⟨(ps_ret (pe_tup (pa_cons (pe_ix ix_seq (pv 4) pe_int (fun _ _ => rfl)) (pa_cons (pe_ix ix_seq (pv 4) pe_int (fun _ _ => rfl)) pa_nil se_Subscript) se_Subscript)))⟩))), ?_⟩
    have e : start ["_law_one", "_law_other", "_law_k", "_law_many", "_law_found", "_law_way", "_law_a", "_law_b", "_law_c", "_law_d"] [x, y, V.int kk, V.int n] = [some x, some y, some (V.int kk), some (V.int n), none, none, none, none, none, none] := rfl
    rw [e]
    try walk_at "vc"
    refine newL (Nat.le_of_ble_eq_true rfl) (fun pf H0 s0 hpf e0 => ?_)
    try walk_at "vc"
    refine ⟨by decide, by decide, ?_⟩
    refine forR (fun i σ J => ∃ o1 o2 o3 o4 o5 : Option V, σ = [some x, some y, some (V.int kk), some (V.int n), some (.ref pf), o1, o2, o3, o4, o5] ∧ Kp pf H0 J ∧ Tk H0 J ∧ ∃ fs, J pf = some (.lst fs) ∧ fs.length = i ∧ ∀ (l : Nat) z, fs[l]? = some z → Fr (2 * m + 6) J z (cj l a + Rat.divInt (kk : Int) (n : Int) * (cj l b - cj l a)))
      ⟨_, _, _, _, _, rfl, Kp.refl _, Tk.refl _, [], e0, rfl, fun l z h => by simp at h⟩ ?_ ?_
    · rintro i σ J hi ⟨o1, o2, o3, o4, o5, rfl, kJ, tJ, fs, ef, lf, hf⟩
      have hxJ := hx.tk (s0.tk.trans tJ)
      have hyJ := hy.tk (s0.tk.trans tJ)
      try walk_at "vc"
      refine ix_cj hxJ hi (fun va fa => ?_)
      refine ix_cj hyJ hi (fun vb fb => ?_)
      try walk_at "vc"
      refine newT (Nat.le_of_ble_eq_true rfl) (fun pt J2 s2 npt e2 => ?_)
      have fa2 := fa.mono s2
      have fb2 := fb.mono s2
      refine seq_t e2 rfl ?_
      try walk_at "vc"
      refine seq_fr fa2 ?_
      try walk_at "vc"
      refine seq_fr fb2 ?_
      try walk_at "vc"
      have ef2 := s2 _ _ ef
      refine ⟨.inl ⟨rfl, _, SqL.of ef2⟩, ?_⟩
      try walk_at "vc"
      have da := den_bd fa2.db
      have db := den_bd fb2.db
      have hk : ((n : Int) - (kk : Int)).natAbs < 2 ^ 5 := by show _ < 32; omega
      have hkk : ((kk : Int)).natAbs < 2 ^ 5 := by show _ < 32; omega
      have hn5 : ((n : Int)).natAbs < 2 ^ 5 := by show _ < 32; omega
      have p1 := mul_bd fa2.nb db
      have p2 := mul_bd p1 hk
      have q1 := mul_bd fb2.nb da
      have q2 := mul_bd q1 hkk
      have r1 := mul_bd da db
      refine ⟨mulOk fa2.nb db (by omega), mulOk p1 hk (by omega), mulOk fb2.nb da (by omega), mulOk q1 hkk (by omega), mulOk da db (by omega), mulOk r1 hn5 (by omega), ?_⟩
      have hza := (cj i a).den_nz
      have hzb := (cj i b).den_nz
      refine u_law_lowest (2 * m + 6) (Int.mul_ne_zero (Int.mul_ne_zero (by omega) (by omega)) (by omega)) (bdle (add_bd2 p2 q2) (by omega)) (bdle (mul_bd r1 hn5) (by omega)) (by omega) (fun v J3 s3 fv => ?_)
      rw [spot_q (by omega)] at fv
      have ef3 := s3 _ _ ef2
      have tu := tk_upd (o := .lst (fs ++ [v])) ef3
      have t23 := s2.tk.trans s3.tk
      refine ⟨pf, fs, v, rfl, rfl, ef3, small1000 (by omega), (kJ.trans (s2.trans s3).kp).trans kp_upd, tJ.trans (t23.trans tu), _, upd_same, by rw [List.length_append, lf]; rfl, fun l y hy => ?_⟩
      by_cases hlt : l < fs.length
      · rw [List.getElem?_append_left hlt] at hy
        exact (hf l y hy).tk (t23.trans tu)
      · rw [List.getElem?_append_right (by omega)] at hy
        cases z : l - fs.length with
        | zero =>
          rw [z] at hy
          cases hy
          have : l = i := by omega
          rw [this]
          exact fv.tk tu
        | succ q => rw [z] at hy; simp at hy
    rintro σ J ⟨o1, o2, o3, o4, o5, rfl, kJ, tJ, fs, ef, lf, hf⟩
    try walk_at "vc"
    match fs, lf, ef, hf with
    | [u, v], _, ef, hf =>
      refine ix_lst0 ef ?_
      refine ix_lst1 ef ?_
      refine newS (hf 0 u rfl) (hf 1 v rfl) (fun p3 H3 s3 hp3 => ?_)
      exact k _ _ ((same_of_kp (kp_of_new kJ hpf s0) hpf).trans s3) hp3
theorem u_law_spot {x y : V} {a b : Rat × Rat} {k n m : Nat} {H : Hp} {Q : VK} {E : XK} (hx : Spt m H x a) (hy : Spt m H y b) (hm : m ≤ 1000) (kn : k ≤ n) (n1 : 1 ≤ n) (n30 : n ≤ 30) (kk : ∀ v H', Same H H' → Spt (2 * m + 6) H' v (wy a b n k) → Q v H') : sp_law_spot [x, y, .int k, .int n] H Q E := ⟨x, y, a, b, k, n, m, rfl, hx, hy, hm, kn, n1, n30, kk⟩
abbrev s_law_due : Stmt := top 71
theorem sc_law_due : FnScope ["_law_field_here", "_law_c", "_law_shares_here", "_law_times", "_law_at", "_law_found", "_law_k", "_law_share", "_law_here", "_law_j", "_law_there"] ["_law_field_here", "_law_c", "_law_shares_here", "_law_times"] (defScope s_law_due) := ⟨rfl, rfl, rfl, by decide +kernel, rfl, by decide +kernel, by decide +kernel⟩
theorem wy_0 {a b : Rat × Rat} {n : Nat} : wy a b n 0 = a := by
  unfold wy onW
  have e : Rat.divInt ((0 : Nat) : Int) (n : Int) = 0 := Rat.zero_divInt _
  rw [e]
  ext <;> simp only <;> grind
def sp_law_due : Sp := fun vs H Q _ => ∃ (p l : Addr) (ps : List (Rat × Rat)) (ss : List Int) (c m : Nat) (t : Int), vs = [.ref p, .int c, .ref l, .int t] ∧ Tps m H p ps ∧ m ≤ 120 ∧ 3 ≤ ps.length ∧ ps.length ≤ 6 ∧ c < ps.length ∧ H l = some (.lst (ss.map V.int)) ∧ ss.length = ps.length - 2 ∧ (∀ s ∈ ss, 0 < s) ∧ 0 < t ∧ ss.sum * t ≤ 30 ∧
  ∀ q xs H', Same H H' → H q = none → H' q = some (.lst xs) → Pcs (2 * m + 6) H' xs (fcut (fanP (rotP ps c)) ss t) → Q (.ref q) H'

set_option maxHeartbeats 4000000 in
theorem ok_law_due {f : Addr} {fd : FuncData} (F : Fun K "_law_due" "_law_due" s_law_due f fd) (m : mg "_law_due" = some (.ref f)) (b : Binds K fd ["_law_field_here", "_law_c", "_law_shares_here", "_law_times"] []) (z_enumerate : mg "enumerate" = none) (z_range : mg "range" = none) (C_law_spot : Cal P w K mg base 2 "_law_spot" ["_law_one", "_law_other", "_law_k", "_law_many"] sp_law_spot) : Cal P w K mg base 3 "_law_due" ["_law_field_here", "_law_c", "_law_shares_here", "_law_times"] sp_law_due := by
  refine cal_ofW F sc_law_due m b (fun vs H Q E h => ?_) (fun cdv A outer s H vs Q E hr h => ?_)
  · obtain ⟨p, l, ps, ss, c, m, t, rfl, _⟩ := h
    rfl
  · obtain ⟨p, l, ps, ss, c, m, t, rfl, hp, hm, h3, h6, hc, el, hsl, hsp, t0, hst, k⟩ := h
    refine ⟨_, (wss_cons ⟨(ps_set (i := 4) sc_law_due.nd rfl (by first | exact Or.inl rfl | exact Or.inr rfl) (pe_op op_catA (pe_slice sl_tupA (pv 0) (po_some (pv 1)) po_none) (pe_slice sl_tupA (pv 0) po_none (po_some (pv 1)))))⟩
        (wss_cons ⟨(ps_set (i := 5) sc_law_due.nd rfl (by first | exact Or.inl rfl | exact Or.inr rfl) (pe_lst pa_nil))⟩
        (wss_cons (ws_for PassesOwn.never rfl ⟨(pi_enum (by rfl) z_enumerate (pa_cons (pv 2) pa_nil se_Name))⟩ (pg_seq (n := 2) (by rfl) (pgs_cons (pg_name (i := 6) sc_law_due.nd rfl (by first | exact Or.inl rfl | exact Or.inr rfl)) (pgs_cons (pg_name (i := 7) sc_law_due.nd rfl (by first | exact Or.inl rfl | exact Or.inr rfl)) pgs_nil))) (wss_cons ⟨(ps_set (i := 8) sc_law_due.nd rfl (by first | exact Or.inl rfl | exact Or.inr rfl) (pe_ix ix_seq (pv 4) (pe_op op_addA (pv 6) pe_int) (fun _ _ => rfl)))⟩
        (wss_one (ws_for PassesOwn.never rfl ⟨(pi_range1 (by rfl) z_range (pa_cons (pe_op op_mulB (pv 7) (pv 3)) pa_nil se_BinOp))⟩ (pg_name (i := 9) sc_law_due.nd rfl (by first | exact Or.inl rfl | exact Or.inr rfl)) (wss_cons ⟨(ps_set (i := 10) sc_law_due.nd rfl (by first | exact Or.inl rfl | exact Or.inr rfl) (pe_callC C_law_spot hr (by decide) (by rfl) (pa_cons (pe_ix ix_seq (pv 4) (pe_op op_addA (pv 6) pe_int) (fun _ _ => rfl)) (pa_cons (pe_ix ix_seq (pv 4) (pe_op op_addA (pv 6) pe_int) (fun _ _ => rfl)) (pa_cons (pe_op op_addA (pv 9) pe_int) (pa_cons (pe_op op_mulB (pv 7) (pv 3)) pa_nil se_BinOp) se_BinOp) se_Subscript) se_Subscript) (by decide) se_Subscript (se_any rfl)))⟩
        (wss_cons ⟨(ps_expr (pe_bm PySem.F.plainAttrs_list PySem.F.slot_list_append PySem.F.type_list_append mt_append (pv 5) (pa_cons (pe_tup (pa_cons (pe_ix ix_seq (pv 4) pe_int (fun _ _ => rfl)) (pa_cons (pv 8) (pa_cons (pv 10) pa_nil se_Name) se_Name) se_Subscript)) pa_nil se_Tuple)))⟩
        (wss_one ⟨(ps_set (i := 8) sc_law_due.nd rfl (by first | exact Or.inl rfl | exact Or.inr rfl) (pv 10))⟩)))))))
        (wss_one ⟨(ps_ret (pv 5))⟩)))), ?_⟩
    have e : start ["_law_field_here", "_law_c", "_law_shares_here", "_law_times", "_law_at", "_law_found", "_law_k", "_law_share", "_law_here", "_law_j", "_law_there"] [V.ref p, V.int c, V.ref l, V.int t] = [some (V.ref p), some (V.int c), some (V.ref l), some (V.int t), none, none, none, none, none, none, none] := rfl
    rw [e]
    have hl := rotP_len (ps := ps) (c := c) (by omega)
    obtain ⟨su1, su2⟩ := sum_ge hsp
    try walk_at "vc"
    refine Tps.rot hp (by omega) (by omega) (fun q H2 s2 nq hq => ?_)
    try walk_at "vc"
    refine newL (Nat.le_of_ble_eq_true rfl) (fun pf H3 s3 npf ef => ?_)
    have el3 := s3 _ _ (s2 _ _ el)
    have nlf : l ≠ pf := ne_of_none (s2 _ _ el) npf
    have hq3 := hq.tk s3.tk
    try walk_at "vc"
    have hfl : (fanP (rotP ps c)).length = ps.length - 2 := by unfold fanP; rw [List.length_map, List.length_range, hl]
    refine ⟨_, SqL.of el3, ?_⟩
    refine forE (xs := ss.map V.int) (fun j σ J => ∃ o6 o7 o8 o9 o10 : Option V, σ = [some (V.ref p), some (V.int c), some (V.ref l), some (V.int t), some (V.ref q), some (V.ref pf), o6, o7, o8, o9, o10] ∧ Kp pf H3 J ∧ Tk H3 J ∧ ∃ vs, J pf = some (.lst vs) ∧ vs.length ≤ 30 * j ∧ Pcs (2 * m + 6) J vs (fcut ((fanP (rotP ps c)).take j) (ss.take j) t))
      ⟨_, _, _, _, _, rfl, Kp.refl _, Tk.refl _, [], ef, Nat.zero_le _, by rw [List.take_zero]; exact Pcs.nil⟩ (fun j σ J ⟨_, _, _, _, _, _, kJ, _⟩ => SqL.of (kJ _ _ el3 nlf)) ?_ ?_
    · rintro j yv T σ J hyj ⟨o6, o7, o8, o9, o10, rfl, kJ, tJ, vs, eJ, lJ, hv⟩ hT'
      rw [List.getElem?_map] at hyj
      cases en : ss[j]? with
      | none => rw [en] at hyj; cases hyj
      | some sv =>
        rw [en] at hyj
        cases hyj
        have s4 : Same J (upd J T (.tup [V.int (j : Nat), V.int sv])) := same_upd hT'
        have e4 : (upd J T (.tup [V.int (j : Nat), V.int sv])) T = some (.tup [V.int (j : Nat), V.int sv]) := upd_same
        generalize upd J T (.tup [V.int (j : Nat), V.int sv]) = J4 at s4 e4 ⊢
        refine seq_t e4 rfl ?_
        try walk_at "vc"
        have hjl : j < ss.length := (List.getElem?_eq_some_iff.mp en).1
        have sv0 := hsp sv (List.mem_of_getElem? en)
        have sv1 := su2 sv (List.mem_of_getElem? en)
        have eJ4 := s4 _ _ eJ
        have hst1 : sv * t ≤ ss.sum * t := Int.mul_le_mul_of_nonneg_right sv1 (by omega)
        have hst0 : 0 < sv * t := Int.mul_pos sv0 t0
        have hsb : sv.natAbs < 2 ^ 5 := by
          have : sv * 1 ≤ sv * t := Int.mul_le_mul_of_nonneg_left (by omega) (by omega)
          show _ < 32
          omega
        have htb : t.natAbs < 2 ^ 5 := by
          have : 1 * t ≤ sv * t := Int.mul_le_mul_of_nonneg_right (by omega) (by omega)
          show _ < 32
          omega
        have hqJ := hq3.tk (tJ.trans s4.tk)
        refine hqJ.ix (k := j + 1) (by omega) (by omega) (fun va fa => ?_)
        try walk_at "vc"
        obtain ⟨n, hn⟩ := Int.eq_ofNat_of_zero_le (Int.le_of_lt hst0)
        refine ⟨mulOk hsb htb (by decide), by omega, by omega, ?_⟩
        rw [hn, show ((n : Int)).toNat = n by omega]
        refine forR (fun i σ J' => ∃ (vh : V) (o9 o10 : Option V), σ = [some (V.ref p), some (V.int c), some (V.ref l), some (V.int t), some (V.ref q), some (V.ref pf), some (V.int (j : Nat)), some (V.int sv), some vh, o9, o10] ∧ Kp pf J4 J' ∧ Tk J4 J' ∧ Spt (2 * m + 6) J' vh (wy (gp (rotP ps c) (j + 1)) (gp (rotP ps c) (j + 2)) n i) ∧ ∃ ws, J' pf = some (.lst (vs ++ ws)) ∧ ws.length = i ∧ Pcs (2 * m + 6) J' ws ((List.range i).map fun k => [gp (rotP ps c) 0, wy (gp (rotP ps c) (j + 1)) (gp (rotP ps c) (j + 2)) n k, wy (gp (rotP ps c) (j + 1)) (gp (rotP ps c) (j + 2)) n (k + 1)]))
          ⟨_, _, _, rfl, Kp.refl _, Tk.refl _, by rw [wy_0]; exact fa.le (by omega), [], by rw [List.append_nil]; exact eJ4, rfl, Pcs.nil⟩ ?_ ?_
        · rintro i σ J' hi ⟨vh, o9', o10', rfl, kJ', tJ', fh, ws, ew, lw, hw⟩
          have hqJ' := hqJ.tk tJ'
          try walk_at "vc"
          refine hqJ'.ix (k := j + 1) (by omega) (by omega) (fun va' fa' => ?_)
          try walk_at "vc"
          refine hqJ'.ix (k := j + 2) (by omega) (by omega) (fun vb' fb' => ?_)
          try walk_at "vc"
          refine ⟨mulOk hsb htb (by decide), ?_⟩
          rw [hn, show (0 : Int) + (i : Int) + 1 = ((i + 1 : Nat) : Int) by omega]
          refine u_law_spot fa' fb' (by omega) (by omega) (by omega) (by omega) (fun v J5 s5 fv => ?_)
          have ew5 := s5 _ _ ew
          try walk_at "vc"
          refine ⟨.inl ⟨rfl, _, SqL.of ew5⟩, ?_⟩
          try walk_at "vc"
          refine (hqJ'.tk s5.tk).ix (k := 0) rfl (by omega) (fun v0 f0 => ?_)
          refine newP3 (f0.le (by omega)) (fh.tk s5.tk) fv (fun pt J6 s6 npt htp => ?_)
          have ew6 := s6 _ _ ew5
          have tu := tk_upd (o := .lst (vs ++ ws ++ [.ref pt])) ew6
          have t56 := s5.tk.trans s6.tk
          refine ⟨pf, vs ++ ws, _, rfl, rfl, ew6, small1000 (by rw [List.length_append]; omega), (kJ'.trans (s5.trans s6).kp).trans kp_upd, tJ'.trans (t56.trans tu), fv.tk (s6.tk.trans tu), ws ++ [.ref pt], by rw [upd_same, List.append_assoc], by rw [List.length_append, lw]; rfl, ?_⟩
          rw [range_snoc]
          exact (hw.tk (t56.trans tu)).snoc (htp.tk tu)
        · rintro σ J' ⟨vh, o9', o10', rfl, kJ', tJ', fh, ws, ew, lw, hw⟩
          refine ⟨_, _, _, _, _, rfl, kJ.trans (s4.kp.trans kJ'), tJ.trans (s4.tk.trans tJ'), _, ew, by rw [List.length_append]; omega, ?_⟩
          have eqf : (fanP (rotP ps c))[j]? = some [gp (rotP ps c) 0, gp (rotP ps c) (j + 1), gp (rotP ps c) (j + 2)] := by
            unfold fanP
            rw [List.getElem?_map, List.getElem?_range (by omega)]
            rfl
          rw [fcut_take eqf en, hn, show ((n : Int)).toNat = n by omega]
          exact (hv.tk (s4.tk.trans tJ')).app hw
    rintro σ J ⟨o6, o7, o8, o9, o10, rfl, kJ, tJ, vs, eJ, lJ, hv⟩
    rw [List.length_map, List.take_length, List.take_of_length_le (by omega)] at hv
    try walk_at "vc"
    exact k pf vs J (s2.trans (same_of_kp (kp_of_new kJ npf s3) npf)) (none_of s2 npf) eJ hv
theorem u_law_due {p l : Addr} {ps : List (Rat × Rat)} {ss : List Int} {c m : Nat} {t : Int} {H : Hp} {Q : VK} {E : XK} (hp : Tps m H p ps) (hm : m ≤ 120) (h3 : 3 ≤ ps.length) (h6 : ps.length ≤ 6) (hc : c < ps.length) (el : H l = some (.lst (ss.map V.int))) (hsl : ss.length = ps.length - 2) (hsp : ∀ s ∈ ss, 0 < s) (t0 : 0 < t) (hst : ss.sum * t ≤ 30)
  (k : ∀ q xs H', Same H H' → H q = none → H' q = some (.lst xs) → Pcs (2 * m + 6) H' xs (fcut (fanP (rotP ps c)) ss t) → Q (.ref q) H') : sp_law_due [.ref p, .int c, .ref l, .int t] H Q E := ⟨p, l, ps, ss, c, m, t, rfl, hp, hm, h3, h6, hc, el, hsl, hsp, t0, hst, k⟩
abbrev s_law_wide : Stmt := top 70
theorem sc_law_wide : FnScope ["_law_row", "_law_far", "_law_way", "_law_bow", "_law_x", "_law_corners", "_law_k", "_law_a", "_law_b", "_law_e", "_law_f", "_law_u", "_law_v", "_law_found", "_law_at"] ["_law_row", "_law_far"] (defScope s_law_wide) := ⟨rfl, rfl, rfl, by decide +kernel, rfl, by decide +kernel, by decide +kernel⟩
theorem Tps.le {m n : Nat} {H : Hp} {p : Addr} {ps : List (Rat × Rat)} (l : m ≤ n) (h : Tps m H p ps) : Tps n H p ps := let ⟨xs, e, h1, h2⟩ := h.ex; ⟨xs, e, h1, fun i x ei => let ⟨q, e1, hq⟩ := h2 i x ei; ⟨q, e1, hq.le l⟩⟩
def Inc (ps : List (Rat × Rat)) : Prop := ∀ i j k : Nat, i < j → j < k → k < ps.length → 0 < tw (gp ps i) (gp ps j) (gp ps k)
theorem inc_fd {ps : List (Rat × Rat)} (h : Inc ps) (h3 : 3 ≤ ps.length) (h6 : ps.length ≤ 6) : fdP ps = true := by
  unfold fdP
  rw [decide_eq_true h3, decide_eq_true h6]
  show (List.range ps.length).all (olB ps) = true
  refine List.all_eq_true.mpr fun k hk => ?_
  unfold olB
  refine List.all_eq_true.mpr fun j hj => ?_
  rw [List.mem_range] at hk hj
  by_cases c1 : j = k
  · rw [decide_eq_true c1]; rfl
  by_cases c2 : j = aft ps.length k
  · rw [decide_eq_true c2, Bool.or_true]; rfl
  rw [decide_eq_false c1, decide_eq_false c2, Bool.false_or, Bool.false_or, decide_eq_true_eq]
  refine sgQ_pos.mpr ?_
  unfold aft at c2 ⊢
  by_cases z : k + 1 < ps.length
  · rw [Nat.mod_eq_of_lt z] at c2 ⊢
    by_cases y : j < k
    · rw [← tw_cyc]
      exact h j k (k + 1) y (by omega) z
    · exact h k (k + 1) j (by omega) (by omega) hj
  · have e : (k + 1) % ps.length = 0 := by rw [show k + 1 = ps.length by omega, Nat.mod_self]
    rw [e] at c2 ⊢
    rw [tw_cyc]
    exact h 0 j k (by omega) (by omega) hk
theorem inc_rot {ps : List (Rat × Rat)} (h : Inc ps) {c : Nat} (hc : c < ps.length) : Inc (rotP ps c) := by
  intro i j k hij hjk hk
  rw [rotP_len (by omega)] at hk
  rw [gp_rot hc (by omega), gp_rot hc (by omega), gp_rot hc hk]
  have md : ∀ a, a < ps.length + ps.length → a % ps.length = if a < ps.length then a else a - ps.length := fun a ha => by
    split
    · rename_i z; exact Nat.mod_eq_of_lt z
    · rw [Nat.mod_eq_sub_mod (by omega), Nat.mod_eq_of_lt (by omega)]
  rw [md _ (by omega), md _ (by omega), md _ (by omega)]
  by_cases a : c + k < ps.length
  · rw [if_pos (by omega), if_pos (by omega), if_pos a]
    exact h _ _ _ (by omega) (by omega) a
  · rw [if_neg a]
    by_cases b : c + j < ps.length
    · rw [if_pos (by omega), if_pos b, ← tw_cyc]
      exact h _ _ _ (by omega) (by omega) b
    · rw [if_neg b]
      by_cases d : c + i < ps.length
      · rw [if_pos d, tw_cyc]
        exact h _ _ _ (by omega) (by omega) d
      · rw [if_neg d]
        exact h _ _ _ (by omega) (by omega) (by omega)
def shf (e f : Int) (p : Rat × Rat) : Rat × Rat := (p.1 + (e : Rat), p.2 + (f : Rat))
theorem tw_shf {e f : Int} {a b c : Rat × Rat} : tw (shf e f a) (shf e f b) (shf e f c) = tw a b c := by unfold tw shf; grind
theorem gp_mapF {ps : List (Rat × Rat)} {g : Rat × Rat → Rat × Rat} {k : Nat} (hk : k < ps.length) : gp (ps.map g) k = g (gp ps k) := by
  unfold gp
  rw [List.getD_eq_getElem?_getD, List.getD_eq_getElem?_getD, List.getElem?_map, List.getElem?_eq_getElem hk]
  rfl
theorem inc_shf {ps : List (Rat × Rat)} {e f : Int} (h : Inc ps) : Inc (ps.map (shf e f)) := by
  intro i j k hij hjk hk
  rw [List.length_map] at hk
  rw [gp_mapF (by omega), gp_mapF (by omega), gp_mapF hk, tw_shf]
  exact h i j k hij hjk hk
theorem add_int {q : Rat} {e : Int} : (q + (e : Rat)).num = q.num + e * (q.den : Int) ∧ (q + (e : Rat)).den = q.den := by
  have hd := q.den_nz
  have hg : (q.num + e * (q.den : Int)).natAbs.gcd ((q.den : Int)).natAbs = 1 := by
    rw [Int.natAbs_natCast]
    have h1 : Int.gcd (q.num + e * (q.den : Int)) (q.den : Int) = Int.gcd q.num (q.den : Int) := Int.gcd_add_mul_right_left _ _ _
    have h2 : Int.gcd q.num (q.den : Int) = 1 := q.reduced
    exact h1.trans h2
  have hB : ((q.den : Nat) : Int) ≠ 0 := by omega
  have e1 : Rat.divInt (q.num + e * (q.den : Int)) (q.den : Int) = q + (e : Rat) := dv_of hB (by
    have e1 := num_q q
    have c1 : ((q.den : Int) : Rat) = (q.den : Rat) := rfl
    rw [Rat.intCast_add, Rat.intCast_mul, e1, c1]
    grind)
  have hs : sg (q.num + e * (q.den : Int)) (q.den : Int) = 1 := by rw [sg_pos (by omega), hg]; rfl
  rw [← e1, ← low_num hB]
  refine ⟨by rw [hs, Int.fdiv_one], ?_⟩
  have := low_den (t := q.num + e * (q.den : Int)) hB
  rw [hs, Int.fdiv_one] at this
  omega
theorem fr_shift {m k : Nat} {H : Hp} {v : V} {q : Rat} {e : Int} {Q : VK} (h : Fr m H v q) (he : e.natAbs < 2 ^ k) (hb : m + k + 1 ≤ 8000) (kk : ∀ p H', Same H H' → Fr (m + k + 1) H' (.ref p) (q + (e : Rat)) → Q (.ref p) H') : NewT [.int (q.num + e * (q.den : Int)), .int q.den] H Q := by
  refine newT (Nat.le_of_ble_eq_true rfl) (fun p H' s np ep => kk p H' s ⟨⟨p, rfl, ?_⟩, ?_, ?_⟩)
  · rw [add_int.1, add_int.2]; exact ep
  · rw [add_int.1]
    exact bdle (add_bd2 (m := m + k) (bdle h.nb (by omega)) (bdle (mul_bd he (den_bd h.db)) (by omega))) (by omega)
  · rw [add_int.2]; exact big_le h.db (by omega)
def gX (b : Int) (x : Int) : Int := x * x * (if b = 0 then 1 else x)
def ptX (b : Int) (x : Int) : Rat × Rat := ((x : Rat), ((gX b x : Int) : Rat))
theorem twX {b x y z : Int} : tw (ptX b x) (ptX b y) (ptX b z) = (((y - x) * (gX b z - gX b x) - (z - x) * (gX b y - gX b x) : Int) : Rat) := by
  unfold tw ptX
  simp only [Rat.intCast_sub, Rat.intCast_mul]
theorem incX {b : Int} {xs : List Int} (hb : b = 0 ∨ ∀ x ∈ xs, 0 ≤ x) (hinc : ∀ i j : Nat, i < j → j < xs.length → xs.getD i 0 < xs.getD j 0) : Inc (xs.map (ptX b)) := by
  intro i j k hij hjk hk
  rw [List.length_map] at hk
  have gm : ∀ i, i < xs.length → gp (xs.map (ptX b)) i = ptX b (xs.getD i 0) := fun i hi => by
    unfold gp
    rw [List.getD_eq_getElem?_getD, List.getD_eq_getElem?_getD, List.getElem?_map, List.getElem?_eq_getElem hi]
    rfl
  rw [gm i (by omega), gm j (by omega), gm k hk, twX]
  have h1 := hinc i j hij (by omega)
  have h2 := hinc j k hjk hk
  have hmem : ∀ i, i < xs.length → xs.getD i 0 ∈ xs := fun i hi => by
    rw [List.getD_eq_getElem?_getD, List.getElem?_eq_getElem hi]
    exact List.getElem_mem hi
  have m1 := hmem i (by omega)
  generalize xs.getD i 0 = x at *
  generalize xs.getD j 0 = y at *
  generalize xs.getD k 0 = z at *
  have p : 0 < (y - x) * (z - x) * (z - y) := Int.mul_pos (Int.mul_pos (by omega) (by omega)) (by omega)
  have key : 0 < (y - x) * (gX b z - gX b x) - (z - x) * (gX b y - gX b x) := by
    unfold gX
    by_cases c : b = 0
    · rw [if_pos c]
      have e : (y - x) * (z * z * 1 - x * x * 1) - (z - x) * (y * y * 1 - x * x * 1) = (y - x) * (z - x) * (z - y) := by grind
      rw [if_pos c, if_pos c, e]
      exact p
    · rw [if_neg c, if_neg c, if_neg c]
      have hx := (hb.resolve_left c) x m1
      have e : (y - x) * (z * z * z - x * x * x) - (z - x) * (y * y * y - x * x * x) = (y - x) * (z - x) * (z - y) * (x + y + z) := by grind
      rw [e]
      exact Int.mul_pos p (by omega)
  exact_mod_cast key
theorem inc4 {a b : Rat} (ha : 0 < a) (hb : 0 < b) (hab : 1 < a + b) : Inc [(0, 0), (1, 0), (a, b), (0, 1)] := by
  intro i j k hij hjk hk
  have hk : k < 4 := hk
  have c : (i = 0 ∧ j = 1 ∧ k = 2) ∨ (i = 0 ∧ j = 1 ∧ k = 3) ∨ (i = 0 ∧ j = 2 ∧ k = 3) ∨ (i = 1 ∧ j = 2 ∧ k = 3) := by omega
  rcases c with ⟨rfl, rfl, rfl⟩ | ⟨rfl, rfl, rfl⟩ | ⟨rfl, rfl, rfl⟩ | ⟨rfl, rfl, rfl⟩ <;> simp only [gp, List.getD_cons_zero, List.getD_cons_succ, tw] <;> grind
theorem newC {H : Hp} {Q : VK} {c : Int} (hc : c.natAbs < 2 ^ 22) (k : ∀ p H', Same H H' → Fr 22 H' (.ref p) (c : Rat) → Q (.ref p) H') : NewT [.int c, .int 1] H Q :=
  newT (Nat.le_of_ble_eq_true rfl) fun p H' s np e => k p H' s ⟨⟨p, rfl, e⟩, hc, by show 1 < 2 ^ 22; decide⟩
theorem spl4 {m : Nat} {H : Hp} {x y z w : V} {a b c d : Rat × Rat} (h1 : Spt m H x a) (h2 : Spt m H y b) (h3 : Spt m H z c) (h4 : Spt m H w d) : SpL m H [x, y, z, w] [a, b, c, d] := ⟨rfl, fun i v e => by
  match i, e with
  | 0, e => cases e; exact ⟨_, rfl, h1⟩
  | 1, e => cases e; exact ⟨_, rfl, h2⟩
  | 2, e => cases e; exact ⟨_, rfl, h3⟩
  | 3, e => cases e; exact ⟨_, rfl, h4⟩
  | i + 4, e => simp at e⟩
theorem divInt_pos {a b : Int} (ha : 0 < a) (hb : 0 < b) : 0 < Rat.divInt a b := by
  have ha' : (0 : Rat) < (a : Rat) := by exact_mod_cast ha
  have hb' : (0 : Rat) < (b : Rat) := by exact_mod_cast hb
  have h1 : Rat.divInt a b * (b : Rat) = (a : Rat) := by
    rw [Rat.divInt_eq_div, Rat.div_def]
    have := Rat.mul_inv_cancel (b : Rat) (by grind)
    grind
  by_cases z : 0 < Rat.divInt a b
  · exact z
  · have := Rat.mul_nonneg (a := -Rat.divInt a b) (b := (b : Rat)) (by grind) (Rat.le_of_lt hb')
    grind
theorem sum_le_one {a b : Rat} : a.num * (b.den : Int) + b.num * (a.den : Int) ≤ (a.den : Int) * (b.den : Int) ↔ a + b ≤ 1 := by
  have e1 := num_q a
  have e2 := num_q b
  have ha : (0 : Rat) < (a.den : Rat) := by have := a.den_pos; exact_mod_cast this
  have hb : (0 : Rat) < (b.den : Rat) := by have := b.den_pos; exact_mod_cast this
  have key : ((a.num * (b.den : Int) + b.num * (a.den : Int) : Int) : Rat) = (a + b) * ((a.den : Rat) * (b.den : Rat)) := by
    have c1 : ((a.den : Int) : Rat) = (a.den : Rat) := rfl
    have c2 : ((b.den : Int) : Rat) = (b.den : Rat) := rfl
    rw [Rat.intCast_add, Rat.intCast_mul, Rat.intCast_mul, e1, e2, c1, c2]
    grind
  have k2 : (((a.den : Int) * (b.den : Int) : Int) : Rat) = (a.den : Rat) * (b.den : Rat) := by rw [Rat.intCast_mul]; rfl
  have hp := Rat.mul_pos ha hb
  rw [← Rat.intCast_le_intCast, key, k2]
  constructor
  · intro h
    by_cases z : 1 < a + b
    · have := Rat.mul_pos (a := a + b - 1) (b := (a.den : Rat) * (b.den : Rat)) (by grind) hp
      grind
    · exact Rat.not_lt.mp z
  · intro h
    have := Rat.mul_nonneg (a := 1 - (a + b)) (b := (a.den : Rat) * (b.den : Rat)) (by grind) (Rat.le_of_lt hp)
    grind
def sp_law_wide : Sp := fun vs H Q _ => ∃ (r : Addr) (far : Int) (n : Nat), vs = [.ref r, .int far] ∧ Row n H r ∧ n + 300 ≤ 1000000 ∧ 0 ≤ far ∧ far < 2 ^ 94 ∧ ∀ p ps H', Tps 120 H' p ps → fdP ps = true → p ≠ r → Row (n + 20) H' r → Kp r H H' → Tk H H' → Q (.ref p) H'

set_option maxHeartbeats 4000000 in
theorem ok_law_wide {f : Addr} {fd : FuncData} (F : Fun K "_law_wide" "_law_wide" s_law_wide f fd) (m : mg "_law_wide" = some (.ref f)) (b : Binds K fd ["_law_row", "_law_far"] []) (z_tuple : mg "tuple" = none) (z_range : mg "range" = none) (z_len : mg "len" = none) (C_law_take : Cal P w K mg base 1 "_law_take" ["_law_row", "_law_base"] sp_law_take) (C_law_field : Cal P w K mg base 2 "_law_field" ["_law_row", "_law_far"] sp_law_field) (C_law_lowest : Cal P w K mg base 1 "_law_lowest" ["_law_top", "_law_bottom"] sp_law_lowest) : Cal P w K mg base 3 "_law_wide" ["_law_row", "_law_far"] sp_law_wide := by
  refine cal_ofW F sc_law_wide m b (fun vs H Q E h => ?_) (fun cdv A outer s H vs Q E hr h => ?_)
  · obtain ⟨r, far, n, rfl, _⟩ := h
    rfl
  · obtain ⟨r, far, n, rfl, row, hn, f0, f1, k⟩ := h
    refine ⟨_, (wss_cons ⟨(ps_set (i := 2) sc_law_wide.nd rfl (by first | exact Or.inl rfl | exact Or.inr rfl) (pe_callC C_law_take hr (by decide) (by rfl) (pa_cons (pv 0) (pa_cons pe_int pa_nil se_Constant) se_Name) (by decide) se_Name (se_any rfl)))⟩
        (wss_cons (ws_if (pt_cmpR (op_eqA hr.units) (pv 2) pe_int (nomark _)) (wss_one ⟨(ps_ret (pe_callC C_law_field hr (by decide) (by rfl) (pa_cons (pv 0) (pa_cons (pv 1) pa_nil se_Name) se_Name) (by decide) se_Name (se_any rfl)))⟩) wss_nil)
        (wss_cons (ws_if (pt_cmpR (op_eqA hr.units) (pv 2) pe_int (nomark _)) (wss_cons ⟨(ps_set (i := 3) sc_law_wide.nd rfl (by first | exact Or.inl rfl | exact Or.inr rfl) (pe_callC C_law_take hr (by decide) (by rfl) (pa_cons (pv 0) (pa_cons pe_int pa_nil se_Constant) se_Name) (by decide) se_Name (se_any rfl)))⟩
        (wss_cons ⟨(ps_set (i := 4) sc_law_wide.nd rfl (by first | exact Or.inl rfl | exact Or.inr rfl) (pe_op op_addA (pe_op op_sub (pe_callC C_law_take hr (by decide) (by rfl) (pa_cons (pv 0) (pa_cons pe_int pa_nil se_Constant) se_Name) (by decide) se_Name (se_any rfl)) pe_int) (pe_op op_mulB pe_int (pv 3))))⟩
        (wss_cons ⟨(ps_set (i := 5) sc_law_wide.nd rfl (by first | exact Or.inl rfl | exact Or.inr rfl) (pe_lst pa_nil))⟩
        (wss_one (ws_for PassesOwn.never rfl ⟨(pi_range1 (by rfl) z_range (pa_cons (pe_op op_addA pe_int (pe_callC C_law_take hr (by decide) (by rfl) (pa_cons (pv 0) (pa_cons pe_int pa_nil se_Constant) se_Name) (by decide) se_Name (se_any rfl))) pa_nil se_BinOp))⟩ (pg_name (i := 6) sc_law_wide.nd rfl (by first | exact Or.inl rfl | exact Or.inr rfl)) (wss_cons ⟨(ps_expr (pe_bm PySem.F.plainAttrs_list PySem.F.slot_list_append PySem.F.type_list_append mt_append (pv 5) (pa_cons (pe_tup (pa_cons (pe_tup (pa_cons (pv 4) (pa_cons pe_int pa_nil se_Constant) se_Name)) (pa_cons (pe_tup (pa_cons (pe_op op_mulB (pe_op op_mulB (pv 4) (pv 4)) (pe_ix ix_seq (pe_lst (pa_cons pe_int (pa_cons (pv 4) pa_nil se_Name) se_Constant)) (pv 3) (fun _ _ => rfl))) (pa_cons pe_int pa_nil se_Constant) se_BinOp)) pa_nil se_Tuple) se_Tuple)) pa_nil se_Tuple)))⟩
        (wss_one ⟨(ps_set (i := 4) sc_law_wide.nd rfl (by first | exact Or.inl rfl | exact Or.inr rfl) (pe_op op_addA (pe_op op_addA (pv 4) pe_int) (pe_callC C_law_take hr (by decide) (by rfl) (pa_cons (pv 0) (pa_cons pe_int pa_nil se_Constant) se_Name) (by decide) se_Name (se_any rfl))))⟩))))))) (wss_cons ⟨(ps_set (i := 7) sc_law_wide.nd rfl (by first | exact Or.inl rfl | exact Or.inr rfl) (pe_callC C_law_lowest hr (by decide) (by rfl) (pa_cons (pe_op op_addA pe_int (pe_callC C_law_take hr (by decide) (by rfl) (pa_cons (pv 0) (pa_cons pe_int pa_nil se_Constant) se_Name) (by decide) se_Name (se_any rfl))) (pa_cons (pe_op op_addA pe_int (pe_callC C_law_take hr (by decide) (by rfl) (pa_cons (pv 0) (pa_cons pe_int pa_nil se_Constant) se_Name) (by decide) se_Name (se_any rfl))) pa_nil se_BinOp) se_BinOp) (by decide) se_BinOp (se_any rfl)))⟩
        (wss_cons ⟨(ps_set (i := 8) sc_law_wide.nd rfl (by first | exact Or.inl rfl | exact Or.inr rfl) (pe_callC C_law_lowest hr (by decide) (by rfl) (pa_cons (pe_op op_addA pe_int (pe_callC C_law_take hr (by decide) (by rfl) (pa_cons (pv 0) (pa_cons pe_int pa_nil se_Constant) se_Name) (by decide) se_Name (se_any rfl))) (pa_cons (pe_op op_addA pe_int (pe_callC C_law_take hr (by decide) (by rfl) (pa_cons (pv 0) (pa_cons pe_int pa_nil se_Constant) se_Name) (by decide) se_Name (se_any rfl))) pa_nil se_BinOp) se_BinOp) (by decide) se_BinOp (se_any rfl)))⟩
        (wss_cons (ws_if (pt_cmpR op_le (pe_op op_addA (pe_op op_mulB (pe_ix ix_seq (pv 7) pe_int (fun _ _ => rfl)) (pe_ix ix_seq (pv 8) pe_int (fun _ _ => rfl))) (pe_op op_mulB (pe_ix ix_seq (pv 8) pe_int (fun _ _ => rfl)) (pe_ix ix_seq (pv 7) pe_int (fun _ _ => rfl)))) (pe_op op_mulB (pe_ix ix_seq (pv 7) pe_int (fun _ _ => rfl)) (pe_ix ix_seq (pv 8) pe_int (fun _ _ => rfl))) (nomark _)) (wss_one ⟨(ps_set (i := 7) sc_law_wide.nd rfl (by first | exact Or.inl rfl | exact Or.inr rfl) (pe_tup (pa_cons (pe_op op_addA (pe_ix ix_seq (pv 7) pe_int (fun _ _ => rfl)) (pe_ix ix_seq (pv 7) pe_int (fun _ _ => rfl))) (pa_cons (pe_ix ix_seq (pv 7) pe_int (fun _ _ => rfl)) pa_nil se_Subscript) se_BinOp)))⟩) wss_nil)
        (wss_one (ws_set (i := 5) sc_law_wide.nd rfl (by first | exact Or.inl rfl | exact Or.inr rfl) (we_lst (wa_cons (we_tup (wa_cons we_ci2 (wa_cons we_ci2 wa_nil rfl) rfl)) (wa_cons (we_tup (wa_cons we_ci2 (wa_cons we_ci2 wa_nil rfl) rfl)) (wa_cons (we_tup (wa_cons ⟨(pv 7)⟩ (wa_cons ⟨(pv 8)⟩ wa_nil rfl) rfl)) (wa_cons (we_tup (wa_cons we_ci2 (wa_cons we_ci2 wa_nil rfl) rfl)) wa_nil rfl) rfl) rfl) rfl))))))))
        (wss_cons ⟨(ps_asg (pe_tup (pa_cons (pe_op op_sub (pe_callC C_law_take hr (by decide) (by rfl) (pa_cons (pv 0) (pa_cons (pe_op op_addA (pe_op op_mulB pe_int (pv 1)) pe_int) pa_nil se_BinOp) se_Name) (by decide) se_Name (se_any rfl)) (pv 1)) (pa_cons (pe_op op_sub (pe_callC C_law_take hr (by decide) (by rfl) (pa_cons (pv 0) (pa_cons (pe_op op_addA (pe_op op_mulB pe_int (pv 1)) pe_int) pa_nil se_BinOp) se_Name) (by decide) se_Name (se_any rfl)) (pv 1)) pa_nil se_BinOp) se_BinOp)) (pg_seq (n := 2) (by rfl) (pgs_cons (pg_name (i := 9) sc_law_wide.nd rfl (by first | exact Or.inl rfl | exact Or.inr rfl)) (pgs_cons (pg_name (i := 10) sc_law_wide.nd rfl (by first | exact Or.inl rfl | exact Or.inr rfl)) pgs_nil))))⟩
        (wss_cons ⟨(ps_setLc (i := 13) (own := [("_law_u", 11), ("_law_v", 12)]) (g := (gSeq K 2 (gCons (gName 11) (gCons (gName 12) gNil)))) (by rfl) sc_law_wide.nd rfl rfl (sw_true rfl rfl rfl (by decide +kernel)) (pi_list (pv 5)) (blkOk_by (own := [("_law_u", 11), ("_law_v", 12)]) (N := ["_law_row", "_law_far", "_law_way", "_law_bow", "_law_x", "_law_corners", "_law_k", "_law_a", "_law_b", "_law_e", "_law_f", "_law_u", "_law_v", "_law_found", "_law_at"]) (sc := defScope s_law_wide) (by decide +kernel)) (fun _ _ _ _ _ => (pg_seqK (n := 2) rfl (by rfl) (pgs_cons (pg_name (i := 11) sc_law_wide.nd rfl (by first | exact Or.inl rfl | exact Or.inr rfl)) (pgs_cons (pg_name (i := 12) sc_law_wide.nd rfl (by first | exact Or.inl rfl | exact Or.inr rfl)) pgs_nil)))) (fun _ _ _ _ _ => pts_nil) (fun _ _ _ _ _ => (pe_tup (pa_cons (pe_tup (pa_cons (pe_op op_addA (pe_ix (ix_seqK rfl) (pv 11) pe_int (fun _ _ => rfl)) (pe_op op_mulB (pv 9) (pe_ix (ix_seqK rfl) (pv 11) pe_int (fun _ _ => rfl)))) (pa_cons (pe_ix (ix_seqK rfl) (pv 11) pe_int (fun _ _ => rfl)) pa_nil se_Subscript) se_BinOp)) (pa_cons (pe_tup (pa_cons (pe_op op_addA (pe_ix (ix_seqK rfl) (pv 12) pe_int (fun _ _ => rfl)) (pe_op op_mulB (pv 10) (pe_ix (ix_seqK rfl) (pv 12) pe_int (fun _ _ => rfl)))) (pa_cons (pe_ix (ix_seqK rfl) (pv 12) pe_int (fun _ _ => rfl)) pa_nil se_Subscript) se_BinOp)) pa_nil se_Tuple) se_Tuple))))⟩
        (wss_cons ⟨(ps_set (i := 14) sc_law_wide.nd rfl (by first | exact Or.inl rfl | exact Or.inr rfl) (pe_callC C_law_take hr (by decide) (by rfl) (pa_cons (pv 0) (pa_cons (pe_callB call_lenA (by rfl) z_len bt_len (pa_cons (pv 13) pa_nil se_Name)) pa_nil se_Call) se_Name) (by decide) se_Name (se_any rfl)))⟩
        (wss_one ⟨(ps_ret (pe_callTy call_tuple_of (by rfl) z_tuple bt_tuple (pa_cons (pe_op op_addA (pe_slice sl_list (pv 13) (po_some (pv 14)) po_none) (pe_slice sl_list (pv 13) po_none (po_some (pv 14)))) pa_nil se_BinOp)))⟩))))))), ?_⟩
    have e : start ["_law_row", "_law_far", "_law_way", "_law_bow", "_law_x", "_law_corners", "_law_k", "_law_a", "_law_b", "_law_e", "_law_f", "_law_u", "_law_v", "_law_found", "_law_at"] [V.ref r, V.int far] = [some (.ref r), some (.int far), none, none, none, none, none, none, none, none, none, none, none, none, none] := rfl
    rw [e]
    try walk_at "vc"
    refine u_law_take row (by omega) (by decide) (by decide) (fun way H1 w0 w1 row1 k1 t1 => ?_)
    refine eq_i ?_
    try walk_at "vc"
    refine ite_d (fun c => ?_) (fun c => ?_)
    · refine u_law_field row1 (by omega) f0 (Int.lt_trans f1 (by decide)) (fun p ps H' hp hB hF np row' k' t' => ?_)
      exact k p ps H' (Tps.le (by decide) hp) hF np (Row.le (by omega) row') (k1.trans k') (t1.trans t')
    refine eq_i ?_
    try walk_at "vc"
    refine ite_d (fun c2 => ?_) (fun c2 => ?_)
    · refine u_law_take row1 (by omega) (by decide) (by decide) (fun bow H2 b0 b1 row2 k2 t2 => ?_)
      try walk_at "vc"
      refine u_law_take row2 (by omega) (by decide) (by decide) (fun x9 H3 x0 x1 row3 k3 t3 => ?_)
      try walk_at "vc"
      refine ⟨mulOkL (by decide), ?_⟩
      refine newL (Nat.le_of_ble_eq_true rfl) (fun lc H4 s4 nlc elc0 => ?_)
      try walk_at "vc"
      have nlr : lc ≠ r := by
        obtain ⟨_, er⟩ := row3.at_
        exact (ne_of_none er nlc).symm
      have K3 := k1.trans (k2.trans k3)
      have T3 := t1.trans (t2.trans t3)
      have flc : ∀ b o, H b = some o → b ≠ r → b ≠ lc := fun b o eb nb => ne_of_none (K3 b o eb nb) nlc
      refine u_law_take (row3.mono s4) (by omega) (by decide) (by decide) (fun m4 H5 m0 m1 row5 k5 t5 => ?_)
      try walk_at "vc"
      refine ⟨by omega, by omega, ?_⟩
      have hx0 : (bow = 0 ∨ 0 ≤ x9 - 4 + 4 * bow) ∧ -4 ≤ x9 - 4 + 4 * bow ∧ x9 - 4 + 4 * bow ≤ 8 := by omega
      obtain ⟨hx0, hx1, hx2⟩ := hx0
      have hbow : bow = 0 ∨ bow = 1 := by omega
      generalize x9 - 4 + 4 * bow = X0 at hx0 hx1 hx2 ⊢
      have elc5 := k5 _ _ elc0 nlr
      have T5 := T3.trans (s4.tk.trans t5)
      have K5 : Kp r H H5 := K3.trans (s4.kp.trans k5)
      obtain ⟨mm, hmm⟩ := Int.eq_ofNat_of_zero_le m0
      subst hmm
      rw [show ((3 : Int) + (mm : Int)).toNat = 3 + mm by omega]
      refine forR (fun i σ J => ∃ (X : Int) (o6 : Option V), σ = [some (V.ref r), some (V.int far), some (V.int way), some (V.int bow), some (V.int X), some (V.ref lc), o6, none, none, none, none, none, none, none, none] ∧ Row (n + 4 + i) J r ∧ Kp r H J ∧ Tk H J ∧ ∃ (xs : List Int) (vs : List V), J lc = some (.lst vs) ∧ SpL 22 J vs (xs.map (ptX bow)) ∧ xs.length = i ∧ -4 ≤ X ∧ X ≤ 8 + 10 * i ∧ (bow = 0 ∨ 0 ≤ X) ∧ (bow = 0 ∨ ∀ x ∈ xs, 0 ≤ x) ∧ (∀ j, j < xs.length → xs.getD j 0 < X) ∧ (∀ j l : Nat, j < l → l < xs.length → xs.getD j 0 < xs.getD l 0))
        ⟨_, _, rfl, row5, K5, T5, [], [], elc5, ⟨rfl, fun i x e => by cases e⟩, rfl, hx1, by omega, hx0, .inr (fun x hx => nomatch hx), (fun j hj => by cases hj), (fun j l _ hl => by cases hl)⟩ ?_ ?_
      · rintro i σ J hi ⟨X, o6, rfl, rowi, KJ, TJ, xs, vs, elJ, hv, lx, X1, X2, X3, X4, X5, X6⟩
        try walk_at "vc"
        have hi6 : i < 6 := by omega
        have hXb : X.natAbs < 2 ^ 7 := by show _ < 128; omega
        refine ⟨.inl ⟨rfl, _, SqL.of elJ⟩, ?_⟩
        try walk_at "vc"
        refine newT (Nat.le_of_ble_eq_true rfl) (fun p1 J1 s1 np1 e1 => ?_)
        try walk_at "vc"
        refine ⟨mulOk hXb hXb (by decide), ?_⟩
        refine newL (Nat.le_of_ble_eq_true rfl) (fun p2 J2 s2 np2 e2 => ?_)
        have hxx := mul_bd hXb hXb
        have gx : ∀ z, atI [V.int 1, V.int X] bow = some z → z = V.int (if bow = 0 then 1 else X) := fun z hz => by
          rcases hbow with rfl | rfl <;> (cases hz; rfl)
        refine .inl ⟨p2, _, bow, V.int (if bow = 0 then 1 else X), rfl, rfl, SqL.of e2, by rcases hbow with rfl | rfl <;> rfl, ?_⟩
        try walk_at "vc"
        have hg : (if bow = 0 then (1 : Int) else X).natAbs < 2 ^ 7 := by split; decide; exact hXb
        refine ⟨mulOk hxx hg (by decide), ?_⟩
        refine newT (Nat.le_of_ble_eq_true rfl) (fun p3 J3 s3 np3 e3 => ?_)
        have fx : Fr 22 J3 (.ref p1) (X : Rat) := ⟨⟨p1, rfl, s3 _ _ (s2 _ _ e1)⟩, bdle hXb (by decide), by show 1 < 2 ^ 22; decide⟩
        have fy : Fr 22 J3 (.ref p3) ((gX bow X : Int) : Rat) := ⟨⟨p3, rfl, e3⟩, bdle (mul_bd hxx hg) (by decide), by show 1 < 2 ^ 22; decide⟩
        refine newS fx fy (fun p4 J4 s4' f4 => ?_)
        have S := s1.trans (s2.trans (s3.trans s4'))
        have el4 := S _ _ elJ
        have tu := tk_upd (o := .lst (vs ++ [.ref p4])) el4
        have hvl := hv.1
        rw [List.length_map] at hvl
        refine ⟨lc, vs, .ref p4, rfl, rfl, el4, small1000 (by omega), ?_⟩
        have rowu : Row (n + 4 + i) (upd J4 lc (.lst (vs ++ [.ref p4]))) r := by
          obtain ⟨c, kk, er, l1, l2⟩ := (rowi.mono S).ex
          exact ⟨c, kk, (upd_ne nlr.symm).trans er, l1, l2⟩
        have Ku : Kp r H (upd J4 lc (.lst (vs ++ [.ref p4]))) := fun b o eb nb => by rw [upd_ne (flc b o eb nb)]; exact (KJ.trans S.kp) b o eb nb
        have Tu := TJ.trans (S.tk.trans tu)
        have hvu := spl_one (hv.tk (S.tk.trans tu)) (f4.tk tu)
        have eu : (upd J4 lc (.lst (vs ++ [.ref p4]))) lc = some (.lst (vs ++ [.ref p4])) := upd_same
        generalize upd J4 lc (.lst (vs ++ [.ref p4])) = J5 at rowu Ku Tu hvu eu ⊢
        try walk_at "vc"
        refine u_law_take rowu (by omega) (by decide) (by decide) (fun t9 J6 t0' t1' rowv kv tv => ?_)
        try walk_at "vc"
        have gd : ∀ j, (xs ++ [X]).getD j 0 = if j < xs.length then xs.getD j 0 else if j = xs.length then X else 0 := fun j => by
          rw [List.getD_eq_getElem?_getD, List.getD_eq_getElem?_getD, List.getElem?_append]
          split
          · rfl
          · by_cases z : j = xs.length
            · subst z; rw [if_pos rfl, Nat.sub_self]; rfl
            · rw [if_neg z]
              cases y : j - xs.length with
              | zero => omega
              | succ q => rfl
        refine ⟨Row.le (by omega) rowv, Ku.trans kv, Tu.trans tv, xs ++ [X], _, kv _ _ eu nlr, by rw [List.map_append]; exact hvu.tk tv, by rw [List.length_append, lx]; rfl, by omega, by omega, by omega, ?_, ?_, ?_⟩
        · rcases X4 with z | z
          · exact .inl z
          · rcases X3 with y | y
            · exact .inl y
            · refine .inr fun x hx => ?_
              rcases List.mem_append.mp hx with h | h
              · exact z x h
              · rw [List.mem_singleton.mp h]; exact y
        · intro j hj
          rw [List.length_append, List.length_singleton] at hj
          rw [gd]
          split
          · rename_i z; have := X5 j z; omega
          · rw [if_pos (by omega)]; omega
        · intro j l hjl hl
          rw [List.length_append, List.length_singleton] at hl
          rw [gd, gd, if_pos (by omega)]
          split
          · rename_i z; exact X6 j l hjl z
          · rw [if_pos (by omega)]; exact X5 j (by omega)
      rintro σ U ⟨X, o6, rfl, rowU, KU, TU, xs, cxs, elc, hcs, lx, X1, X2, X3, X4, X5, X6⟩
      have hinc := incX X4 X6
      have hl3 : 3 ≤ (xs.map (ptX bow)).length := by rw [List.length_map]; omega
      have hl6 : (xs.map (ptX bow)).length ≤ 6 := by rw [List.length_map]; omega
      generalize xs.map (ptX bow) = cps at *
      try walk_at "vc"
      have f1' : far < 19807040628566084398385987584 := f1
      refine u_law_take rowU (by omega) (by omega) (by show _ < 1606938044258990275541962092341162602522202993782792835301376; omega) (fun te U1 e0 e1 rowE kE tE => ?_)
      try walk_at "vc"
      refine u_law_take rowE (by omega) (by omega) (by show _ < 1606938044258990275541962092341162602522202993782792835301376; omega) (fun tf U2 f0' f1'' rowF kF tF => ?_)
      try walk_at "vc"
      have he : (te - far).natAbs < 2 ^ 94 := by show _ < 19807040628566084398385987584; omega
      have hf : (tf - far).natAbs < 2 ^ 94 := by show _ < 19807040628566084398385987584; omega
      have elc := kF _ _ (kE _ _ elc nlr) nlr
      have hcs := hcs.tk (tE.trans tF)
      have KU := KU.trans (kE.trans kF)
      have TU := TU.trans (tE.trans tF)
      generalize te - far = ee at he ⊢
      generalize tf - far = ff at hf ⊢
      refine newT (Nat.le_of_ble_eq_true rfl) (fun pt U3 s3 npt e3 => ?_)
      refine seq_t e3 rfl ?_
      try walk_at "vc"
      have elc := s3 _ _ elc
      have hcs := hcs.tk s3.tk
      have rowG := rowF.mono s3
      have KU := KU.trans s3.kp
      have TU := TU.trans s3.tk
      have hcl := hcs.1
      refine ⟨⟨_, SqL.of elc⟩, fun D hD => ?_⟩
      have nD : lc ≠ D := ne_of_none elc hD
      have nDr : D ≠ r := by
        obtain ⟨_, er⟩ := rowG.at_
        exact (ne_of_none er hD).symm
      refine lcL (xs := cxs) (fun i J => Kp D U3 J ∧ Tk U3 J ∧ ∃ fs, J D = some (.lst fs) ∧ SpL 120 J fs ((cps.map (shf ee ff)).take i)) ⟨kp_upd, (same_upd hD).tk, [], upd_same, by rw [List.take_zero]; exact ⟨rfl, fun i x e => by cases e⟩⟩ (fun i J _ ⟨kJ, _⟩ => SqL.of (kJ _ _ elc nD)) ?_ ?_
      · rintro i x J hi ⟨kJ, tJ, fs, eD, hv⟩
        obtain ⟨pt, ept, fp⟩ := (hcs.tk tJ).2 i x hi
        refine seq_sp fp (fun vu vv fu fv => ?_)
        try walk_at "vc"
        refine ix_fr0 fu ?_
        refine ix_fr1 fu ?_
        try walk_at "vc"
        refine ⟨mulOk he (den_bd fu.db) (by decide), ?_⟩
        refine ix_fr1 fu ?_
        refine fr_shift fu he (by decide) (fun p1 J1 s1 g1 => ?_)
        have fv1 := fv.mono s1
        refine ix_fr0 fv1 ?_
        refine ix_fr1 fv1 ?_
        try walk_at "vc"
        refine ⟨mulOk hf (den_bd fv1.db) (by decide), ?_⟩
        refine ix_fr1 fv1 ?_
        refine fr_shift fv1 hf (by decide) (fun p2 J2 s2 g2 => ?_)
        refine newS ((g1.mono s2).le (n := 120) (by decide)) (g2.le (n := 120) (by decide)) (fun p3 J3 s3' g3 => ?_)
        have S := s1.trans (s2.trans s3')
        have eD3 := S _ _ eD
        have tu := tk_upd (o := .lst (fs ++ [.ref p3])) eD3
        have hvl := hv.1
        rw [List.length_take, List.length_map] at hvl
        refine ⟨_, eD3, small1000 (by omega), (kJ.trans S.kp).trans kp_upd, tJ.trans (S.tk.trans tu), _, upd_same, ?_⟩
        rw [List.take_succ, List.getElem?_map, ept]
        exact spl_one (hv.tk (S.tk.trans tu)) (g3.tk tu)
      rintro J ⟨kJ, tJ, fs, eD, hv⟩
      rw [List.take_of_length_le (by rw [List.length_map]; omega)] at hv
      have hfl := hv.1
      rw [List.length_map] at hfl
      have sJ := same_of_kp kJ hD
      have KU := KU.trans sJ.kp
      have TU := TU.trans sJ.tk
      have rowJ := rowG.mono sJ
      try walk_at "vc"
      refine len_l eD ?_
      refine u_law_take rowJ (by omega) (by omega) (by show _ < 1606938044258990275541962092341162602522202993782792835301376; omega) (fun at1 J4 a3' b3' rowK k4 t4 => ?_)
      have ef3 := k4 _ _ eD nDr
      try walk_at "vc"
      refine ⟨_, SqL.of ef3, fun p1 hp1 => ?_⟩
      have s1 := same_upd (o := .lst (cutV fs (some at1) none)) hp1
      refine ⟨_, SqL.of (s1 _ _ ef3), fun p2 hp2 => ?_⟩
      have s2 := same_upd (o := .lst (cutV fs none (some at1))) hp2
      have hk : at1.toNat < cps.length := by omega
      have c1 : cutV fs (some at1) none = fs.drop at1.toNat := cut_drop a3' (by omega)
      have c2' : cutV fs none (some at1) = fs.take at1.toNat := cut_take a3' (by omega)
      have E1 := s2 _ _ (upd_same (H := J4) (a := p1) (o := .lst (cutV fs (some at1) none)))
      have E2 := upd_same (H := upd J4 p1 (.lst (cutV fs (some at1) none))) (a := p2) (o := .lst (cutV fs none (some at1)))
      have S2 := s1.trans s2
      generalize upd (upd J4 p1 (.lst (cutV fs (some at1) none))) p2 (.lst (cutV fs none (some at1))) = H4 at E1 E2 S2 ⊢
      rw [c1] at E1
      rw [c2'] at E2
      clear s1 s2
      refine cat_l E1 E2 (Nat.le_of_lt (small1000 (by rw [List.length_drop, List.length_take]; omega))) (fun p3 hp3 => ?_)
      have s3 := same_upd (o := .lst (fs.drop at1.toNat ++ fs.take at1.toNat)) hp3
      refine ⟨p3, rfl, _, .inl ⟨SqL.of upd_same, fun t ht => ?_⟩⟩
      have s4 := same_upd (o := .tup (fs.drop at1.toNat ++ fs.take at1.toNat)) ht
      have S4 := S2.trans (s3.trans s4)
      have nt : t ≠ r := by
        obtain ⟨_, er⟩ := (rowK.mono (S2.trans s3)).at_
        exact (ne_of_none er ht).symm
      have hsp := hv.tk (t4.trans S4.tk)
      refine k t (rotP (cps.map (shf ee ff)) at1.toNat) _ ⟨_, upd_same, spl_app (spl_drop _ hsp) (spl_take _ hsp)⟩ (inc_fd (inc_rot (inc_shf hinc) (by rw [List.length_map]; exact hk)) (by rw [rotP_len (by rw [List.length_map]; omega), List.length_map]; omega) (by rw [rotP_len (by rw [List.length_map]; omega), List.length_map]; omega)) nt (Row.le (by omega) (rowK.mono S4)) (KU.trans (k4.trans S4.kp)) (TU.trans (t4.trans S4.tk))
    · refine u_law_take row1 (by omega) (by decide) (by decide) (fun a1 H2 a10 a11 row2 k2 t2 => ?_)
      try walk_at "vc"
      refine u_law_take row2 (by omega) (by decide) (by decide) (fun a2 H3 a20 a21 row3 k3 t3 => ?_)
      try walk_at "vc"
      refine u_law_lowest 7 (by omega) (by show _ < 128; omega) (by show _ < 128; omega) (by decide) (fun va H4 s4 fa => ?_)
      try walk_at "vc"
      refine u_law_take (row3.mono s4) (by omega) (by decide) (by decide) (fun b1 H5 b10 b11 row5 k5 t5 => ?_)
      try walk_at "vc"
      refine u_law_take row5 (by omega) (by decide) (by decide) (fun b2 H6 b20 b21 row6 k6 t6 => ?_)
      try walk_at "vc"
      refine u_law_lowest 7 (by omega) (by show _ < 128; omega) (by show _ < 128; omega) (by decide) (fun vb H7 s7 fb => ?_)
      try walk_at "vc"
      have fa := (fa.tk (t5.trans t6)).mono s7
      have rowV := row6.mono s7
      have KV := k1.trans (k2.trans (k3.trans (s4.kp.trans (k5.trans (k6.trans s7.kp)))))
      have TV := t1.trans (t2.trans (t3.trans (s4.tk.trans (t5.trans (t6.trans s7.tk)))))
      have pa : 0 < Rat.divInt (1 + a1) (1 + a2) := divInt_pos (by omega) (by omega)
      have pb : 0 < Rat.divInt (1 + b1) (1 + b2) := divInt_pos (by omega) (by omega)
      generalize Rat.divInt (1 + a1) (1 + a2) = qa at fa pa
      generalize Rat.divInt (1 + b1) (1 + b2) = qb at fb pb
      clear k1 k2 k3 k5 k6 t1 t2 t3 t5 t6 row row1 row2 row3 row5 row6 s4 s7
      refine ix_fr0 fa ?_
      refine ix_fr1 fb ?_
      try walk_at "vc"
      have da := den_bd fa.db
      have db := den_bd fb.db
      refine ⟨mulOk fa.nb db (by decide), ?_⟩
      refine ix_fr0 fb ?_
      refine ix_fr1 fa ?_
      try walk_at "vc"
      refine ⟨mulOk fb.nb da (by decide), ?_⟩
      refine ix_fr1 fa ?_
      refine ix_fr1 fb ?_
      try walk_at "vc"
      refine ⟨mulOk da db (by decide), ?_⟩
      refine ite_d (fun c3 => ?_) (fun c3 => ?_)
      · refine ix_fr0 fa ?_
        refine ix_fr1 fa ?_
        try walk_at "vc"
        refine ix_fr1 fa ?_
        rw [show qa.num + (qa.den : Int) = qa.num + 1 * (qa.den : Int) from by rw [Int.one_mul]]
        refine fr_shift fa (k := 1) (e := 1) (by decide) (by decide) (fun p0 V0 s0 f0a => ?_)
        have fb := fb.mono s0
        replace rowV := rowV.mono s0
        replace KV := KV.trans s0.kp
        replace TV := TV.trans s0.tk
        have hinc := inc4 (a := qa + ((1 : Int) : Rat)) (b := qb) (by have e : ((1 : Int) : Rat) = 1 := rfl; rw [e]; grind) pb (by have e : ((1 : Int) : Rat) = 1 := rfl; rw [e]; grind)
        have fA := f0a.le (n := 22) (by decide)
        have fB := fb.le (n := 22) (by decide)
        refine newC (c := 0) (by decide) (fun q1 G1 z1 fq1 => ?_)
        replace fA := fA.mono z1
        replace fB := fB.mono z1
        refine newC (c := 0) (by decide) (fun q2 G2 z2 fq2 => ?_)
        replace fA := fA.mono z2
        replace fB := fB.mono z2
        replace fq1 := fq1.mono z2
        refine newS fq1 fq2 (fun q3 G3 z3 gq3 => ?_)
        replace fA := fA.mono z3
        replace fB := fB.mono z3
        replace fq1 := fq1.mono z3
        replace fq2 := fq2.mono z3
        refine newC (c := 1) (by decide) (fun q4 G4 z4 fq4 => ?_)
        replace fA := fA.mono z4
        replace fB := fB.mono z4
        replace gq3 := gq3.tk z4.tk
        refine newC (c := 0) (by decide) (fun q5 G5 z5 fq5 => ?_)
        replace fA := fA.mono z5
        replace fB := fB.mono z5
        replace gq3 := gq3.tk z5.tk
        replace fq4 := fq4.mono z5
        refine newS fq4 fq5 (fun q6 G6 z6 gq6 => ?_)
        replace fA := fA.mono z6
        replace fB := fB.mono z6
        replace gq3 := gq3.tk z6.tk
        replace fq4 := fq4.mono z6
        replace fq5 := fq5.mono z6
        refine newS fA fB (fun q7 G7 z7 gq7 => ?_)
        replace fA := fA.mono z7
        replace fB := fB.mono z7
        replace gq3 := gq3.tk z7.tk
        replace gq6 := gq6.tk z7.tk
        refine newC (c := 0) (by decide) (fun q8 G8 z8 fq8 => ?_)
        replace gq3 := gq3.tk z8.tk
        replace gq6 := gq6.tk z8.tk
        replace gq7 := gq7.tk z8.tk
        refine newC (c := 1) (by decide) (fun q9 G9 z9 fq9 => ?_)
        replace gq3 := gq3.tk z9.tk
        replace gq6 := gq6.tk z9.tk
        replace gq7 := gq7.tk z9.tk
        replace fq8 := fq8.mono z9
        refine newS fq8 fq9 (fun q10 G10 z10 gq10 => ?_)
        replace gq3 := gq3.tk z10.tk
        replace gq6 := gq6.tk z10.tk
        replace gq7 := gq7.tk z10.tk
        replace fq8 := fq8.mono z10
        replace fq9 := fq9.mono z10
        refine newL (Nat.le_of_ble_eq_true rfl) (fun lc U zL nlc elc => ?_)
        replace gq3 := gq3.tk zL.tk
        replace gq6 := gq6.tk zL.tk
        replace gq7 := gq7.tk zL.tk
        replace gq10 := gq10.tk zL.tk
        have ZZ := z1.trans (z2.trans (z3.trans (z4.trans (z5.trans (z6.trans (z7.trans (z8.trans (z9.trans (z10.trans (zL))))))))))
        have rowU := rowV.mono ZZ
        have KU := KV.trans ZZ.kp
        have TU := TV.trans ZZ.tk
        have nlr : lc ≠ r := by
          obtain ⟨_, er⟩ := (rowV.mono (z1.trans (z2.trans (z3.trans (z4.trans (z5.trans (z6.trans (z7.trans (z8.trans (z9.trans (z10))))))))))).at_
          exact (ne_of_none er nlc).symm
        have hcs := spl4 gq3 gq6 gq7 gq10
        have hcl4 : ([(0, 0), (1, 0), (qa + ((1 : Int) : Rat), qb), (0, 1)] : List (Rat × Rat)).length = 4 := rfl
        generalize ([(0, 0), (1, 0), (qa + ((1 : Int) : Rat), qb), (0, 1)] : List (Rat × Rat)) = cps at hinc hcs hcl4
        generalize ([_, _, _, _] : List V) = cxs at elc hcs
        have hl3 : 3 ≤ cps.length := by omega
        have hl6 : cps.length ≤ 6 := by omega
        try walk_at "vc"
        have f1' : far < 19807040628566084398385987584 := f1
        refine u_law_take rowU (by omega) (by omega) (by show _ < 1606938044258990275541962092341162602522202993782792835301376; omega) (fun te U1 e0 e1 rowE kE tE => ?_)
        try walk_at "vc"
        refine u_law_take rowE (by omega) (by omega) (by show _ < 1606938044258990275541962092341162602522202993782792835301376; omega) (fun tf U2 f0' f1'' rowF kF tF => ?_)
        try walk_at "vc"
        have he : (te - far).natAbs < 2 ^ 94 := by show _ < 19807040628566084398385987584; omega
        have hf : (tf - far).natAbs < 2 ^ 94 := by show _ < 19807040628566084398385987584; omega
        have elc := kF _ _ (kE _ _ elc nlr) nlr
        have hcs := hcs.tk (tE.trans tF)
        have KU := KU.trans (kE.trans kF)
        have TU := TU.trans (tE.trans tF)
        generalize te - far = ee at he ⊢
        generalize tf - far = ff at hf ⊢
        refine newT (Nat.le_of_ble_eq_true rfl) (fun pt U3 s3 npt e3 => ?_)
        refine seq_t e3 rfl ?_
        try walk_at "vc"
        have elc := s3 _ _ elc
        have hcs := hcs.tk s3.tk
        have rowG := rowF.mono s3
        have KU := KU.trans s3.kp
        have TU := TU.trans s3.tk
        have hcl := hcs.1
        refine ⟨⟨_, SqL.of elc⟩, fun D hD => ?_⟩
        have nD : lc ≠ D := ne_of_none elc hD
        have nDr : D ≠ r := by
          obtain ⟨_, er⟩ := rowG.at_
          exact (ne_of_none er hD).symm
        refine lcL (xs := cxs) (fun i J => Kp D U3 J ∧ Tk U3 J ∧ ∃ fs, J D = some (.lst fs) ∧ SpL 120 J fs ((cps.map (shf ee ff)).take i)) ⟨kp_upd, (same_upd hD).tk, [], upd_same, by rw [List.take_zero]; exact ⟨rfl, fun i x e => by cases e⟩⟩ (fun i J _ ⟨kJ, _⟩ => SqL.of (kJ _ _ elc nD)) ?_ ?_
        · rintro i x J hi ⟨kJ, tJ, fs, eD, hv⟩
          obtain ⟨pt, ept, fp⟩ := (hcs.tk tJ).2 i x hi
          refine seq_sp fp (fun vu vv fu fv => ?_)
          try walk_at "vc"
          refine ix_fr0 fu ?_
          refine ix_fr1 fu ?_
          try walk_at "vc"
          refine ⟨mulOk he (den_bd fu.db) (by decide), ?_⟩
          refine ix_fr1 fu ?_
          refine fr_shift fu he (by decide) (fun p1 J1 s1 g1 => ?_)
          have fv1 := fv.mono s1
          refine ix_fr0 fv1 ?_
          refine ix_fr1 fv1 ?_
          try walk_at "vc"
          refine ⟨mulOk hf (den_bd fv1.db) (by decide), ?_⟩
          refine ix_fr1 fv1 ?_
          refine fr_shift fv1 hf (by decide) (fun p2 J2 s2 g2 => ?_)
          refine newS ((g1.mono s2).le (n := 120) (by decide)) (g2.le (n := 120) (by decide)) (fun p3 J3 s3' g3 => ?_)
          have S := s1.trans (s2.trans s3')
          have eD3 := S _ _ eD
          have tu := tk_upd (o := .lst (fs ++ [.ref p3])) eD3
          have hvl := hv.1
          rw [List.length_take, List.length_map] at hvl
          refine ⟨_, eD3, small1000 (by omega), (kJ.trans S.kp).trans kp_upd, tJ.trans (S.tk.trans tu), _, upd_same, ?_⟩
          rw [List.take_succ, List.getElem?_map, ept]
          exact spl_one (hv.tk (S.tk.trans tu)) (g3.tk tu)
        rintro J ⟨kJ, tJ, fs, eD, hv⟩
        rw [List.take_of_length_le (by rw [List.length_map]; omega)] at hv
        have hfl := hv.1
        rw [List.length_map] at hfl
        have sJ := same_of_kp kJ hD
        have KU := KU.trans sJ.kp
        have TU := TU.trans sJ.tk
        have rowJ := rowG.mono sJ
        try walk_at "vc"
        refine len_l eD ?_
        refine u_law_take rowJ (by omega) (by omega) (by show _ < 1606938044258990275541962092341162602522202993782792835301376; omega) (fun at1 J4 a3' b3' rowK k4 t4 => ?_)
        have ef3 := k4 _ _ eD nDr
        try walk_at "vc"
        refine ⟨_, SqL.of ef3, fun p1 hp1 => ?_⟩
        have s1 := same_upd (o := .lst (cutV fs (some at1) none)) hp1
        refine ⟨_, SqL.of (s1 _ _ ef3), fun p2 hp2 => ?_⟩
        have s2 := same_upd (o := .lst (cutV fs none (some at1))) hp2
        have hk : at1.toNat < cps.length := by omega
        have c1 : cutV fs (some at1) none = fs.drop at1.toNat := cut_drop a3' (by omega)
        have c2' : cutV fs none (some at1) = fs.take at1.toNat := cut_take a3' (by omega)
        have E1 := s2 _ _ (upd_same (H := J4) (a := p1) (o := .lst (cutV fs (some at1) none)))
        have E2 := upd_same (H := upd J4 p1 (.lst (cutV fs (some at1) none))) (a := p2) (o := .lst (cutV fs none (some at1)))
        have S2 := s1.trans s2
        generalize upd (upd J4 p1 (.lst (cutV fs (some at1) none))) p2 (.lst (cutV fs none (some at1))) = H4 at E1 E2 S2 ⊢
        rw [c1] at E1
        rw [c2'] at E2
        clear s1 s2
        refine cat_l E1 E2 (Nat.le_of_lt (small1000 (by rw [List.length_drop, List.length_take]; omega))) (fun p3 hp3 => ?_)
        have s3 := same_upd (o := .lst (fs.drop at1.toNat ++ fs.take at1.toNat)) hp3
        refine ⟨p3, rfl, _, .inl ⟨SqL.of upd_same, fun t ht => ?_⟩⟩
        have s4 := same_upd (o := .tup (fs.drop at1.toNat ++ fs.take at1.toNat)) ht
        have S4 := S2.trans (s3.trans s4)
        have nt : t ≠ r := by
          obtain ⟨_, er⟩ := (rowK.mono (S2.trans s3)).at_
          exact (ne_of_none er ht).symm
        have hsp := hv.tk (t4.trans S4.tk)
        refine k t (rotP (cps.map (shf ee ff)) at1.toNat) _ ⟨_, upd_same, spl_app (spl_drop _ hsp) (spl_take _ hsp)⟩ (inc_fd (inc_rot (inc_shf hinc) (by rw [List.length_map]; exact hk)) (by rw [rotP_len (by rw [List.length_map]; omega), List.length_map]; omega) (by rw [rotP_len (by rw [List.length_map]; omega), List.length_map]; omega)) nt (Row.le (by omega) (rowK.mono S4)) (KU.trans (k4.trans S4.kp)) (TU.trans (t4.trans S4.tk))
      · have hinc := inc4 (a := qa) (b := qb) pa pb (by
          by_cases z : 1 < qa + qb
          · exact z
          · exact absurd (sum_le_one.mpr (Rat.not_lt.mp z)) c3)
        have fA := fa.le (n := 22) (by decide)
        have fB := fb.le (n := 22) (by decide)
        refine newC (c := 0) (by decide) (fun q1 G1 z1 fq1 => ?_)
        replace fA := fA.mono z1
        replace fB := fB.mono z1
        refine newC (c := 0) (by decide) (fun q2 G2 z2 fq2 => ?_)
        replace fA := fA.mono z2
        replace fB := fB.mono z2
        replace fq1 := fq1.mono z2
        refine newS fq1 fq2 (fun q3 G3 z3 gq3 => ?_)
        replace fA := fA.mono z3
        replace fB := fB.mono z3
        replace fq1 := fq1.mono z3
        replace fq2 := fq2.mono z3
        refine newC (c := 1) (by decide) (fun q4 G4 z4 fq4 => ?_)
        replace fA := fA.mono z4
        replace fB := fB.mono z4
        replace gq3 := gq3.tk z4.tk
        refine newC (c := 0) (by decide) (fun q5 G5 z5 fq5 => ?_)
        replace fA := fA.mono z5
        replace fB := fB.mono z5
        replace gq3 := gq3.tk z5.tk
        replace fq4 := fq4.mono z5
        refine newS fq4 fq5 (fun q6 G6 z6 gq6 => ?_)
        replace fA := fA.mono z6
        replace fB := fB.mono z6
        replace gq3 := gq3.tk z6.tk
        replace fq4 := fq4.mono z6
        replace fq5 := fq5.mono z6
        refine newS fA fB (fun q7 G7 z7 gq7 => ?_)
        replace fA := fA.mono z7
        replace fB := fB.mono z7
        replace gq3 := gq3.tk z7.tk
        replace gq6 := gq6.tk z7.tk
        refine newC (c := 0) (by decide) (fun q8 G8 z8 fq8 => ?_)
        replace gq3 := gq3.tk z8.tk
        replace gq6 := gq6.tk z8.tk
        replace gq7 := gq7.tk z8.tk
        refine newC (c := 1) (by decide) (fun q9 G9 z9 fq9 => ?_)
        replace gq3 := gq3.tk z9.tk
        replace gq6 := gq6.tk z9.tk
        replace gq7 := gq7.tk z9.tk
        replace fq8 := fq8.mono z9
        refine newS fq8 fq9 (fun q10 G10 z10 gq10 => ?_)
        replace gq3 := gq3.tk z10.tk
        replace gq6 := gq6.tk z10.tk
        replace gq7 := gq7.tk z10.tk
        replace fq8 := fq8.mono z10
        replace fq9 := fq9.mono z10
        refine newL (Nat.le_of_ble_eq_true rfl) (fun lc U zL nlc elc => ?_)
        replace gq3 := gq3.tk zL.tk
        replace gq6 := gq6.tk zL.tk
        replace gq7 := gq7.tk zL.tk
        replace gq10 := gq10.tk zL.tk
        have ZZ := z1.trans (z2.trans (z3.trans (z4.trans (z5.trans (z6.trans (z7.trans (z8.trans (z9.trans (z10.trans (zL))))))))))
        have rowU := rowV.mono ZZ
        have KU := KV.trans ZZ.kp
        have TU := TV.trans ZZ.tk
        have nlr : lc ≠ r := by
          obtain ⟨_, er⟩ := (rowV.mono (z1.trans (z2.trans (z3.trans (z4.trans (z5.trans (z6.trans (z7.trans (z8.trans (z9.trans (z10))))))))))).at_
          exact (ne_of_none er nlc).symm
        have hcs := spl4 gq3 gq6 gq7 gq10
        have hcl4 : ([(0, 0), (1, 0), (qa, qb), (0, 1)] : List (Rat × Rat)).length = 4 := rfl
        generalize ([(0, 0), (1, 0), (qa, qb), (0, 1)] : List (Rat × Rat)) = cps at hinc hcs hcl4
        generalize ([_, _, _, _] : List V) = cxs at elc hcs
        have hl3 : 3 ≤ cps.length := by omega
        have hl6 : cps.length ≤ 6 := by omega
        try walk_at "vc"
        have f1' : far < 19807040628566084398385987584 := f1
        refine u_law_take rowU (by omega) (by omega) (by show _ < 1606938044258990275541962092341162602522202993782792835301376; omega) (fun te U1 e0 e1 rowE kE tE => ?_)
        try walk_at "vc"
        refine u_law_take rowE (by omega) (by omega) (by show _ < 1606938044258990275541962092341162602522202993782792835301376; omega) (fun tf U2 f0' f1'' rowF kF tF => ?_)
        try walk_at "vc"
        have he : (te - far).natAbs < 2 ^ 94 := by show _ < 19807040628566084398385987584; omega
        have hf : (tf - far).natAbs < 2 ^ 94 := by show _ < 19807040628566084398385987584; omega
        have elc := kF _ _ (kE _ _ elc nlr) nlr
        have hcs := hcs.tk (tE.trans tF)
        have KU := KU.trans (kE.trans kF)
        have TU := TU.trans (tE.trans tF)
        generalize te - far = ee at he ⊢
        generalize tf - far = ff at hf ⊢
        refine newT (Nat.le_of_ble_eq_true rfl) (fun pt U3 s3 npt e3 => ?_)
        refine seq_t e3 rfl ?_
        try walk_at "vc"
        have elc := s3 _ _ elc
        have hcs := hcs.tk s3.tk
        have rowG := rowF.mono s3
        have KU := KU.trans s3.kp
        have TU := TU.trans s3.tk
        have hcl := hcs.1
        refine ⟨⟨_, SqL.of elc⟩, fun D hD => ?_⟩
        have nD : lc ≠ D := ne_of_none elc hD
        have nDr : D ≠ r := by
          obtain ⟨_, er⟩ := rowG.at_
          exact (ne_of_none er hD).symm
        refine lcL (xs := cxs) (fun i J => Kp D U3 J ∧ Tk U3 J ∧ ∃ fs, J D = some (.lst fs) ∧ SpL 120 J fs ((cps.map (shf ee ff)).take i)) ⟨kp_upd, (same_upd hD).tk, [], upd_same, by rw [List.take_zero]; exact ⟨rfl, fun i x e => by cases e⟩⟩ (fun i J _ ⟨kJ, _⟩ => SqL.of (kJ _ _ elc nD)) ?_ ?_
        · rintro i x J hi ⟨kJ, tJ, fs, eD, hv⟩
          obtain ⟨pt, ept, fp⟩ := (hcs.tk tJ).2 i x hi
          refine seq_sp fp (fun vu vv fu fv => ?_)
          try walk_at "vc"
          refine ix_fr0 fu ?_
          refine ix_fr1 fu ?_
          try walk_at "vc"
          refine ⟨mulOk he (den_bd fu.db) (by decide), ?_⟩
          refine ix_fr1 fu ?_
          refine fr_shift fu he (by decide) (fun p1 J1 s1 g1 => ?_)
          have fv1 := fv.mono s1
          refine ix_fr0 fv1 ?_
          refine ix_fr1 fv1 ?_
          try walk_at "vc"
          refine ⟨mulOk hf (den_bd fv1.db) (by decide), ?_⟩
          refine ix_fr1 fv1 ?_
          refine fr_shift fv1 hf (by decide) (fun p2 J2 s2 g2 => ?_)
          refine newS ((g1.mono s2).le (n := 120) (by decide)) (g2.le (n := 120) (by decide)) (fun p3 J3 s3' g3 => ?_)
          have S := s1.trans (s2.trans s3')
          have eD3 := S _ _ eD
          have tu := tk_upd (o := .lst (fs ++ [.ref p3])) eD3
          have hvl := hv.1
          rw [List.length_take, List.length_map] at hvl
          refine ⟨_, eD3, small1000 (by omega), (kJ.trans S.kp).trans kp_upd, tJ.trans (S.tk.trans tu), _, upd_same, ?_⟩
          rw [List.take_succ, List.getElem?_map, ept]
          exact spl_one (hv.tk (S.tk.trans tu)) (g3.tk tu)
        rintro J ⟨kJ, tJ, fs, eD, hv⟩
        rw [List.take_of_length_le (by rw [List.length_map]; omega)] at hv
        have hfl := hv.1
        rw [List.length_map] at hfl
        have sJ := same_of_kp kJ hD
        have KU := KU.trans sJ.kp
        have TU := TU.trans sJ.tk
        have rowJ := rowG.mono sJ
        try walk_at "vc"
        refine len_l eD ?_
        refine u_law_take rowJ (by omega) (by omega) (by show _ < 1606938044258990275541962092341162602522202993782792835301376; omega) (fun at1 J4 a3' b3' rowK k4 t4 => ?_)
        have ef3 := k4 _ _ eD nDr
        try walk_at "vc"
        refine ⟨_, SqL.of ef3, fun p1 hp1 => ?_⟩
        have s1 := same_upd (o := .lst (cutV fs (some at1) none)) hp1
        refine ⟨_, SqL.of (s1 _ _ ef3), fun p2 hp2 => ?_⟩
        have s2 := same_upd (o := .lst (cutV fs none (some at1))) hp2
        have hk : at1.toNat < cps.length := by omega
        have c1 : cutV fs (some at1) none = fs.drop at1.toNat := cut_drop a3' (by omega)
        have c2' : cutV fs none (some at1) = fs.take at1.toNat := cut_take a3' (by omega)
        have E1 := s2 _ _ (upd_same (H := J4) (a := p1) (o := .lst (cutV fs (some at1) none)))
        have E2 := upd_same (H := upd J4 p1 (.lst (cutV fs (some at1) none))) (a := p2) (o := .lst (cutV fs none (some at1)))
        have S2 := s1.trans s2
        generalize upd (upd J4 p1 (.lst (cutV fs (some at1) none))) p2 (.lst (cutV fs none (some at1))) = H4 at E1 E2 S2 ⊢
        rw [c1] at E1
        rw [c2'] at E2
        clear s1 s2
        refine cat_l E1 E2 (Nat.le_of_lt (small1000 (by rw [List.length_drop, List.length_take]; omega))) (fun p3 hp3 => ?_)
        have s3 := same_upd (o := .lst (fs.drop at1.toNat ++ fs.take at1.toNat)) hp3
        refine ⟨p3, rfl, _, .inl ⟨SqL.of upd_same, fun t ht => ?_⟩⟩
        have s4 := same_upd (o := .tup (fs.drop at1.toNat ++ fs.take at1.toNat)) ht
        have S4 := S2.trans (s3.trans s4)
        have nt : t ≠ r := by
          obtain ⟨_, er⟩ := (rowK.mono (S2.trans s3)).at_
          exact (ne_of_none er ht).symm
        have hsp := hv.tk (t4.trans S4.tk)
        refine k t (rotP (cps.map (shf ee ff)) at1.toNat) _ ⟨_, upd_same, spl_app (spl_drop _ hsp) (spl_take _ hsp)⟩ (inc_fd (inc_rot (inc_shf hinc) (by rw [List.length_map]; exact hk)) (by rw [rotP_len (by rw [List.length_map]; omega), List.length_map]; omega) (by rw [rotP_len (by rw [List.length_map]; omega), List.length_map]; omega)) nt (Row.le (by omega) (rowK.mono S4)) (KU.trans (k4.trans S4.kp)) (TU.trans (t4.trans S4.tk))
theorem u_law_wide {r : Addr} {far : Int} {n : Nat} {H : Hp} {Q : VK} {E : XK} (h : Row n H r) (hn : n + 300 ≤ 1000000) (f0 : 0 ≤ far) (f1 : far < 2 ^ 94) (k : ∀ p ps H', Tps 120 H' p ps → fdP ps = true → p ≠ r → Row (n + 20) H' r → Kp r H H' → Tk H H' → Q (.ref p) H') : sp_law_wide [.ref r, .int far] H Q E := ⟨r, far, n, rfl, h, hn, f0, f1, k⟩
def dT (ps : List (Rat × Rat)) : PyData := .tuple (ps.map dS)
theorem spl_dp {K : PySem.W.Frag} {m : Nat} {H : Hp} : ∀ {xs : List V} {ps : List (Rat × Rat)}, SpL m H xs ps → DpAll K H xs (ps.map dS)
  | [], [], _ => .nil
  | [], _ :: _, h => by cases h.1
  | _ :: _, [], h => by cases h.1
  | x :: xs, p :: ps, h => by
    obtain ⟨q, e, hq⟩ := h.2 0 x rfl
    cases e
    exact .cons hq.dp (spl_dp ⟨by have := h.1; simpa using this, fun i y ei => h.2 (i + 1) y ei⟩)
theorem Tps.dp {K : PySem.W.Frag} {m : Nat} {H : Hp} {p : Addr} {ps : List (Rat × Rat)} (h : Tps m H p ps) : Dp K H (.ref p) (dT ps) := by
  obtain ⟨xs, e, hs⟩ := h.ex
  exact .tup (SqT.of e) (spl_dp hs)
theorem pcs_dp {K : PySem.W.Frag} {m : Nat} {H : Hp} : ∀ {xs : List V} {pss : List (List (Rat × Rat))}, Pcs m H xs pss → DpAll K H xs (pss.map dT)
  | [], [], _ => .nil
  | [], _ :: _, h => by cases h.len
  | _ :: _, [], h => by cases h.len
  | x :: xs, p :: ps, h => by
    obtain ⟨q, qs, rfl, e, hq⟩ := h.at_ 0 x rfl
    cases e
    exact .cons hq.dp (pcs_dp ⟨by have := h.len; simpa using this, fun i y ei => h.at_ (i + 1) y ei⟩)
theorem sh_dT (ps : List (Rat × Rat)) : ShN 4 (dT ps) := ShN.tuple fun d hd => by
  obtain ⟨p, _, rfl⟩ := List.mem_map.mp hd
  exact ShN.dS p
theorem sh_dTs (pss : List (List (Rat × Rat))) : ShN 5 (.list (pss.map dT)) := ShN.list fun d hd => by
  obtain ⟨p, _, rfl⟩ := List.mem_map.mp hd
  exact sh_dT p
theorem isi_l {K : PySem.W.Frag} {H : Hp} {Q : VK} {a : Addr} {xs : List V} (e : H a = some (.lst xs)) (k : Q (.bl true) H) : rIsi K [.ref a, .ty "list"] H Q := by
  have : ∃ b, PySem.W.kitOne K (.type "list") (.type "list") = some b ∧ b = true := ⟨true, rfl, rfl⟩
  exact ⟨_, _, _, _, _, rfl, rfl, .lst e, rfl, k⟩
theorem len_cases {ps : List (Rat × Rat)} (h3 : 3 ≤ ps.length) (h6 : ps.length ≤ 6) : (∃ a b c, ps = [a, b, c]) ∨ (∃ a b c d, ps = [a, b, c, d]) ∨ (∃ a b c d e, ps = [a, b, c, d, e]) ∨ (∃ a b c d e f, ps = [a, b, c, d, e, f]) := by
  match ps, h3, h6 with
  | [a, b, c], _, _ => exact .inl ⟨a, b, c, rfl⟩
  | [a, b, c, d], _, _ => exact .inr (.inl ⟨a, b, c, d, rfl⟩)
  | [a, b, c, d, e], _, _ => exact .inr (.inr (.inl ⟨a, b, c, d, e, rfl⟩))
  | [a, b, c, d, e, f], _, _ => exact .inr (.inr (.inr ⟨a, b, c, d, e, f, rfl⟩))
  | [], h, _ => simp at h
  | [_], h, _ => simp at h
  | [_, _], h, _ => simp at h
  | _ :: _ :: _ :: _ :: _ :: _ :: _ :: _, _, h => simp only [List.length_cons] at h; omega
theorem fan_rot {ps : List (Rat × Rat)} {c : Nat} (h3 : 3 ≤ ps.length) (h6 : ps.length ≤ 6) (hc : c < ps.length) : sQ ((fanP (rotP ps c)).map twP) = sQ ((fanP ps).map twP) := by
  rcases len_cases h3 h6 with ⟨p0, p1, p2, rfl⟩ | ⟨p0, p1, p2, p3, rfl⟩ | ⟨p0, p1, p2, p3, p4, rfl⟩ | ⟨p0, p1, p2, p3, p4, p5, rfl⟩
  · have hc : c < 3 := hc
    match c, hc with
    | 0, _ => rfl
    | 1, _ => show tw p1 p2 p0 + 0 = tw p0 p1 p2 + 0; unfold tw; grind
    | 2, _ => show tw p2 p0 p1 + 0 = tw p0 p1 p2 + 0; unfold tw; grind
  · have hc : c < 4 := hc
    match c, hc with
    | 0, _ => rfl
    | 1, _ => show tw p1 p2 p3 + (tw p1 p3 p0 + 0) = tw p0 p1 p2 + (tw p0 p2 p3 + 0); unfold tw; grind
    | 2, _ => show tw p2 p3 p0 + (tw p2 p0 p1 + 0) = tw p0 p1 p2 + (tw p0 p2 p3 + 0); unfold tw; grind
    | 3, _ => show tw p3 p0 p1 + (tw p3 p1 p2 + 0) = tw p0 p1 p2 + (tw p0 p2 p3 + 0); unfold tw; grind
  · have hc : c < 5 := hc
    match c, hc with
    | 0, _ => rfl
    | 1, _ => show tw p1 p2 p3 + (tw p1 p3 p4 + (tw p1 p4 p0 + 0)) = tw p0 p1 p2 + (tw p0 p2 p3 + (tw p0 p3 p4 + 0)); unfold tw; grind
    | 2, _ => show tw p2 p3 p4 + (tw p2 p4 p0 + (tw p2 p0 p1 + 0)) = tw p0 p1 p2 + (tw p0 p2 p3 + (tw p0 p3 p4 + 0)); unfold tw; grind
    | 3, _ => show tw p3 p4 p0 + (tw p3 p0 p1 + (tw p3 p1 p2 + 0)) = tw p0 p1 p2 + (tw p0 p2 p3 + (tw p0 p3 p4 + 0)); unfold tw; grind
    | 4, _ => show tw p4 p0 p1 + (tw p4 p1 p2 + (tw p4 p2 p3 + 0)) = tw p0 p1 p2 + (tw p0 p2 p3 + (tw p0 p3 p4 + 0)); unfold tw; grind
  · have hc : c < 6 := hc
    match c, hc with
    | 0, _ => rfl
    | 1, _ => show tw p1 p2 p3 + (tw p1 p3 p4 + (tw p1 p4 p5 + (tw p1 p5 p0 + 0))) = tw p0 p1 p2 + (tw p0 p2 p3 + (tw p0 p3 p4 + (tw p0 p4 p5 + 0))); unfold tw; grind
    | 2, _ => show tw p2 p3 p4 + (tw p2 p4 p5 + (tw p2 p5 p0 + (tw p2 p0 p1 + 0))) = tw p0 p1 p2 + (tw p0 p2 p3 + (tw p0 p3 p4 + (tw p0 p4 p5 + 0))); unfold tw; grind
    | 3, _ => show tw p3 p4 p5 + (tw p3 p5 p0 + (tw p3 p0 p1 + (tw p3 p1 p2 + 0))) = tw p0 p1 p2 + (tw p0 p2 p3 + (tw p0 p3 p4 + (tw p0 p4 p5 + 0))); unfold tw; grind
    | 4, _ => show tw p4 p5 p0 + (tw p4 p0 p1 + (tw p4 p1 p2 + (tw p4 p2 p3 + 0))) = tw p0 p1 p2 + (tw p0 p2 p3 + (tw p0 p3 p4 + (tw p0 p4 p5 + 0))); unfold tw; grind
    | 5, _ => show tw p5 p0 p1 + (tw p5 p1 p2 + (tw p5 p2 p3 + (tw p5 p3 p4 + 0))) = tw p0 p1 p2 + (tw p0 p2 p3 + (tw p0 p3 p4 + (tw p0 p4 p5 + 0))); unfold tw; grind
/-- a fraction of the list is its share times one and the same fraction -/
theorem sh_q {qs : List Rat} (hp : ∀ q ∈ qs, 0 < q) : ∃ g : Rat, 0 < g ∧ ∀ (i : Nat) q, qs[i]? = some q → ∃ s : Int, (shL qs)[i]? = some s ∧ q = (s : Rat) * g := by
  have hL : 0 < lcmL (qs.map (·.den)) := lcmL_pos (by decide) fun d hd => by
    obtain ⟨q', _, rfl⟩ := List.mem_map.mp hd
    exact q'.den_pos
  by_cases hne : qs = []
  · subst hne
    exact ⟨1, by decide, fun i q e => by cases e⟩
  obtain ⟨q0, hq0⟩ := List.exists_mem_of_ne_nil qs hne
  have hG : 0 < gcdL (topsL qs) := by
    have ht : q0.num * ((lcmL (qs.map (·.den)) / q0.den : Nat) : Int) ∈ topsL qs := List.mem_map.mpr ⟨q0, hq0, rfl⟩
    have := tops_pos hp ht
    exact Nat.pos_of_dvd_of_pos (gcdL_mem ht) (by omega)
  have hL' : (0 : Rat) < ((lcmL (qs.map (·.den)) : Nat) : Rat) := by exact_mod_cast hL
  have hG' : (0 : Rat) < ((gcdL (topsL qs) : Nat) : Rat) := by exact_mod_cast hG
  have hLi : 0 < ((lcmL (qs.map (·.den)) : Nat) : Rat)⁻¹ := by
    have h1 := Rat.mul_inv_cancel _ (by grind : ((lcmL (qs.map (·.den)) : Nat) : Rat) ≠ 0)
    by_cases z : 0 < ((lcmL (qs.map (·.den)) : Nat) : Rat)⁻¹
    · exact z
    · have := Rat.mul_nonneg (a := ((lcmL (qs.map (·.den)) : Nat) : Rat)) (b := -((lcmL (qs.map (·.den)) : Nat) : Rat)⁻¹) (Rat.le_of_lt hL') (by grind)
      grind
  refine ⟨((gcdL (topsL qs) : Nat) : Rat) * ((lcmL (qs.map (·.den)) : Nat) : Rat)⁻¹, Rat.mul_pos hG' hLi, fun i q e => ?_⟩
  have ht : q.num * ((lcmL (qs.map (·.den)) / q.den : Nat) : Int) ∈ topsL qs := List.mem_map.mpr ⟨q, List.mem_of_getElem? e, rfl⟩
  refine ⟨q.num * ((lcmL (qs.map (·.den)) / q.den : Nat) : Int) / ((gcdL (topsL qs) : Nat) : Int), ?_, ?_⟩
  · have e1 : (topsL qs)[i]? = some (q.num * ((lcmL (qs.map (·.den)) / q.den : Nat) : Int)) := by
      show (qs.map _)[i]? = _
      rw [List.getElem?_map, e]; rfl
    show ((topsL qs).map _)[i]? = _
    rw [List.getElem?_map, e1]; rfl
  · have hd := gcdL_mem ht
    have hdv : q.den ∣ lcmL (qs.map (·.den)) := lcmL_dvd.2 _ (List.mem_map.mpr ⟨q, List.mem_of_getElem? e, rfl⟩)
    generalize hT : q.num * ((lcmL (qs.map (·.den)) / q.den : Nat) : Int) = T at *
    have h1 : T / ((gcdL (topsL qs) : Nat) : Int) * ((gcdL (topsL qs) : Nat) : Int) = T := Int.ediv_mul_cancel (Int.ofNat_dvd_left.mpr hd)
    have h2 : (T : Rat) = q * ((lcmL (qs.map (·.den)) : Nat) : Rat) := by
      rw [← hT, Rat.intCast_mul, num_q q]
      obtain ⟨z, hz⟩ := hdv
      rw [hz, Nat.mul_div_cancel_left _ q.den_pos]
      have : ((q.den * z : Nat) : Rat) = (q.den : Rat) * (z : Rat) := by exact_mod_cast rfl
      rw [this]
      have e3 : (((z : Nat) : Int) : Rat) = (z : Rat) := rfl
      rw [e3]
      grind
    have h3 : (((T / ((gcdL (topsL qs) : Nat) : Int) : Int)) : Rat) * ((gcdL (topsL qs) : Nat) : Rat) = (T : Rat) := by
      have h9 : ((T / ((gcdL (topsL qs) : Nat) : Int) * ((gcdL (topsL qs) : Nat) : Int) : Int) : Rat) = (T : Rat) := by rw [h1]
      rw [Rat.intCast_mul] at h9
      exact h9
    have h4 := Rat.mul_inv_cancel _ (by grind : ((lcmL (qs.map (·.den)) : Nat) : Rat) ≠ 0)
    grind

theorem sum_sh {g : Rat} : ∀ {qs : List Rat} {ss : List Int}, ss.length = qs.length → (∀ (i : Nat) q, qs[i]? = some q → ∃ s : Int, ss[i]? = some s ∧ q = (s : Rat) * g) → sQ qs = ((ss.sum : Int) : Rat) * g
  | [], [], _, _ => by show (0 : Rat) = ((0 : Int) : Rat) * g; have e : ((0 : Int) : Rat) = 0 := rfl; rw [e]; grind
  | [], _ :: _, h, _ => by cases h
  | _ :: _, [], h, _ => by cases h
  | q :: qs, s :: ss, hl, h => by
    obtain ⟨s', e, hq⟩ := h 0 q rfl
    cases e
    have ih := sum_sh (qs := qs) (ss := ss) (by simpa using hl) fun i q' e => h (i + 1) q' e
    show q + sQ qs = _
    rw [ih, hq, List.sum_cons, Rat.intCast_add]
    grind
theorem wy_tw {h a b : Rat × Rat} {n k : Nat} (hn : n ≠ 0) : tw h (wy a b n k) (wy a b n (k + 1)) * ((n : Int) : Rat) = tw h a b := by
  have h0 : ((n : Int) : Rat) ≠ 0 := fun z => hn (Int.ofNat_eq_zero.mp (by exact_mod_cast z))
  have h1 := Rat.mul_inv_cancel _ h0
  have e1 : Rat.divInt (k : Int) (n : Int) = ((k : Int) : Rat) * ((n : Int) : Rat)⁻¹ := by rw [Rat.divInt_eq_div, Rat.div_def]
  have e2 : Rat.divInt ((k + 1 : Nat) : Int) (n : Int) = (((k : Int) : Rat) + 1) * ((n : Int) : Rat)⁻¹ := by
    rw [Rat.divInt_eq_div, Rat.div_def]
    have : (((k + 1 : Nat) : Int) : Rat) = ((k : Int) : Rat) + 1 := by
      have e : ((k + 1 : Nat) : Int) = (k : Int) + 1 := by omega
      rw [e, Rat.intCast_add]
      rfl
    rw [this]
  unfold wy onW tw
  rw [e1, e2]
  grind
theorem fcut_mem {pss : List (List (Rat × Rat))} {ss : List Int} {t : Int} {ps : List (Rat × Rat)} (h : ps ∈ fcut pss ss t) : ∃ (i : Nat) (qs : List (Rat × Rat)) (s : Int), pss[i]? = some qs ∧ ss[i]? = some s ∧ ps ∈ cutE (s * t).toNat qs := by
  unfold fcut at h
  obtain ⟨l, hl, hp⟩ := List.mem_flatten.mp h
  obtain ⟨i, hi⟩ := List.getElem?_of_mem hl
  rw [List.getElem?_zipWith] at hi
  cases e1 : pss[i]? with
  | none => rw [e1] at hi; simp at hi
  | some qs =>
    cases e2 : ss[i]? with
    | none => rw [e1, e2] at hi; simp at hi
    | some s =>
      rw [e1, e2] at hi
      simp only [Option.some.injEq] at hi
      subst hi
      exact ⟨i, qs, s, e1, e2, hp⟩
theorem fcut_len {t : Int} (ht : 0 < t) : ∀ {pss : List (List (Rat × Rat))} {ss : List Int}, ss.length = pss.length → (∀ ps ∈ pss, ps.length = 3) → (∀ s ∈ ss, 0 < s) → ((fcut pss ss t).length : Int) = ss.sum * t
  | [], [], _, _, _ => by show ((0 : Nat) : Int) = 0 * t; omega
  | [], _ :: _, h, _, _ => by cases h
  | _ :: _, [], h, _, _ => by cases h
  | ps :: pss, s :: ss, hl, h3, hs => by
    have ih := fcut_len ht (pss := pss) (ss := ss) (by simpa using hl) (fun p hp => h3 p (List.mem_cons_of_mem _ hp)) (fun x hx => hs x (List.mem_cons_of_mem _ hx))
    have e : fcut (ps :: pss) (s :: ss) t = cutE (s * t).toNat ps ++ fcut pss ss t := rfl
    have h3' := h3 ps List.mem_cons_self
    have s0 := hs s List.mem_cons_self
    have st := Int.mul_pos s0 ht
    rw [e, List.length_append, List.sum_cons, Int.add_mul]
    match ps, h3' with
    | [a, b, c], _ =>
      have : (cutE (s * t).toNat [a, b, c]).length = (s * t).toNat := by unfold cutE; rw [List.length_map, List.length_range]
      rw [this]
      omega
theorem fcut_part {pss : List (List (Rat × Rat))} {t : Int} (ht : 0 < t) (hp : ∀ ps ∈ pss, ps.length = 3 ∧ 0 < twP ps) {ps : List (Rat × Rat)} (h : ps ∈ fcut pss (shL (pss.map twP)) t) : twP ps = sQ (pss.map twP) / (((shL (pss.map twP)).sum * t : Int) : Rat) := by
  have hq : ∀ q ∈ pss.map twP, 0 < q := fun q hq => by
    obtain ⟨x, hx, rfl⟩ := List.mem_map.mp hq
    exact (hp x hx).2
  obtain ⟨g, g0, hg⟩ := sh_q hq
  have hsum := sum_sh (shL_len (qs := pss.map twP)) hg
  obtain ⟨i, qs, s, e1, e2, hm⟩ := fcut_mem h
  obtain ⟨s', e3, hqs⟩ := hg i (twP qs) (by rw [List.getElem?_map, e1]; rfl)
  rw [e2] at e3
  cases e3
  have s0 := shL_pos hq s (List.mem_of_getElem? e2)
  have st := Int.mul_pos s0 ht
  obtain ⟨q3, _⟩ := hp qs (List.mem_of_getElem? e1)
  have hS := sum_ge (shL_pos hq)
  have hSp : 0 < (shL (pss.map twP)).sum := by have := hS.2 s (List.mem_of_getElem? e2); omega
  have hStp := Int.mul_pos hSp ht
  match qs, q3, hm, hqs with
  | [ha, hb, hc], _, hm, hqs =>
    unfold cutE at hm
    obtain ⟨k, hk, rfl⟩ := List.mem_map.mp hm
    have hw := wy_tw (h := ha) (a := hb) (b := hc) (n := (s * t).toNat) (k := k) (by omega)
    have en : (((s * t).toNat : Nat) : Int) = s * t := by omega
    rw [en] at hw
    show tw ha _ _ = _
    have hqs : tw ha hb hc = (s : Rat) * g := hqs
    rw [hqs] at hw
    generalize tw ha (wy hb hc (s * t).toNat k) (wy hb hc (s * t).toNat (k + 1)) = X at hw
    rw [hsum, Rat.div_def]
    have h1 : (((shL (pss.map twP)).sum * t : Int) : Rat) ≠ 0 := fun z => by
      have : (shL (pss.map twP)).sum * t = 0 := by exact_mod_cast z
      omega
    have h2 := Rat.mul_inv_cancel _ h1
    have h3 : ((s * t : Int) : Rat) ≠ 0 := fun z => by
      have : s * t = 0 := by exact_mod_cast z
      omega
    rw [Rat.intCast_mul] at h1 h2 h3 hw ⊢
    have hs' : (s : Rat) ≠ 0 := fun z => by
      have : s = 0 := by exact_mod_cast z
      omega
    have hX : X * (t : Rat) = g := by
      have h4 := Rat.mul_inv_cancel _ hs'
      grind
    rw [← hX]
    grind

abbrev s_law_right : Stmt := top 72
theorem sc_law_right : FnScope ["_law_row", "_law_field_here", "_law_c", "_law_shares_here", "_law_times", "_law_due_here", "_law_found", "_law_part", "_law_one", "_law_other", "_law_third", "_law_top", "_law_bottom", "_law_many", "_law_wrong"] ["_law_row", "_law_field_here", "_law_c"] (defScope s_law_right) := ⟨rfl, rfl, rfl, by decide +kernel, rfl, by decide +kernel, by decide +kernel⟩
theorem rpAll_spl {m : Nat} {r : Addr} {zs : List V} {H : Hp} (hr : H r = some (.lst zs)) : ∀ {xs : List V} {ps : List (Rat × Rat)}, SpL m H xs ps → RpAll r H xs (ps.map dS)
  | [], [], _ => .nil
  | [], _ :: _, h => by cases h.1
  | _ :: _, [], h => by cases h.1
  | x :: xs, p :: ps, h => by
    obtain ⟨q, e, hq⟩ := h.2 0 x rfl
    cases e
    exact .cons (hq.rp hr) (rpAll_spl hr ⟨by have := h.1; simpa using this, fun i y ei => h.2 (i + 1) y ei⟩)
theorem Tps.rp {m : Nat} {r p : Addr} {zs : List V} {H : Hp} {ps : List (Rat × Rat)} (hr : H r = some (.lst zs)) (h : Tps m H p ps) : Rp r H (.ref p) (.tuple (ps.map dS)) := by
  obtain ⟨xs, e, hs⟩ := h.ex
  have n : p ≠ r := fun z => by rw [z, hr] at e; cases e
  exact .tup e n (rpAll_spl hr hs)
theorem spB_dS {p : Rat × Rat} : spB (dS p) = true := by
  show (frB (dF p.1) && frB (dF p.2)) = true
  rw [frB_dF, frB_dF]; rfl
theorem toS_dS (p : Rat × Rat) : toS (dS p) = p := by
  have h := spB_eq (d := dS p) (spB_dS)
  have e : PyData.eqv (dS p) (dS (toS (dS p))) = true := by rw [← h]; exact SeqAt.eqv_refl _ (SeqAt.canLay_of_shaped (dS_sh p))
  rw [dS_eqv, decide_eq_true_eq] at e
  exact e.symm
theorem psOf_dS (ps : List (Rat × Rat)) : psOf (.tuple (ps.map dS)) = ps := by
  show (ps.map dS).map toS = ps
  rw [List.map_map]
  have : (toS ∘ dS) = id := funext toS_dS
  rw [this, List.map_id]
theorem fdB_dS {ps : List (Rat × Rat)} (h : fdP ps = true) : fdB (.tuple (ps.map dS)) = true := by
  have e : fdB (.tuple (ps.map dS)) = (decide (3 ≤ (ps.map dS).length) && decide ((ps.map dS).length ≤ 6) && (ps.map dS).all spB && (List.range (ps.map dS).length).all (olB ((ps.map dS).map toS))) := rfl
  have e2 : (ps.map dS).map toS = ps := psOf_dS ps
  have e3 : (ps.map dS).all spB = true := by
    rw [List.all_map]
    exact List.all_eq_true.mpr fun p _ => spB_dS
  rw [e, e2, e3, List.length_map]
  unfold fdP at h
  simpa using h
theorem bd_dS {m : Nat} {H : Hp} : ∀ {xs : List V} {ps : List (Rat × Rat)}, SpL m H xs ps → bdDs m (ps.map dS)
  | [], [], _ => trivial
  | [], _ :: _, h => by cases h.1
  | _ :: _, [], h => by cases h.1
  | x :: xs, p :: ps, h => by
    obtain ⟨q, e, hq⟩ := h.2 0 x rfl
    cases e
    exact ⟨bdD_dS hq (Nat.le_refl _), bd_dS (xs := xs) ⟨by have := h.1; simpa using this, fun i y ei => h.2 (i + 1) y ei⟩⟩
theorem u_fan_cut {tbs : List Addr} {ca cb : Addr} {p : Addr} {ps : List (Rat × Rat)} {c m : Nat} {i : Int} {r : Addr} {zs : List V} {H : Hp} {Q : VK} {E : XK} (hr : H r = some (.lst zs)) (hp : Tps m H p ps) (hm : m ≤ 120) (hF : fdP ps = true) (hc : c < ps.length) (hT : Tbs tbs H) (hmk : mkB (shF ps c).sum (.int i) = true)
  (k : ∀ q xs H', Same H H' → H q = none → H' q = some (.lst xs) → Pcs (3 * m + 7) H' xs (fcut (fanP (rotP ps c)) (shF ps c) (i / (shF ps c).sum)) → Q (.ref q) H') : sp_fan_cut tbs ca cb [.ref p, .int c, .int i] H Q E := by
  refine ⟨.ref p, .int c, .int i, .tuple (ps.map dS), .int c, .int i, r, m, rfl, hp.rp hr, ?_, hm, .int _, .int _, hT, fun z => ?_, fun _ z => ?_, fun _ c' ec hcl i' ei hk => ?_⟩
  · obtain ⟨xs, e, hs⟩ := hp.ex
    exact bd_dS hs
  · rw [fdB_dS hF] at z; cases z
  · rw [psOf_dS] at z
    have := z (by show (decide (0 ≤ (c : Int)) && decide ((c : Int) < (ps.length : Int))) = true; rw [decide_eq_true (by omega), decide_eq_true (by omega)]; rfl) c rfl
    rw [hmk] at this
    cases this
  · rw [psOf_dS]
    injection ec with ec
    have e1 : c' = c := by omega
    injection ei with ei
    subst ei
    rw [e1]
    exact k
theorem asked_way {tbs : List Addr} {ca cb : Addr} {p : Addr} {ps : List (Rat × Rat)} {c m : Nat} {i : Int} {r : Addr} {zs : List V} {H : Hp} (hr : H r = some (.lst zs)) (hp : Tps m H p ps) (hm : m ≤ 120) (hF : fdP ps = true) (hc : c < ps.length) (hT : Tbs tbs H) (hmk : mkB (shF ps c).sum (.int i) = false) :
    Asked (sp_fan_cut tbs ca cb) [.ref p, .int c, .int i] H (fun _ _ => False) (fun C x H' => C = cb ∧ Same H H' ∧ IsExc H' x cb) := by
  intro Q2 E2 hq he
  refine ⟨.ref p, .int c, .int i, .tuple (ps.map dS), .int c, .int i, r, m, rfl, hp.rp hr, ?_, hm, .int _, .int _, hT, fun z => ?_, fun _ _ H' x s ex => he _ _ _ ⟨rfl, s, ex⟩, fun _ c' ec hcl i' ei hk => ?_⟩
  · obtain ⟨xs, e, hs⟩ := hp.ex
    exact bd_dS hs
  · rw [fdB_dS hF] at z; cases z
  · rw [psOf_dS] at hk
    injection ec with ec
    have e1 : c' = c := by omega
    rw [e1, hmk] at hk
    cases hk
theorem ne_words {K : PySem.W.Frag} {H : Hp} {Q : VK} {a b : Addr} {x y : Str} (ea : H a = some (.tup [.str x, .str y])) (eb : H b = some (.tup [.str x, .str y])) (hs : SeqAt.shaped (.tuple [.str x, .str y]) = true) (k : Q (.bl false) H) : rNeA K (.ref a) (.ref b) H Q :=
  ne_same (.tup (SqT.of ea) (.cons (.str _) (.cons (.str _) .nil))) (.tup (SqT.of eb) (.cons (.str _) (.cons (.str _) .nil))) hs k
theorem sum_bd7 {ns : List Int} (hl : ns.length ≤ 4) (h : ∀ n ∈ ns, n.natAbs < 2 ^ 6971) : ns.sum.natAbs < 2 ^ 6980 := by
  have h1 := sum_bd h
  have h2 : ns.length * 2 ^ 6971 ≤ 4 * 2 ^ 6971 := Nat.mul_le_mul_right _ hl
  have h3 : 4 * 2 ^ 6971 < 2 ^ 6980 := by
    rw [show (6980 : Nat) = 6971 + 9 from rfl, Nat.pow_add]
    have : 0 < 2 ^ 6971 := Nat.pow_pos (by decide)
    omega
  omega
def sp_law_right (tbs : List Addr) : Sp := fun vs H Q _ => ∃ (r p : Addr) (ps : List (Rat × Rat)) (c n : Nat), vs = [.ref r, .ref p, .int c] ∧ Row n H r ∧ n + 300 ≤ 1000000 ∧ Tps 120 H p ps ∧ fdP ps = true ∧ c < ps.length ∧ Tbs tbs H ∧ ∀ H', Row (n + 5) H' r → Kp r H H' → Tk H H' → Tbs tbs H' → Q (.bl true) H'

set_option maxHeartbeats 4000000 in
theorem ok_law_right {f : Addr} {fd : FuncData} (F : Fun K "_law_right" "_law_right" s_law_right f fd) (m : mg "_law_right" = some (.ref f)) (b : Binds K fd ["_law_row", "_law_field_here", "_law_c"] []) (z_max : mg "max" = none) (z_sum : mg "sum" = none) (z_len : mg "len" = none) (z_isinstance : mg "isinstance" = none) (z_list : mg "list" = none) (C_law_shares : Cal P w K mg base 3 "_law_shares" ["_law_field_here", "_law_c"] sp_law_shares) (C_law_take : Cal P w K mg base 1 "_law_take" ["_law_row", "_law_base"] sp_law_take) (C_law_due : Cal P w K mg base 3 "_law_due" ["_law_field_here", "_law_c", "_law_shares_here", "_law_times"] sp_law_due) (C_fan_cut : Cal2 P w K mg base 9 "fan_cut" ["field", "c", "many"] (sp_fan_cut tbs c_NoField c_NoWay)) (C_law_over : Cal P w K mg base 2 "_law_over" ["_law_one", "_law_other"] sp_law_over) (C_law_whole_of : Cal P w K mg base 3 "_law_whole_of" ["_law_corners"] sp_law_whole_of) (C_law_twice : Cal P w K mg base 2 "_law_twice" ["_law_one", "_law_other", "_law_third"] sp_law_twice) (C_law_said : Cal P w K mg base 14 "_law_said" ["_law_ask", "_law_parts"] (sp_law_said P w K mg base [c_NoNumber, c_NoPrime, c_NoField, c_NoCutting, c_NoLine, c_NoFrame, c_NoDoor, c_NoPaper, c_NoAreas, c_NoWay, c_NoSpot, c_NoMove, c_NoBend, c_TooMany, c_NoText, c_NoRow, c_NoName])) (C_law_lowest : Cal P w K mg base 1 "_law_lowest" ["_law_top", "_law_bottom"] sp_law_lowest) (ga_fan_cut : mg "fan_cut" = some (.ref a_fan_cut)) : Cal P w K mg base 15 "_law_right" ["_law_row", "_law_field_here", "_law_c"] (sp_law_right tbs) := by
  refine cal_ofW F sc_law_right m b (fun vs H Q E h => ?_) (fun cdv A outer s H vs Q E hr h => ?_)
  · obtain ⟨r, p, ps, c, n, rfl, _⟩ := h
    rfl
  · obtain ⟨r, p, ps, c, n, rfl, row, hn, hp, hF, hc, hT, k⟩ := h
    refine ⟨_, (wss_cons ⟨(ps_set (i := 3) sc_law_right.nd rfl (by first | exact Or.inl rfl | exact Or.inr rfl) (pe_callC C_law_shares hr (by decide) (by rfl) (pa_cons (pv 1) (pa_cons (pv 2) pa_nil se_Name) se_Name) (by decide) se_Name (se_any rfl)))⟩
        (wss_cons ⟨(ps_set (i := 4) sc_law_right.nd rfl (by first | exact Or.inl rfl | exact Or.inr rfl) (pe_op op_addA pe_int (pe_callC C_law_take hr (by decide) (by rfl) (pa_cons (pv 0) (pa_cons (pe_callB (call_max2 rfl) (by rfl) z_max bt_max (pa_cons pe_int (pa_cons (pe_op op_fdivB pe_int (pe_callB (cr_sum rfl) (by rfl) z_sum bt_sum (pa_cons (pv 3) pa_nil se_Name))) pa_nil se_BinOp) se_Constant)) pa_nil se_Call) se_Name) (by decide) se_Name (se_any rfl))))⟩
        (wss_cons (ws_if (pt_cmpR op_le (pe_op op_mulB (pe_callB (cr_sum rfl) (by rfl) z_sum bt_sum (pa_cons (pv 3) pa_nil se_Name)) (pv 4)) pe_int (nomark _)) (wss_cons ⟨(ps_set (i := 5) sc_law_right.nd rfl (by first | exact Or.inl rfl | exact Or.inr rfl) (pe_callC C_law_due hr (by decide) (by rfl) (pa_cons (pv 1) (pa_cons (pv 2) (pa_cons (pv 3) (pa_cons (pv 4) pa_nil se_Name) se_Name) se_Name) se_Name) (by decide) se_Name (se_any rfl)))⟩
        (wss_cons ⟨(ps_set (i := 6) sc_law_right.nd rfl (by first | exact Or.inl rfl | exact Or.inr rfl) (pe_callN2 C_fan_cut hr (by decide) (by rfl) (pa_cons (pv 1) (pa_cons (pv 2) (pa_cons (pe_callB call_lenA (by rfl) z_len bt_len (pa_cons (pv 5) pa_nil se_Name)) pa_nil se_Call) se_Name) se_Name) (by decide) se_Name (se_any rfl)))⟩
        (wss_cons (ws_if (PW.pt (pw_or (pt_not (pt_val (pe_callB call_isi (by rfl) z_isinstance bt_isinstance (pa_cons (pv 6) (pa_cons (pe_bltn (v := .ty "list") (by rfl) z_list bt_list rfl) pa_nil se_Name) se_Name)))) (pw_or1 (pt_cmpR (op_neA hr.units) (pv 6) (pv 5) (nomark _))))) (wss_one ⟨(ps_ret pe_bl)⟩) wss_nil)
        (wss_cons ⟨(ps_set (i := 7) sc_law_right.nd rfl (by first | exact Or.inl rfl | exact Or.inr rfl) (pe_callC C_law_over hr (by decide) (by rfl) (pa_cons (pe_callC C_law_whole_of hr (by decide) (by rfl) (pa_cons (pv 1) pa_nil se_Name) (by decide) se_Name (se_any rfl)) (pa_cons (pe_tup (pa_cons (pe_callB call_lenA (by rfl) z_len bt_len (pa_cons (pv 5) pa_nil se_Name)) (pa_cons pe_int pa_nil se_Constant) se_Call)) pa_nil se_Tuple) se_Call) (by decide) se_Call (se_any rfl)))⟩
        (wss_cons (ws_for PassesOwn.never rfl ⟨(pi_list (pv 6))⟩ (pg_seq (n := 3) (by rfl) (pgs_cons (pg_name (i := 8) sc_law_right.nd rfl (by first | exact Or.inl rfl | exact Or.inr rfl)) (pgs_cons (pg_name (i := 9) sc_law_right.nd rfl (by first | exact Or.inl rfl | exact Or.inr rfl)) (pgs_cons (pg_name (i := 10) sc_law_right.nd rfl (by first | exact Or.inl rfl | exact Or.inr rfl)) pgs_nil)))) (wss_cons ⟨(ps_asg (pe_callC C_law_twice hr (by decide) (by rfl) (pa_cons (pv 8) (pa_cons (pv 9) (pa_cons (pv 10) pa_nil se_Name) se_Name) se_Name) (by decide) se_Name (se_any rfl)) (pg_seq (n := 2) (by rfl) (pgs_cons (pg_name (i := 11) sc_law_right.nd rfl (by first | exact Or.inl rfl | exact Or.inr rfl)) (pgs_cons (pg_name (i := 12) sc_law_right.nd rfl (by first | exact Or.inl rfl | exact Or.inr rfl)) pgs_nil))))⟩
        (wss_one (ws_if (pt_cmpR (op_neA hr.units) (pe_callC C_law_lowest hr (by decide) (by rfl) (pa_cons (pv 11) (pa_cons (pv 12) pa_nil se_Name) se_Name) (by decide) se_Name (se_any rfl)) (pv 7) (nomark _)) (wss_one ⟨(ps_ret pe_bl)⟩) wss_nil))))
        (wss_cons ⟨(ps_expr (pe_bm PySem.F.plainAttrs_list PySem.F.slot_list_append PySem.F.type_list_append mt_append (pv 6) (pa_cons pe_non pa_nil se_Constant)))⟩
        (wss_one (ws_if (pt_cmpR (op_neA hr.units) (pe_callN2 C_fan_cut hr (by decide) (by rfl) (pa_cons (pv 1) (pa_cons (pv 2) (pa_cons (pe_callB call_lenA (by rfl) z_len bt_len (pa_cons (pv 5) pa_nil se_Name)) pa_nil se_Call) se_Name) se_Name) (by decide) se_Name (se_any rfl)) (pv 5) (nomark _)) (wss_one ⟨(ps_ret pe_bl)⟩) wss_nil)))))))) wss_nil)
        (wss_cons ⟨(ps_set (i := 13) sc_law_right.nd rfl (by first | exact Or.inl rfl | exact Or.inr rfl) (pe_op op_sub (pe_callC C_law_take hr (by decide) (by rfl) (pa_cons (pv 0) (pa_cons pe_int pa_nil se_Constant) se_Name) (by decide) se_Name (se_any rfl)) pe_int))⟩
        (wss_cons (ws_if (PW.pt (pw_or (pt_cmpR op_gt (pe_op op_modN (pv 13) (pe_callB (cr_sum rfl) (by rfl) z_sum bt_sum (pa_cons (pv 3) pa_nil se_Name))) pe_int (nomark _)) (pw_or (pt_cmpR op_lt (pv 13) pe_int (nomark _)) (pw_or1 (pt_cmpR op_gt (pv 13) pe_int (nomark _)))))) (wss_one (ws_if (pt_cmpR (op_neA hr.units) (pe_callC C_law_said hr (by decide) (by rfl) (pa_cons (pe_glob (v := .ref a_fan_cut) (by rfl) ga_fan_cut rfl) (pa_cons (pe_lst (pa_cons (pv 1) (pa_cons (pv 2) (pa_cons (pv 13) pa_nil se_Name) se_Name) se_Name)) pa_nil se_List) se_Name) (by decide) se_Name (se_any rfl)) (pe_tup (pa_cons pe_str (pa_cons pe_str pa_nil se_Constant) se_Constant)) (nomark _)) (wss_one ⟨(ps_ret pe_bl)⟩) wss_nil)) wss_nil)
        (wss_cons (ws_for PassesOwn.never rfl (wi_list (we_lst (wa_cons ⟨pe_int⟩ (wa_cons ⟨(pe_op op_sub pe_int (pe_callB (cr_sum rfl) (by rfl) z_sum bt_sum (pa_cons (pv 3) pa_nil se_Name)))⟩ (wa_cons ⟨(pe_op op_mulB (pe_callB (cr_sum rfl) (by rfl) z_sum bt_sum (pa_cons (pv 3) pa_nil se_Name)) pe_int)⟩ wa_nil rfl) rfl) rfl))) (pg_name (i := 14) sc_law_right.nd rfl (by first | exact Or.inl rfl | exact Or.inr rfl)) (wss_one (ws_if (pt_cmpR (op_neA hr.units) (pe_callC C_law_said hr (by decide) (by rfl) (pa_cons (pe_glob (v := .ref a_fan_cut) (by rfl) ga_fan_cut rfl) (pa_cons (pe_lst (pa_cons (pv 1) (pa_cons (pv 2) (pa_cons (pv 14) pa_nil se_Name) se_Name) se_Name)) pa_nil se_List) se_Name) (by decide) se_Name (se_any rfl)) (pe_tup (pa_cons pe_str (pa_cons pe_str pa_nil se_Constant) se_Constant)) (nomark _)) (wss_one ⟨(ps_ret pe_bl)⟩) wss_nil)))
        (wss_one ⟨(ps_ret pe_bl)⟩))))))), ?_⟩
    have e : start ["_law_row", "_law_field_here", "_law_c", "_law_shares_here", "_law_times", "_law_due_here", "_law_found", "_law_part", "_law_one", "_law_other", "_law_third", "_law_top", "_law_bottom", "_law_many", "_law_wrong"] [V.ref r, V.ref p, V.int c] = [some (.ref r), some (.ref p), some (.int c), none, none, none, none, none, none, none, none, none, none, none, none] := rfl
    rw [e]
    obtain ⟨h3, h6, _⟩ := fdP_parts hF
    have hpos := fan_pos hF hc
    have hl := rotP_len (ps := ps) (c := c) (by omega)
    have hfl : (fanP (rotP ps c)).length = ps.length - 2 := by unfold fanP; rw [List.length_map, List.length_range, hl]
    have hsp : ∀ s ∈ shF ps c, 0 < s := shL_pos fun q hq => by
      obtain ⟨qs, hq', rfl⟩ := List.mem_map.mp hq
      exact (hpos qs hq').2
    have hsl : (shF ps c).length = ps.length - 2 := by unfold shF; rw [shL_len, List.length_map, hfl]
    obtain ⟨su1, su2⟩ := sum_ge hsp
    try walk_at "vc"
    refine u_law_shares hp (by decide) hF hc (fun l H1 s1 nl el hb => ?_)
    have hSb := sum_bd7 (by omega) hb
    try walk_at "vc"
    refine ⟨l, shF ps c, rfl, SqL.of el, ?_⟩
    try walk_at "vc"
    have nlr : l ≠ r := by
      obtain ⟨_, er⟩ := row.at_
      exact (ne_of_none er nl).symm
    have hS0 : 0 < (shF ps c).sum := by omega
    have hq0 : 0 ≤ Int.fdiv 30 (shF ps c).sum := Int.fdiv_nonneg (by decide) (by omega)
    have hq1 : Int.fdiv 30 (shF ps c).sum ≤ 30 := by
      have := Int.natAbs_fdiv_le_natAbs 30 (shF ps c).sum
      omega
    refine ⟨⟨by omega, big_le hSb (by decide)⟩, ?_⟩
    refine u_law_take (row.mono s1) (by omega) (by split <;> omega) (Int.lt_of_le_of_lt (b := 30) (by split <;> omega) (by decide)) (fun tk H2 tk0 tk1 row2 k2 t2 => ?_)
    have tk30 : tk < 30 := by
      have : (if Int.fdiv 30 (shF ps c).sum > 1 then Int.fdiv 30 (shF ps c).sum else 1) ≤ 30 := by split <;> omega
      omega
    clear tk1
    have el2 := k2 _ _ el nlr
    have KT := s1.kp.trans k2
    have TT := s1.tk.trans t2
    have hp2 := hp.tk TT
    have hT2 : Tbs tbs H2 := by
      obtain ⟨zs, er⟩ := (row.mono s1).at_
      exact Tbs.kp er k2 (hT.mono s1)
    try walk_at "vc"
    have htm : 1 ≤ 1 + tk ∧ 1 + tk ≤ 30 := by omega
    generalize 1 + tk = tm at htm ⊢
    obtain ⟨tm0, tm1⟩ := htm
    refine ⟨l, shF ps c, rfl, SqL.of el2, ?_⟩
    try walk_at "vc"
    have htb : tm.natAbs < 2 ^ 5 := by show _ < 32; omega
    refine ⟨mulOk hSb htb (by decide), ?_⟩
    refine ite_d (fun c1 => ?_) (fun c1 => ?_)
    · refine u_law_due hp2 (by decide) h3 h6 hc el2 hsl hsp (by omega) c1 (fun pd ds H3 s3 npd ed hd => ?_)
      have hlen : ((fcut (fanP (rotP ps c)) (shF ps c) tm).length : Int) = (shF ps c).sum * tm := fcut_len (by omega) (by omega) (fun q hq => (hpos q hq).1) hsp
      have hdl := hd.len
      have hst : 0 < (shF ps c).sum * tm := Int.mul_pos hS0 (by omega)
      try walk_at "vc"
      refine len_l ed ?_
      have edl : (ds.length : Int) = (shF ps c).sum * tm := by omega
      have hmk : mkB (shF ps c).sum (.int (ds.length : Int)) = true := by
        show (decide (1 ≤ (ds.length : Int)) && decide ((ds.length : Int) ≤ 30) && decide ((ds.length : Int) % (shF ps c).sum = 0)) = true
        rw [decide_eq_true (by omega), decide_eq_true (by omega), decide_eq_true (by rw [edl]; exact Int.mul_emod_right _ _)]
        rfl
      have hdv : (ds.length : Int) / (shF ps c).sum = tm := by rw [edl, Int.mul_ediv_cancel_left _ (by omega)]
      have row3 := row2.mono s3
      obtain ⟨zs, er⟩ := row3.at_
      refine u_fan_cut er (hp2.tk s3.tk) (by decide) hF hc (hT2.mono s3) hmk (fun q xs H4 s4 nq eq hq => ?_)
      rw [hdv] at hq
      try walk_at "vc"
      refine isi_l eq ?_
      try walk_at "vc"
      have ed4 := s4 _ _ ed
      have hd4 := hd.tk s4.tk
      refine ne_same (.lst (SqL.of eq) (pcs_dp hq)) (.lst (SqL.of ed4) (pcs_dp hd4)) (ShN.sh (sh_dTs _) (by decide)) ?_
      try walk_at "vc"
      have S4 := s3.trans s4
      refine u_law_whole_of (hp2.tk S4.tk) (by decide) h3 h6 (fun vw H5 s5 fw => ?_)
      try walk_at "vc"
      refine len_l (s5 _ _ ed4) ?_
      refine newT (Nat.le_of_ble_eq_true rfl) (fun pn H6 s6 npn en => ?_)
      have hL : (ds.length : Rat) ≠ 0 := fun z => by
        have : ds.length = 0 := by exact_mod_cast z
        omega
      refine u_law_over (Fr.qt (fw.mono s6)) (n := 5) (r := (ds.length : Rat)) ⟨ds.length, 1, ⟨pn, rfl, en⟩, by decide, by have e : ((1 : Int) : Rat) = 1 := rfl; rw [e]; have e2 : (((ds.length : Nat) : Int) : Rat) = (ds.length : Rat) := rfl; rw [e2]; grind, by rw [Int.natAbs_natCast]; show _ < 32; omega, by decide⟩ hL (by decide) (fun vp H7 s7 fp => ?_)
      try walk_at "vc"
      have S7 := s5.trans (s6.trans s7)
      have eq7 := S7 _ _ eq
      have hq7 := hq.tk S7.tk
      refine forL (xs := xs) (fun i σ J => ∃ o8 o9 o10 o11 o12 : Option V, σ = [some (V.ref r), some (V.ref p), some (V.int c), some (V.ref l), some (V.int tm), some (V.ref pd), some (V.ref q), some vp, o8, o9, o10, o11, o12, none, none] ∧ Same H7 J) ⟨_, _, _, _, _, rfl, Same.refl _⟩ (fun i σ J _ ⟨_, _, _, _, _, _, h2⟩ => SqL.of (h2 _ _ eq7)) ?_ ?_
      · rintro i x σ J hi ⟨o8, o9, o10, o11, o12, rfl, sJ⟩
        obtain ⟨pq, qs, rfl, eqs, hqs⟩ := hq7.at_ i x hi
        have hpart := fcut_part (by omega) hpos (List.mem_of_getElem? eqs)
        have h3q : qs.length = 3 := by
          obtain ⟨i', qs', s', e1, e2, hm⟩ := fcut_mem (List.mem_of_getElem? eqs)
          obtain ⟨q3, _⟩ := hpos qs' (List.mem_of_getElem? e1)
          match qs', q3, hm with
          | [_, _, _], _, hm =>
            unfold cutE at hm
            obtain ⟨kk, _, rfl⟩ := List.mem_map.mp hm
            rfl
        match qs, h3q, hqs, hpart with
        | [ga, gb, gc], _, hqs, hpart =>
          refine (hqs.tk sJ.tk).three (fun va vb vc fa fb fc => ?_)
          try walk_at "vc"
          refine u_law_twice fa fb fc (by decide) (fun tv T' B' J2 s2' ti b0 eT bT bB => ?_)
          refine seq_ti ti ?_
          try walk_at "vc"
          refine u_law_lowest _ (by omega) bT bB (by decide) (fun v J3 s3' fv => ?_)
          rw [dv_of (by omega) eT] at fv
          refine ne_f fv (fp.mono (sJ.trans (s2'.trans s3'))) ?_
          try walk_at "vc"
          have eqq : tw ga gb gc = sQ ((fanP ps).map twP) / (ds.length : Rat) := by
            have e1 : twP [ga, gb, gc] = tw ga gb gc := rfl
            rw [← e1, hpart, fan_rot h3 h6 hc]
            congr 1
            have e2 : (shL ((fanP (rotP ps c)).map twP)).sum * tm = ((ds.length : Nat) : Int) := edl.symm
            rw [e2]
            rfl
          refine ite_n (fun z => absurd eqq z) (fun _ => ?_)
          exact sJ.trans (s2'.trans s3')
      rintro σ J ⟨o8, o9, o10, o11, o12, rfl, sJ⟩
      have eqJ := sJ _ _ eq7
      try walk_at "vc"
      refine ⟨.inl ⟨rfl, _, SqL.of eqJ⟩, ?_⟩
      have hql := hq.len
      refine ⟨q, xs, V.non, rfl, rfl, eqJ, small1000 (by omega), ?_⟩
      have SJ := S7.trans sJ
      have nqr : q ≠ r := (ne_of_none er nq).symm
      have nlq : l ≠ q := ne_of_none (s3 _ _ el2) nq
      have ndq : pd ≠ q := ne_of_none ed nq
      have tu := tk_upd (o := .lst (xs ++ [V.non])) eqJ
      have kpu : Kp q J (upd J q (.lst (xs ++ [V.non]))) := kp_upd
      have rowU : Row (n + 1) (upd J q (.lst (xs ++ [V.non]))) r := by
        obtain ⟨c', k', e', l1, l2⟩ := (row3.mono (s4.trans SJ)).ex
        exact ⟨c', k', kpu _ _ e' nqr.symm, l1, l2⟩
      have elU := kpu _ _ (SJ _ _ (s4 _ _ (s3 _ _ el2))) nlq
      have edU := kpu _ _ (SJ _ _ ed4) ndq
      have hpU := hp2.tk (s3.tk.trans (s4.tk.trans (SJ.tk.trans tu)))
      have hdU := hd4.tk (SJ.tk.trans tu)
      have KU : Kp r H (upd J q (.lst (xs ++ [V.non]))) := fun b o eb nb => by
        have e1 := (KT.trans s3.kp) b o eb nb
        rw [upd_ne (ne_of_none e1 nq)]
        exact SJ _ _ (s4 _ _ e1)
      have TU := TT.trans (s3.tk.trans (s4.tk.trans (SJ.tk.trans tu)))
      have hTU : Tbs tbs (upd J q (.lst (xs ++ [V.non]))) := Tbs.upd eqJ ((hT2.mono s3).mono (s4.trans SJ))
      generalize upd J q (.lst (xs ++ [V.non])) = U at rowU elU edU hpU hdU KU TU hTU ⊢
      try walk_at "vc"
      refine len_l edU ?_
      obtain ⟨zs', er'⟩ := rowU.at_
      refine u_fan_cut er' hpU (by decide) hF hc hTU hmk (fun q9 xs9 U9 s9 nq9 eq9 hq9 => ?_)
      rw [hdv] at hq9
      refine ne_same (.lst (SqL.of eq9) (pcs_dp hq9)) (.lst (SqL.of (s9 _ _ edU)) (pcs_dp (hdU.tk s9.tk))) (ShN.sh (sh_dTs _) (by decide)) ?_
      have rowT := rowU.mono s9
      have elT := s9 _ _ elU
      have hpT := hpU.tk s9.tk
      have KT := KU.trans s9.kp
      have TT := TU.trans s9.tk
      have hTT := hTU.mono s9
      try walk_at "vc"
      refine u_law_take rowT (by omega) (by decide) (by decide) (fun m99 V1 m0 m1 rowV kV tV => ?_)
      have elV := kV _ _ elT nlr
      have hpV := hpT.tk tV
      have KV := KT.trans kV
      have TV := TT.trans tV
      have hTV : Tbs tbs V1 := by
        obtain ⟨zs, er⟩ := rowT.at_
        exact Tbs.kp er kV hTT
      try walk_at "vc"
      have hm99 : -33 ≤ m99 - 33 ∧ m99 - 33 ≤ 65 := by omega
      generalize m99 - 33 = mn at hm99 ⊢
      clear kV tV rowT elT hpT KT TT hTT
      refine ⟨l, shF ps c, rfl, SqL.of elV, ?_⟩
      try walk_at "vc"
      have said : ∀ (i : Int) (J : Hp) (Q' : VK), mkB (shF ps c).sum (.int i) = false → Same V1 J → (∀ q J', Same J J' → J' q = some (.tup [.str "refused", .str "way"]) → Q' (.ref q) J') → NewL [.ref p, .int c, .int i] J fun x H1 => sp_law_said P w K mg base [c_NoNumber, c_NoPrime, c_NoField, c_NoCutting, c_NoLine, c_NoFrame, c_NoDoor, c_NoPaper, c_NoAreas, c_NoWay, c_NoSpot, c_NoMove, c_NoBend, c_TooMany, c_NoText, c_NoRow, c_NoName] [.ref a_fan_cut, x] H1 Q' E0 := fun i J Q' hmk sJ kk => by
        refine newL (Nat.le_of_ble_eq_true rfl) (fun pl J1 s1 npl epl => ?_)
        have SS := sJ.trans s1
        obtain ⟨zs, er⟩ := rowV.at_
        refine ⟨a_fan_cut, pl, _, _, _, _, _, _, rfl, calF_of C_fan_cut ga_fan_cut, by decide, epl, by show 1 ≤ 3; decide, by show 3 ≤ 4; decide, asked_way (SS _ _ er) (hpV.tk SS.tk) (by decide) hF hc (hTV.mono SS) hmk, fun _ _ z => z.elim, ?_⟩
        rintro C x J2 ⟨rfl, s2, ex⟩
        exact ⟨9, rfl, ex, fun q J3 s3 e3 => kk q J3 (s1.trans (s2.trans s3)) e3⟩
      refine ⟨by omega, ?_⟩
      have efm : Int.fmod mn (shF ps c).sum = mn % (shF ps c).sum := Int.fmod_eq_emod_of_nonneg _ (by omega)
      rw [efm]
      have emk : mkB (shF ps c).sum (.int mn) = (decide (1 ≤ mn) && decide (mn ≤ 30) && decide (mn % (shF ps c).sum = 0)) := rfl
      refine ite_d (fun d1 => ?_) (fun d1 => ?_)
      · have hmk : mkB (shF ps c).sum (.int mn) = false := by rw [emk, decide_eq_false (p := mn % (shF ps c).sum = 0) (by omega)]; simp
        try walk_at "vc"
        refine said mn V1 _ hmk (Same.refl _) (fun qq J' s e => ?_)
        refine newT (Nat.le_of_ble_eq_true rfl) (fun pz F1 sz npz ez => ?_)
        refine ne_words (sz _ _ e) ez (by kernel_rfl) ?_
        try walk_at "vc"
        have sF := s.trans sz
        try walk_at "vc"
        refine ⟨l, shF ps c, rfl, SqL.of (sF _ _ elV), ?_⟩
        try walk_at "vc"
        refine ⟨l, shF ps c, rfl, SqL.of (sF _ _ elV), ?_⟩
        try walk_at "vc"
        refine ⟨mulOk hSb (show (31 : Int).natAbs < 2 ^ 5 by decide) (by decide), ?_⟩
        refine newL (Nat.le_of_ble_eq_true rfl) (fun pw W1 sw npw ew => ?_)
        try walk_at "vc"
        refine forL (xs := [V.int 0, V.int (0 - (shF ps c).sum), V.int ((shF ps c).sum * 31)]) (fun i σ J => ∃ o14 : Option V, σ = [some (V.ref r), some (V.ref p), some (V.int c), some (V.ref l), some (V.int tm), some (V.ref pd), some (V.ref q), some vp, o8, o9, o10, o11, o12, some (V.int mn), o14] ∧ Same W1 J) ⟨_, rfl, Same.refl _⟩ (fun i σ J _ ⟨_, _, h2⟩ => SqL.of (h2 _ _ ew)) ?_ ?_
        · rintro i x σ J hi ⟨o14, rfl, sJ⟩
          obtain ⟨y, rfl, hy⟩ : ∃ y : Int, x = V.int y ∧ mkB (shF ps c).sum (.int y) = false := by
            have hm := List.mem_of_getElem? hi
            simp only [List.mem_cons, List.not_mem_nil, or_false] at hm
            rcases hm with rfl | rfl | rfl
            · exact ⟨_, rfl, rfl⟩
            · exact ⟨_, rfl, by show (decide _ && decide _ && decide _) = false; rw [decide_eq_false (by omega)]; rfl⟩
            · exact ⟨_, rfl, by show (decide _ && decide _ && decide _) = false; rw [decide_eq_false (p := (shF ps c).sum * 31 ≤ 30) (by omega)]; simp⟩
          try walk_at "vc"
          refine said y J _ hy (sF.trans (sw.trans sJ)) (fun q J' s e => ?_)
          refine newT (Nat.le_of_ble_eq_true rfl) (fun pz J2 sz npz ez => ?_)
          refine ne_words (sz _ _ e) ez (by kernel_rfl) ?_
          try walk_at "vc"
          exact sJ.trans (s.trans sz)
        rintro σ J ⟨o14, rfl, sJ⟩
        try walk_at "vc"
        have SE := sF.trans (sw.trans sJ)
        exact k J (Row.le (by omega) (rowV.mono SE)) (KV.trans SE.kp) (TV.trans SE.tk) (hTV.mono SE)
      · refine ite_d (fun d2 => ?_) (fun d2 => ?_)
        · have hmk : mkB (shF ps c).sum (.int mn) = false := by rw [emk, decide_eq_false (p := 1 ≤ mn) (by omega)]; rfl
          try walk_at "vc"
          refine said mn V1 _ hmk (Same.refl _) (fun qq J' s e => ?_)
          refine newT (Nat.le_of_ble_eq_true rfl) (fun pz F1 sz npz ez => ?_)
          refine ne_words (sz _ _ e) ez (by kernel_rfl) ?_
          try walk_at "vc"
          have sF := s.trans sz
          try walk_at "vc"
          refine ⟨l, shF ps c, rfl, SqL.of (sF _ _ elV), ?_⟩
          try walk_at "vc"
          refine ⟨l, shF ps c, rfl, SqL.of (sF _ _ elV), ?_⟩
          try walk_at "vc"
          refine ⟨mulOk hSb (show (31 : Int).natAbs < 2 ^ 5 by decide) (by decide), ?_⟩
          refine newL (Nat.le_of_ble_eq_true rfl) (fun pw W1 sw npw ew => ?_)
          try walk_at "vc"
          refine forL (xs := [V.int 0, V.int (0 - (shF ps c).sum), V.int ((shF ps c).sum * 31)]) (fun i σ J => ∃ o14 : Option V, σ = [some (V.ref r), some (V.ref p), some (V.int c), some (V.ref l), some (V.int tm), some (V.ref pd), some (V.ref q), some vp, o8, o9, o10, o11, o12, some (V.int mn), o14] ∧ Same W1 J) ⟨_, rfl, Same.refl _⟩ (fun i σ J _ ⟨_, _, h2⟩ => SqL.of (h2 _ _ ew)) ?_ ?_
          · rintro i x σ J hi ⟨o14, rfl, sJ⟩
            obtain ⟨y, rfl, hy⟩ : ∃ y : Int, x = V.int y ∧ mkB (shF ps c).sum (.int y) = false := by
              have hm := List.mem_of_getElem? hi
              simp only [List.mem_cons, List.not_mem_nil, or_false] at hm
              rcases hm with rfl | rfl | rfl
              · exact ⟨_, rfl, rfl⟩
              · exact ⟨_, rfl, by show (decide _ && decide _ && decide _) = false; rw [decide_eq_false (by omega)]; rfl⟩
              · exact ⟨_, rfl, by show (decide _ && decide _ && decide _) = false; rw [decide_eq_false (p := (shF ps c).sum * 31 ≤ 30) (by omega)]; simp⟩
            try walk_at "vc"
            refine said y J _ hy (sF.trans (sw.trans sJ)) (fun q J' s e => ?_)
            refine newT (Nat.le_of_ble_eq_true rfl) (fun pz J2 sz npz ez => ?_)
            refine ne_words (sz _ _ e) ez (by kernel_rfl) ?_
            try walk_at "vc"
            exact sJ.trans (s.trans sz)
          rintro σ J ⟨o14, rfl, sJ⟩
          try walk_at "vc"
          have SE := sF.trans (sw.trans sJ)
          exact k J (Row.le (by omega) (rowV.mono SE)) (KV.trans SE.kp) (TV.trans SE.tk) (hTV.mono SE)
        · refine ite_d (fun d3 => ?_) (fun d3 => ?_)
          · have hmk : mkB (shF ps c).sum (.int mn) = false := by rw [emk, decide_eq_false (p := mn ≤ 30) (by omega)]; simp
            try walk_at "vc"
            refine said mn V1 _ hmk (Same.refl _) (fun qq J' s e => ?_)
            refine newT (Nat.le_of_ble_eq_true rfl) (fun pz F1 sz npz ez => ?_)
            refine ne_words (sz _ _ e) ez (by kernel_rfl) ?_
            try walk_at "vc"
            have sF := s.trans sz
            try walk_at "vc"
            refine ⟨l, shF ps c, rfl, SqL.of (sF _ _ elV), ?_⟩
            try walk_at "vc"
            refine ⟨l, shF ps c, rfl, SqL.of (sF _ _ elV), ?_⟩
            try walk_at "vc"
            refine ⟨mulOk hSb (show (31 : Int).natAbs < 2 ^ 5 by decide) (by decide), ?_⟩
            refine newL (Nat.le_of_ble_eq_true rfl) (fun pw W1 sw npw ew => ?_)
            try walk_at "vc"
            refine forL (xs := [V.int 0, V.int (0 - (shF ps c).sum), V.int ((shF ps c).sum * 31)]) (fun i σ J => ∃ o14 : Option V, σ = [some (V.ref r), some (V.ref p), some (V.int c), some (V.ref l), some (V.int tm), some (V.ref pd), some (V.ref q), some vp, o8, o9, o10, o11, o12, some (V.int mn), o14] ∧ Same W1 J) ⟨_, rfl, Same.refl _⟩ (fun i σ J _ ⟨_, _, h2⟩ => SqL.of (h2 _ _ ew)) ?_ ?_
            · rintro i x σ J hi ⟨o14, rfl, sJ⟩
              obtain ⟨y, rfl, hy⟩ : ∃ y : Int, x = V.int y ∧ mkB (shF ps c).sum (.int y) = false := by
                have hm := List.mem_of_getElem? hi
                simp only [List.mem_cons, List.not_mem_nil, or_false] at hm
                rcases hm with rfl | rfl | rfl
                · exact ⟨_, rfl, rfl⟩
                · exact ⟨_, rfl, by show (decide _ && decide _ && decide _) = false; rw [decide_eq_false (by omega)]; rfl⟩
                · exact ⟨_, rfl, by show (decide _ && decide _ && decide _) = false; rw [decide_eq_false (p := (shF ps c).sum * 31 ≤ 30) (by omega)]; simp⟩
              try walk_at "vc"
              refine said y J _ hy (sF.trans (sw.trans sJ)) (fun q J' s e => ?_)
              refine newT (Nat.le_of_ble_eq_true rfl) (fun pz J2 sz npz ez => ?_)
              refine ne_words (sz _ _ e) ez (by kernel_rfl) ?_
              try walk_at "vc"
              exact sJ.trans (s.trans sz)
            rintro σ J ⟨o14, rfl, sJ⟩
            try walk_at "vc"
            have SE := sF.trans (sw.trans sJ)
            exact k J (Row.le (by omega) (rowV.mono SE)) (KV.trans SE.kp) (TV.trans SE.tk) (hTV.mono SE)
          · have sF := Same.refl V1
            try walk_at "vc"
            refine ⟨l, shF ps c, rfl, SqL.of (sF _ _ elV), ?_⟩
            try walk_at "vc"
            refine ⟨l, shF ps c, rfl, SqL.of (sF _ _ elV), ?_⟩
            try walk_at "vc"
            refine ⟨mulOk hSb (show (31 : Int).natAbs < 2 ^ 5 by decide) (by decide), ?_⟩
            refine newL (Nat.le_of_ble_eq_true rfl) (fun pw W1 sw npw ew => ?_)
            try walk_at "vc"
            refine forL (xs := [V.int 0, V.int (0 - (shF ps c).sum), V.int ((shF ps c).sum * 31)]) (fun i σ J => ∃ o14 : Option V, σ = [some (V.ref r), some (V.ref p), some (V.int c), some (V.ref l), some (V.int tm), some (V.ref pd), some (V.ref q), some vp, o8, o9, o10, o11, o12, some (V.int mn), o14] ∧ Same W1 J) ⟨_, rfl, Same.refl _⟩ (fun i σ J _ ⟨_, _, h2⟩ => SqL.of (h2 _ _ ew)) ?_ ?_
            · rintro i x σ J hi ⟨o14, rfl, sJ⟩
              obtain ⟨y, rfl, hy⟩ : ∃ y : Int, x = V.int y ∧ mkB (shF ps c).sum (.int y) = false := by
                have hm := List.mem_of_getElem? hi
                simp only [List.mem_cons, List.not_mem_nil, or_false] at hm
                rcases hm with rfl | rfl | rfl
                · exact ⟨_, rfl, rfl⟩
                · exact ⟨_, rfl, by show (decide _ && decide _ && decide _) = false; rw [decide_eq_false (by omega)]; rfl⟩
                · exact ⟨_, rfl, by show (decide _ && decide _ && decide _) = false; rw [decide_eq_false (p := (shF ps c).sum * 31 ≤ 30) (by omega)]; simp⟩
              try walk_at "vc"
              refine said y J _ hy (sF.trans (sw.trans sJ)) (fun q J' s e => ?_)
              refine newT (Nat.le_of_ble_eq_true rfl) (fun pz J2 sz npz ez => ?_)
              refine ne_words (sz _ _ e) ez (by kernel_rfl) ?_
              try walk_at "vc"
              exact sJ.trans (s.trans sz)
            rintro σ J ⟨o14, rfl, sJ⟩
            try walk_at "vc"
            have SE := sF.trans (sw.trans sJ)
            exact k J (Row.le (by omega) (rowV.mono SE)) (KV.trans SE.kp) (TV.trans SE.tk) (hTV.mono SE)
    · have rowT := row2
      have elT := el2
      have hpT := hp2
      have hTT := hT2
      try walk_at "vc"
      refine u_law_take rowT (by omega) (by decide) (by decide) (fun m99 V1 m0 m1 rowV kV tV => ?_)
      have elV := kV _ _ elT nlr
      have hpV := hpT.tk tV
      have KV := KT.trans kV
      have TV := TT.trans tV
      have hTV : Tbs tbs V1 := by
        obtain ⟨zs, er⟩ := rowT.at_
        exact Tbs.kp er kV hTT
      try walk_at "vc"
      have hm99 : -33 ≤ m99 - 33 ∧ m99 - 33 ≤ 65 := by omega
      generalize m99 - 33 = mn at hm99 ⊢
      clear kV tV rowT elT hpT KT TT hTT
      refine ⟨l, shF ps c, rfl, SqL.of elV, ?_⟩
      try walk_at "vc"
      have said : ∀ (i : Int) (J : Hp) (Q' : VK), mkB (shF ps c).sum (.int i) = false → Same V1 J → (∀ q J', Same J J' → J' q = some (.tup [.str "refused", .str "way"]) → Q' (.ref q) J') → NewL [.ref p, .int c, .int i] J fun x H1 => sp_law_said P w K mg base [c_NoNumber, c_NoPrime, c_NoField, c_NoCutting, c_NoLine, c_NoFrame, c_NoDoor, c_NoPaper, c_NoAreas, c_NoWay, c_NoSpot, c_NoMove, c_NoBend, c_TooMany, c_NoText, c_NoRow, c_NoName] [.ref a_fan_cut, x] H1 Q' E0 := fun i J Q' hmk sJ kk => by
        refine newL (Nat.le_of_ble_eq_true rfl) (fun pl J1 s1 npl epl => ?_)
        have SS := sJ.trans s1
        obtain ⟨zs, er⟩ := rowV.at_
        refine ⟨a_fan_cut, pl, _, _, _, _, _, _, rfl, calF_of C_fan_cut ga_fan_cut, by decide, epl, by show 1 ≤ 3; decide, by show 3 ≤ 4; decide, asked_way (SS _ _ er) (hpV.tk SS.tk) (by decide) hF hc (hTV.mono SS) hmk, fun _ _ z => z.elim, ?_⟩
        rintro C x J2 ⟨rfl, s2, ex⟩
        exact ⟨9, rfl, ex, fun q J3 s3 e3 => kk q J3 (s1.trans (s2.trans s3)) e3⟩
      refine ⟨by omega, ?_⟩
      have efm : Int.fmod mn (shF ps c).sum = mn % (shF ps c).sum := Int.fmod_eq_emod_of_nonneg _ (by omega)
      rw [efm]
      have emk : mkB (shF ps c).sum (.int mn) = (decide (1 ≤ mn) && decide (mn ≤ 30) && decide (mn % (shF ps c).sum = 0)) := rfl
      refine ite_d (fun d1 => ?_) (fun d1 => ?_)
      · have hmk : mkB (shF ps c).sum (.int mn) = false := by rw [emk, decide_eq_false (p := mn % (shF ps c).sum = 0) (by omega)]; simp
        try walk_at "vc"
        refine said mn V1 _ hmk (Same.refl _) (fun qq J' s e => ?_)
        refine newT (Nat.le_of_ble_eq_true rfl) (fun pz F1 sz npz ez => ?_)
        refine ne_words (sz _ _ e) ez (by kernel_rfl) ?_
        try walk_at "vc"
        have sF := s.trans sz
        try walk_at "vc"
        refine ⟨l, shF ps c, rfl, SqL.of (sF _ _ elV), ?_⟩
        try walk_at "vc"
        refine ⟨l, shF ps c, rfl, SqL.of (sF _ _ elV), ?_⟩
        try walk_at "vc"
        refine ⟨mulOk hSb (show (31 : Int).natAbs < 2 ^ 5 by decide) (by decide), ?_⟩
        refine newL (Nat.le_of_ble_eq_true rfl) (fun pw W1 sw npw ew => ?_)
        try walk_at "vc"
        refine forL (xs := [V.int 0, V.int (0 - (shF ps c).sum), V.int ((shF ps c).sum * 31)]) (fun i σ J => ∃ o14 : Option V, σ = [some (V.ref r), some (V.ref p), some (V.int c), some (V.ref l), some (V.int tm), none, none, none, none, none, none, none, none, some (V.int mn), o14] ∧ Same W1 J) ⟨_, rfl, Same.refl _⟩ (fun i σ J _ ⟨_, _, h2⟩ => SqL.of (h2 _ _ ew)) ?_ ?_
        · rintro i x σ J hi ⟨o14, rfl, sJ⟩
          obtain ⟨y, rfl, hy⟩ : ∃ y : Int, x = V.int y ∧ mkB (shF ps c).sum (.int y) = false := by
            have hm := List.mem_of_getElem? hi
            simp only [List.mem_cons, List.not_mem_nil, or_false] at hm
            rcases hm with rfl | rfl | rfl
            · exact ⟨_, rfl, rfl⟩
            · exact ⟨_, rfl, by show (decide _ && decide _ && decide _) = false; rw [decide_eq_false (by omega)]; rfl⟩
            · exact ⟨_, rfl, by show (decide _ && decide _ && decide _) = false; rw [decide_eq_false (p := (shF ps c).sum * 31 ≤ 30) (by omega)]; simp⟩
          try walk_at "vc"
          refine said y J _ hy (sF.trans (sw.trans sJ)) (fun q J' s e => ?_)
          refine newT (Nat.le_of_ble_eq_true rfl) (fun pz J2 sz npz ez => ?_)
          refine ne_words (sz _ _ e) ez (by kernel_rfl) ?_
          try walk_at "vc"
          exact sJ.trans (s.trans sz)
        rintro σ J ⟨o14, rfl, sJ⟩
        try walk_at "vc"
        have SE := sF.trans (sw.trans sJ)
        exact k J (Row.le (by omega) (rowV.mono SE)) (KV.trans SE.kp) (TV.trans SE.tk) (hTV.mono SE)
      · refine ite_d (fun d2 => ?_) (fun d2 => ?_)
        · have hmk : mkB (shF ps c).sum (.int mn) = false := by rw [emk, decide_eq_false (p := 1 ≤ mn) (by omega)]; rfl
          try walk_at "vc"
          refine said mn V1 _ hmk (Same.refl _) (fun qq J' s e => ?_)
          refine newT (Nat.le_of_ble_eq_true rfl) (fun pz F1 sz npz ez => ?_)
          refine ne_words (sz _ _ e) ez (by kernel_rfl) ?_
          try walk_at "vc"
          have sF := s.trans sz
          try walk_at "vc"
          refine ⟨l, shF ps c, rfl, SqL.of (sF _ _ elV), ?_⟩
          try walk_at "vc"
          refine ⟨l, shF ps c, rfl, SqL.of (sF _ _ elV), ?_⟩
          try walk_at "vc"
          refine ⟨mulOk hSb (show (31 : Int).natAbs < 2 ^ 5 by decide) (by decide), ?_⟩
          refine newL (Nat.le_of_ble_eq_true rfl) (fun pw W1 sw npw ew => ?_)
          try walk_at "vc"
          refine forL (xs := [V.int 0, V.int (0 - (shF ps c).sum), V.int ((shF ps c).sum * 31)]) (fun i σ J => ∃ o14 : Option V, σ = [some (V.ref r), some (V.ref p), some (V.int c), some (V.ref l), some (V.int tm), none, none, none, none, none, none, none, none, some (V.int mn), o14] ∧ Same W1 J) ⟨_, rfl, Same.refl _⟩ (fun i σ J _ ⟨_, _, h2⟩ => SqL.of (h2 _ _ ew)) ?_ ?_
          · rintro i x σ J hi ⟨o14, rfl, sJ⟩
            obtain ⟨y, rfl, hy⟩ : ∃ y : Int, x = V.int y ∧ mkB (shF ps c).sum (.int y) = false := by
              have hm := List.mem_of_getElem? hi
              simp only [List.mem_cons, List.not_mem_nil, or_false] at hm
              rcases hm with rfl | rfl | rfl
              · exact ⟨_, rfl, rfl⟩
              · exact ⟨_, rfl, by show (decide _ && decide _ && decide _) = false; rw [decide_eq_false (by omega)]; rfl⟩
              · exact ⟨_, rfl, by show (decide _ && decide _ && decide _) = false; rw [decide_eq_false (p := (shF ps c).sum * 31 ≤ 30) (by omega)]; simp⟩
            try walk_at "vc"
            refine said y J _ hy (sF.trans (sw.trans sJ)) (fun q J' s e => ?_)
            refine newT (Nat.le_of_ble_eq_true rfl) (fun pz J2 sz npz ez => ?_)
            refine ne_words (sz _ _ e) ez (by kernel_rfl) ?_
            try walk_at "vc"
            exact sJ.trans (s.trans sz)
          rintro σ J ⟨o14, rfl, sJ⟩
          try walk_at "vc"
          have SE := sF.trans (sw.trans sJ)
          exact k J (Row.le (by omega) (rowV.mono SE)) (KV.trans SE.kp) (TV.trans SE.tk) (hTV.mono SE)
        · refine ite_d (fun d3 => ?_) (fun d3 => ?_)
          · have hmk : mkB (shF ps c).sum (.int mn) = false := by rw [emk, decide_eq_false (p := mn ≤ 30) (by omega)]; simp
            try walk_at "vc"
            refine said mn V1 _ hmk (Same.refl _) (fun qq J' s e => ?_)
            refine newT (Nat.le_of_ble_eq_true rfl) (fun pz F1 sz npz ez => ?_)
            refine ne_words (sz _ _ e) ez (by kernel_rfl) ?_
            try walk_at "vc"
            have sF := s.trans sz
            try walk_at "vc"
            refine ⟨l, shF ps c, rfl, SqL.of (sF _ _ elV), ?_⟩
            try walk_at "vc"
            refine ⟨l, shF ps c, rfl, SqL.of (sF _ _ elV), ?_⟩
            try walk_at "vc"
            refine ⟨mulOk hSb (show (31 : Int).natAbs < 2 ^ 5 by decide) (by decide), ?_⟩
            refine newL (Nat.le_of_ble_eq_true rfl) (fun pw W1 sw npw ew => ?_)
            try walk_at "vc"
            refine forL (xs := [V.int 0, V.int (0 - (shF ps c).sum), V.int ((shF ps c).sum * 31)]) (fun i σ J => ∃ o14 : Option V, σ = [some (V.ref r), some (V.ref p), some (V.int c), some (V.ref l), some (V.int tm), none, none, none, none, none, none, none, none, some (V.int mn), o14] ∧ Same W1 J) ⟨_, rfl, Same.refl _⟩ (fun i σ J _ ⟨_, _, h2⟩ => SqL.of (h2 _ _ ew)) ?_ ?_
            · rintro i x σ J hi ⟨o14, rfl, sJ⟩
              obtain ⟨y, rfl, hy⟩ : ∃ y : Int, x = V.int y ∧ mkB (shF ps c).sum (.int y) = false := by
                have hm := List.mem_of_getElem? hi
                simp only [List.mem_cons, List.not_mem_nil, or_false] at hm
                rcases hm with rfl | rfl | rfl
                · exact ⟨_, rfl, rfl⟩
                · exact ⟨_, rfl, by show (decide _ && decide _ && decide _) = false; rw [decide_eq_false (by omega)]; rfl⟩
                · exact ⟨_, rfl, by show (decide _ && decide _ && decide _) = false; rw [decide_eq_false (p := (shF ps c).sum * 31 ≤ 30) (by omega)]; simp⟩
              try walk_at "vc"
              refine said y J _ hy (sF.trans (sw.trans sJ)) (fun q J' s e => ?_)
              refine newT (Nat.le_of_ble_eq_true rfl) (fun pz J2 sz npz ez => ?_)
              refine ne_words (sz _ _ e) ez (by kernel_rfl) ?_
              try walk_at "vc"
              exact sJ.trans (s.trans sz)
            rintro σ J ⟨o14, rfl, sJ⟩
            try walk_at "vc"
            have SE := sF.trans (sw.trans sJ)
            exact k J (Row.le (by omega) (rowV.mono SE)) (KV.trans SE.kp) (TV.trans SE.tk) (hTV.mono SE)
          · have sF := Same.refl V1
            try walk_at "vc"
            refine ⟨l, shF ps c, rfl, SqL.of (sF _ _ elV), ?_⟩
            try walk_at "vc"
            refine ⟨l, shF ps c, rfl, SqL.of (sF _ _ elV), ?_⟩
            try walk_at "vc"
            refine ⟨mulOk hSb (show (31 : Int).natAbs < 2 ^ 5 by decide) (by decide), ?_⟩
            refine newL (Nat.le_of_ble_eq_true rfl) (fun pw W1 sw npw ew => ?_)
            try walk_at "vc"
            refine forL (xs := [V.int 0, V.int (0 - (shF ps c).sum), V.int ((shF ps c).sum * 31)]) (fun i σ J => ∃ o14 : Option V, σ = [some (V.ref r), some (V.ref p), some (V.int c), some (V.ref l), some (V.int tm), none, none, none, none, none, none, none, none, some (V.int mn), o14] ∧ Same W1 J) ⟨_, rfl, Same.refl _⟩ (fun i σ J _ ⟨_, _, h2⟩ => SqL.of (h2 _ _ ew)) ?_ ?_
            · rintro i x σ J hi ⟨o14, rfl, sJ⟩
              obtain ⟨y, rfl, hy⟩ : ∃ y : Int, x = V.int y ∧ mkB (shF ps c).sum (.int y) = false := by
                have hm := List.mem_of_getElem? hi
                simp only [List.mem_cons, List.not_mem_nil, or_false] at hm
                rcases hm with rfl | rfl | rfl
                · exact ⟨_, rfl, rfl⟩
                · exact ⟨_, rfl, by show (decide _ && decide _ && decide _) = false; rw [decide_eq_false (by omega)]; rfl⟩
                · exact ⟨_, rfl, by show (decide _ && decide _ && decide _) = false; rw [decide_eq_false (p := (shF ps c).sum * 31 ≤ 30) (by omega)]; simp⟩
              try walk_at "vc"
              refine said y J _ hy (sF.trans (sw.trans sJ)) (fun q J' s e => ?_)
              refine newT (Nat.le_of_ble_eq_true rfl) (fun pz J2 sz npz ez => ?_)
              refine ne_words (sz _ _ e) ez (by kernel_rfl) ?_
              try walk_at "vc"
              exact sJ.trans (s.trans sz)
            rintro σ J ⟨o14, rfl, sJ⟩
            try walk_at "vc"
            have SE := sF.trans (sw.trans sJ)
            exact k J (Row.le (by omega) (rowV.mono SE)) (KV.trans SE.kp) (TV.trans SE.tk) (hTV.mono SE)
theorem u_law_right {tbs : List Addr} {r p : Addr} {ps : List (Rat × Rat)} {c n : Nat} {H : Hp} {Q : VK} {E : XK} (h : Row n H r) (hn : n + 300 ≤ 1000000) (hp : Tps 120 H p ps) (hF : fdP ps = true) (hc : c < ps.length) (hT : Tbs tbs H) (k : ∀ H', Row (n + 5) H' r → Kp r H H' → Tk H H' → Tbs tbs H' → Q (.bl true) H') : sp_law_right tbs [.ref r, .ref p, .int c] H Q E := ⟨r, p, ps, c, n, rfl, h, hn, hp, hF, hc, hT, k⟩
abbrev s_law : Stmt := top 73
theorem sc_law : FnScope ["_law_script", "_law_cell", "_law_row", "_law_field_here", "_law_turn_here"] ["_law_script"] (defScope s_law) := ⟨rfl, rfl, rfl, by decide +kernel, rfl, by decide +kernel, by decide +kernel⟩
def sp_law (K : PySem.W.Frag) (tbs : List Addr) : Sp := fun vs H Q _ => ∃ (a : Addr) (ns : List Int), vs = [.ref a] ∧ SqL K H a (ns.map V.int) ∧ ns.length ≤ 63 ∧ Tbs tbs H ∧ ∀ H1, Tbs tbs H1 → Q (.bl true) H1

set_option maxHeartbeats 4000000 in
theorem ok_law {f : Addr} {fd : FuncData} (F : Fun K "law" "law" s_law f fd) (z_range : mg "range" = none) (z_int : mg "int" = none) (z_len : mg "len" = none) (C_law_wide : Cal P w K mg base 3 "_law_wide" ["_law_row", "_law_far"] sp_law_wide) (C_law_right : Cal P w K mg base 15 "_law_right" ["_law_row", "_law_field_here", "_law_c"] (sp_law_right tbs)) (C_law_take : Cal P w K mg base 1 "_law_take" ["_law_row", "_law_base"] sp_law_take) : FnOk P w K mg base CX0 16 f fd ["_law_script"] (sp_law K tbs) := by
  refine okW F sc_law (fun vs H Q E h => ?_) (fun cdv A outer s H vs Q E hr h => ?_)
  · obtain ⟨a, ns, rfl, _⟩ := h
    rfl
  · obtain ⟨a, ns, rfl, hS, hlen, tb0, k⟩ := h
    refine ⟨_, (wss_cons (ws_for PassesOwn.never rfl ⟨(pi_list (pe_op op_addA (pe_lst (pa_cons pe_int pa_nil se_Constant)) (pe_slice sl_list (pv 0) po_none (po_some pe_int))))⟩ (pg_name (i := 1) sc_law.nd rfl (by first | exact Or.inl rfl | exact Or.inr rfl)) (wss_cons ⟨(ps_set (i := 2) sc_law.nd rfl (by first | exact Or.inl rfl | exact Or.inr rfl) (pe_lst (pa_cons (pv 1) (pa_cons pe_int pa_nil se_Constant) se_Name)))⟩
        (wss_cons ⟨(ps_set (i := 3) sc_law.nd rfl (by first | exact Or.inl rfl | exact Or.inr rfl) (pe_callC C_law_wide hr (by decide) (by rfl) (pa_cons (pv 2) (pa_cons (pe_ix ix_seq (pe_lst (pa_cons pe_int (pa_cons (pe_op op_pow pe_int pe_int) pa_nil se_BinOp) se_Constant)) (pe_callTy call_int1 (by rfl) z_int bt_int (pa_cons (pe_cmpR (op_eqA hr.units) (pe_callC C_law_take hr (by decide) (by rfl) (pa_cons (pv 2) (pa_cons pe_int pa_nil se_Constant) se_Name) (by decide) se_Name (se_any rfl)) pe_int (nomark _)) pa_nil se_Compare)) (fun _ _ => rfl)) pa_nil se_Subscript) se_Name) (by decide) se_Name (se_any rfl)))⟩
        (wss_one (ws_for PassesOwn.never rfl ⟨(pi_range1 (by rfl) z_range (pa_cons pe_int pa_nil se_Constant))⟩ (pg_name (i := 4) sc_law.nd rfl (by first | exact Or.inl rfl | exact Or.inr rfl)) (wss_one (ws_if (pt_not (pt_val (pe_callC C_law_right hr (by decide) (by rfl) (pa_cons (pv 2) (pa_cons (pv 3) (pa_cons (pe_callC C_law_take hr (by decide) (by rfl) (pa_cons (pv 2) (pa_cons (pe_callB call_lenA (by rfl) z_len bt_len (pa_cons (pv 3) pa_nil se_Name)) pa_nil se_Call) se_Name) (by decide) se_Name (se_any rfl)) pa_nil se_Call) se_Name) se_Name) (by decide) se_Name (se_any rfl)))) (wss_one ⟨(ps_ret pe_bl)⟩) wss_nil)))))))
        (wss_one ⟨(ps_ret pe_bl)⟩)), ?_⟩
    have e : start ["_law_script", "_law_cell", "_law_row", "_law_field_here", "_law_turn_here"] [V.ref a] = [some (V.ref a), none, none, none, none] := rfl
    rw [e]
    walk_at "vc"
    refine newL (Nat.le_of_ble_eq_true rfl) (fun p1 HH1 s1 hp1 e1 => ?_)
    refine ⟨_, s1.seq hS, fun p2 hp2 => ?_⟩
    refine cat_l (same_upd hp2 _ _ e1) upd_same (cut_len (by rw [List.length_map]; exact hlen) _ _ (by decide)) (fun p3 hp3 => ?_)
    walk_at "vc"
    have tb1 : Tbs tbs (upd (upd HH1 p2 (.lst (cutV (ns.map V.int) none (some 4)))) p3 (.lst (V.int 0 :: cutV (ns.map V.int) none (some 4)))) := ((tb0.mono s1).mono (same_upd hp2)).mono (same_upd hp3)
    have hxs : ∀ x ∈ V.int 0 :: cutV (ns.map V.int) none (some 4), ∃ z, x = V.int z := fun x hx => cells_int hx
    generalize V.int 0 :: cutV (ns.map V.int) none (some 4) = xs at hxs tb1 ⊢
    refine forL (xs := xs) (fun i σ H2 => ∃ o1 o2 o3 o4 : Option V, σ = [some (V.ref a), o1, o2, o3, o4] ∧ H2 p3 = some (.lst xs) ∧ Tbs tbs H2) ⟨_, _, _, _, rfl, upd_same, tb1⟩ (fun i σ H2 _ ⟨_, _, _, _, _, h2, _⟩ => SqL.of h2) ?_ ?_
    · rintro i x σ H2 hi ⟨o1, o2, o3, o4, rfl, ep3, tb⟩
      obtain ⟨z, rfl⟩ := hxs x (List.mem_of_getElem? hi)
      clear tb1 tb0
      walk_at "vc"
      refine ⟨Nat.le_of_lt (small1000 (Nat.le_of_ble_eq_true rfl)), fun r hr0 => ?_⟩
      have row0 : Row 0 (upd H2 r (.lst [.int z, .int 0])) r := row_new
      have np3 : p3 ≠ r := ne_of_none ep3 hr0
      replace ep3 := same_upd (o := .lst [.int z, .int 0]) hr0 _ _ ep3
      replace tb := tb.mono (same_upd (o := .lst [.int z, .int 0]) hr0)
      generalize upd H2 r (.lst [.int z, .int 0]) = H3 at row0 ep3 tb ⊢
      clear hr0
      try walk_at "vc"
      refine newL (Nat.le_of_ble_eq_true rfl) (fun pl H4 s4 npl epl => ?_)
      try walk_at "vc"
      have nplr : pl ≠ r := by
        obtain ⟨_, er⟩ := row0.at_
        exact (ne_of_none er npl).symm
      have tbk : ∀ {m : Nat} {J J' : Hp}, Row m J r → Kp r J J' → Tbs tbs J → Tbs tbs J' := fun hr hk ht => by
        obtain ⟨_, er⟩ := hr.at_
        exact Tbs.kp er hk ht
      refine u_law_take (row0.mono s4) (by decide) (by decide) (by decide) (fun t4 H5 t40 t41 row5 k5 t5 => ?_)
      refine eq_i ?_
      refine .inr ⟨_, rfl, ?_⟩
      refine ix_two (k5 _ _ epl nplr) (by split <;> decide) (by split <;> decide) (fun far hfar => ?_)
      have tb5 := tbk (row0.mono s4) k5 (tb.mono s4)
      have ep5 := k5 _ _ (s4 _ _ ep3) np3
      refine u_law_wide row5 (by decide) (by rcases hfar with rfl | rfl <;> decide) (by rcases hfar with rfl | rfl <;> decide) (fun p ps H6 hp hF npr row6 k6 t6 => ?_)
      have tb6 := tbk row5 k6 tb5
      have ep6 := k6 _ _ ep5 np3
      obtain ⟨h3, h6, _⟩ := fdP_parts hF
      try walk_at "vc"
      refine ⟨by decide, by decide, ?_⟩
      refine forR (fun i σ J => ∃ o4 : Option V, σ = [some (V.ref a), some (V.int z), some (V.ref r), some (V.ref p), o4] ∧ Row (30 + 10 * i) J r ∧ Tps 120 J p ps ∧ J p3 = some (.lst xs) ∧ Tbs tbs J) ⟨_, rfl, Row.le (by omega) row6, hp, ep6, tb6⟩ ?_ ?_
      · rintro i σ J hi ⟨o4', rfl, rowi, hpi, epi, tbi⟩
        try walk_at "vc"
        obtain ⟨ys, ey, hys⟩ := hpi.ex
        have hyl := hys.1
        refine len_t ey ?_
        refine u_law_take rowi (by omega) (by omega) (by show _ < 1606938044258990275541962092341162602522202993782792835301376; omega) (fun c J2 c0 c1 row7 k7 t7 => ?_)
        obtain ⟨cn, rfl⟩ := Int.eq_ofNat_of_zero_le c0
        have tb7 := tbk rowi k7 tbi
        refine u_law_right row7 (by omega) (hpi.tk t7) hF (by omega) tb7 (fun J3 row8 k8 t8 tb8 => ?_)
        try walk_at "vc"
        exact ⟨Row.le (by omega) row8, hpi.tk (t7.trans t8), k8 _ _ (k7 _ _ epi np3) np3, tb8⟩
      rintro σ J ⟨o4', rfl, rowi, hpi, epi, tbi⟩
      exact ⟨_, _, _, _, rfl, epi, tbi⟩
    · rintro σ H2 ⟨o1, o2, o3, o4, rfl, ep3, tb⟩
      walk_at "vc"
      exact k _ tb
end
set_option maxHeartbeats 0 in
theorem all_mk {l : PySem.W.OpenLaw} {w : World} {K : PySem.W.Frag} {h : Heap} {mg : Str → Option Value} {fa f0 f1 f2 f3 f4 f5 f6 f7 f8 f9 f10 f11 f12 f13 f14 f15 f16 f17 f18 f19 f20 f21 f22 f23 f24 f25 f26 f27 f28 f29 f30 f31 f32 f33 f34 f35 f36 f37 f38 f39 f40 f41 f42 : Addr} (X : K.In h) (G : h.Ns mainGlobals mg) (hfa : mg "law" = some (.ref fa))
    {od0 an0 od1 an1 od2 an2 od3 an3 od4 an4 od5 an5 od6 an6 od7 an7 od8 an8 od9 an9 od10 an10 od11 an11 od12 an12 od13 an13 od14 an14 od15 an15 od16 an16 od17 an17 od18 an18 od19 an19 od20 an20 od21 an21 od22 an22 od23 an23 od24 an24 od25 an25 od26 an26 od27 an27 od28 an28 od29 an29 od30 an30 od31 an31 od32 an32 od33 an33 od34 an34 od35 an35 od36 an36 od37 an37 od38 an38 od39 an39 od40 an40 od41 an41 od42 an42 : Option Addr} {sl0 sl1 sl2 sl3 sl4 sl5 sl6 sl7 sl8 sl9 sl10 sl11 sl12 sl13 sl14 sl15 sl16 sl17 sl18 sl19 sl20 sl21 sl22 sl23 sl24 sl25 sl26 sl27 sl28 sl29 sl30 sl31 sl32 sl33 sl34 sl35 sl36 sl37 sl38 sl39 sl40 sl41 sl42 : Array (Option Value)} {oc0 kV0 dc0 pm0 cd0 ct0 oc1 kV1 dc1 pm1 cd1 ct1 oc2 kV2 dc2 pm2 cd2 ct2 oc3 kV3 dc3 pm3 cd3 ct3 oc4 kV4 dc4 pm4 cd4 ct4 oc5 kV5 dc5 pm5 cd5 ct5 oc6 kV6 dc6 pm6 cd6 ct6 oc7 kV7 dc7 pm7 cd7 ct7 oc8 kV8 dc8 pm8 cd8 ct8 oc9 kV9 dc9 pm9 cd9 ct9 oc10 kV10 dc10 pm10 cd10 ct10 oc11 kV11 dc11 pm11 cd11 ct11 oc12 kV12 dc12 pm12 cd12 ct12 oc13 kV13 dc13 pm13 cd13 ct13 oc14 kV14 dc14 pm14 cd14 ct14 oc15 kV15 dc15 pm15 cd15 ct15 oc16 kV16 dc16 pm16 cd16 ct16 oc17 kV17 dc17 pm17 cd17 ct17 oc18 kV18 dc18 pm18 cd18 ct18 oc19 kV19 dc19 pm19 cd19 ct19 oc20 kV20 dc20 pm20 cd20 ct20 oc21 kV21 dc21 pm21 cd21 ct21 oc22 kV22 dc22 pm22 cd22 ct22 oc23 kV23 dc23 pm23 cd23 ct23 oc24 kV24 dc24 pm24 cd24 ct24 oc25 kV25 dc25 pm25 cd25 ct25 oc26 kV26 dc26 pm26 cd26 ct26 oc27 kV27 dc27 pm27 cd27 ct27 oc28 kV28 dc28 pm28 cd28 ct28 oc29 kV29 dc29 pm29 cd29 ct29 oc30 kV30 dc30 pm30 cd30 ct30 oc31 kV31 dc31 pm31 cd31 ct31 oc32 kV32 dc32 pm32 cd32 ct32 oc33 kV33 dc33 pm33 cd33 ct33 oc34 kV34 dc34 pm34 cd34 ct34 oc35 kV35 dc35 pm35 cd35 ct35 oc36 kV36 dc36 pm36 cd36 ct36 oc37 kV37 dc37 pm37 cd37 ct37 oc38 kV38 dc38 pm38 cd38 ct38 oc39 kV39 dc39 pm39 cd39 ct39 oc40 kV40 dc40 pm40 cd40 ct40 oc41 kV41 dc41 pm41 cd41 ct41 oc42 kV42 dc42 pm42 cd42 ct42 : Value}
    (a0 : PySem.W.nsIn K mainGlobals "is_whole" = some (some (.ref f0))) (l0 : K.lookup f0 = some ⟨oc0, od0, .func (PySem.W.fnOf "is_whole" "is_whole" (defArgs s_is_whole) (defBody s_is_whole) (defScope s_is_whole) .none kV0 dc0 pm0 an0 cd0 ct0), sl0⟩) (c0 : PySem.W.codeIn K cd0 "is_whole" = true) (k0 : PySem.W.keepIn K (.ref f0) = true)
    (a1 : PySem.W.nsIn K mainGlobals "divisor" = some (some (.ref f1))) (l1 : K.lookup f1 = some ⟨oc1, od1, .func (PySem.W.fnOf "divisor" "divisor" (defArgs s_divisor) (defBody s_divisor) (defScope s_divisor) .none kV1 dc1 pm1 an1 cd1 ct1), sl1⟩) (c1 : PySem.W.codeIn K cd1 "divisor" = true) (k1 : PySem.W.keepIn K (.ref f1) = true)
    (a2 : PySem.W.nsIn K mainGlobals "in_lowest" = some (some (.ref f2))) (l2 : K.lookup f2 = some ⟨oc2, od2, .func (PySem.W.fnOf "in_lowest" "in_lowest" (defArgs s_in_lowest) (defBody s_in_lowest) (defScope s_in_lowest) .none kV2 dc2 pm2 an2 cd2 ct2), sl2⟩) (c2 : PySem.W.codeIn K cd2 "in_lowest" = true) (k2 : PySem.W.keepIn K (.ref f2) = true)
    (a3 : PySem.W.nsIn K mainGlobals "added" = some (some (.ref f3))) (l3 : K.lookup f3 = some ⟨oc3, od3, .func (PySem.W.fnOf "added" "added" (defArgs s_added) (defBody s_added) (defScope s_added) .none kV3 dc3 pm3 an3 cd3 ct3), sl3⟩) (c3 : PySem.W.codeIn K cd3 "added" = true) (k3 : PySem.W.keepIn K (.ref f3) = true)
    (a4 : PySem.W.nsIn K mainGlobals "lessened" = some (some (.ref f4))) (l4 : K.lookup f4 = some ⟨oc4, od4, .func (PySem.W.fnOf "lessened" "lessened" (defArgs s_lessened) (defBody s_lessened) (defScope s_lessened) .none kV4 dc4 pm4 an4 cd4 ct4), sl4⟩) (c4 : PySem.W.codeIn K cd4 "lessened" = true) (k4 : PySem.W.keepIn K (.ref f4) = true)
    (a5 : PySem.W.nsIn K mainGlobals "multiplied" = some (some (.ref f5))) (l5 : K.lookup f5 = some ⟨oc5, od5, .func (PySem.W.fnOf "multiplied" "multiplied" (defArgs s_multiplied) (defBody s_multiplied) (defScope s_multiplied) .none kV5 dc5 pm5 an5 cd5 ct5), sl5⟩) (c5 : PySem.W.codeIn K cd5 "multiplied" = true) (k5 : PySem.W.keepIn K (.ref f5) = true)
    (a6 : PySem.W.nsIn K mainGlobals "is_frac" = some (some (.ref f6))) (l6 : K.lookup f6 = some ⟨oc6, od6, .func (PySem.W.fnOf "is_frac" "is_frac" (defArgs s_is_frac) (defBody s_is_frac) (defScope s_is_frac) .none kV6 dc6 pm6 an6 cd6 ct6), sl6⟩) (c6 : PySem.W.codeIn K cd6 "is_frac" = true) (k6 : PySem.W.keepIn K (.ref f6) = true)
    (a7 : PySem.W.nsIn K mainGlobals "is_spot" = some (some (.ref f7))) (l7 : K.lookup f7 = some ⟨oc7, od7, .func (PySem.W.fnOf "is_spot" "is_spot" (defArgs s_is_spot) (defBody s_is_spot) (defScope s_is_spot) .none kV7 dc7 pm7 an7 cd7 ct7), sl7⟩) (c7 : PySem.W.codeIn K cd7 "is_spot" = true) (k7 : PySem.W.keepIn K (.ref f7) = true)
    (a8 : PySem.W.nsIn K mainGlobals "twice_of" = some (some (.ref f8))) (l8 : K.lookup f8 = some ⟨oc8, od8, .func (PySem.W.fnOf "twice_of" "twice_of" (defArgs s_twice_of) (defBody s_twice_of) (defScope s_twice_of) .none kV8 dc8 pm8 an8 cd8 ct8), sl8⟩) (c8 : PySem.W.codeIn K cd8 "twice_of" = true) (k8 : PySem.W.keepIn K (.ref f8) = true)
    (a9 : PySem.W.nsIn K mainGlobals "gap" = some (some (.ref f9))) (l9 : K.lookup f9 = some ⟨oc9, od9, .func (PySem.W.fnOf "gap" "gap" (defArgs s_gap) (defBody s_gap) (defScope s_gap) .none kV9 dc9 pm9 an9 cd9 ct9), sl9⟩) (c9 : PySem.W.codeIn K cd9 "gap" = true) (k9 : PySem.W.keepIn K (.ref f9) = true)
    (a10 : PySem.W.nsIn K mainGlobals "turn_of" = some (some (.ref f10))) (l10 : K.lookup f10 = some ⟨oc10, od10, .func (PySem.W.fnOf "turn_of" "turn_of" (defArgs s_turn_of) (defBody s_turn_of) (defScope s_turn_of) .none kV10 dc10 pm10 an10 cd10 ct10), sl10⟩) (c10 : PySem.W.codeIn K cd10 "turn_of" = true) (k10 : PySem.W.keepIn K (.ref f10) = true)
    (a11 : PySem.W.nsIn K mainGlobals "part_on" = some (some (.ref f11))) (l11 : K.lookup f11 = some ⟨oc11, od11, .func (PySem.W.fnOf "part_on" "part_on" (defArgs s_part_on) (defBody s_part_on) (defScope s_part_on) .none kV11 dc11 pm11 an11 cd11 ct11), sl11⟩) (c11 : PySem.W.codeIn K cd11 "part_on" = true) (k11 : PySem.W.keepIn K (.ref f11) = true)
    (a12 : PySem.W.nsIn K mainGlobals "on_way" = some (some (.ref f12))) (l12 : K.lookup f12 = some ⟨oc12, od12, .func (PySem.W.fnOf "on_way" "on_way" (defArgs s_on_way) (defBody s_on_way) (defScope s_on_way) .none kV12 dc12 pm12 an12 cd12 ct12), sl12⟩) (c12 : PySem.W.codeIn K cd12 "on_way" = true) (k12 : PySem.W.keepIn K (.ref f12) = true)
    (a13 : PySem.W.nsIn K mainGlobals "_law_take" = some (some (.ref f13))) (l13 : K.lookup f13 = some ⟨oc13, od13, .func (PySem.W.fnOf "_law_take" "_law_take" (defArgs s_law_take) (defBody s_law_take) (defScope s_law_take) .none kV13 dc13 pm13 an13 cd13 ct13), sl13⟩) (c13 : PySem.W.codeIn K cd13 "_law_take" = true) (k13 : PySem.W.keepIn K (.ref f13) = true)
    (a14 : PySem.W.nsIn K mainGlobals "after" = some (some (.ref f14))) (l14 : K.lookup f14 = some ⟨oc14, od14, .func (PySem.W.fnOf "after" "after" (defArgs s_after) (defBody s_after) (defScope s_after) .none kV14 dc14 pm14 an14 cd14 ct14), sl14⟩) (c14 : PySem.W.codeIn K cd14 "after" = true) (k14 : PySem.W.keepIn K (.ref f14) = true)
    (a15 : PySem.W.nsIn K mainGlobals "others_left" = some (some (.ref f15))) (l15 : K.lookup f15 = some ⟨oc15, od15, .func (PySem.W.fnOf "others_left" "others_left" (defArgs s_others_left) (defBody s_others_left) (defScope s_others_left) .none kV15 dc15 pm15 an15 cd15 ct15), sl15⟩) (c15 : PySem.W.codeIn K cd15 "others_left" = true) (k15 : PySem.W.keepIn K (.ref f15) = true)
    (a16 : PySem.W.nsIn K mainGlobals "is_field" = some (some (.ref f16))) (l16 : K.lookup f16 = some ⟨oc16, od16, .func (PySem.W.fnOf "is_field" "is_field" (defArgs s_is_field) (defBody s_is_field) (defScope s_is_field) .none kV16 dc16 pm16 an16 cd16 ct16), sl16⟩) (c16 : PySem.W.codeIn K cd16 "is_field" = true) (k16 : PySem.W.keepIn K (.ref f16) = true)
    (a17 : PySem.W.nsIn K mainGlobals "look_field" = some (some (.ref f17))) (l17 : K.lookup f17 = some ⟨oc17, od17, .func (PySem.W.fnOf "look_field" "look_field" (defArgs s_look_field) (defBody s_look_field) (defScope s_look_field) .none kV17 dc17 pm17 an17 cd17 ct17), sl17⟩) (c17 : PySem.W.codeIn K cd17 "look_field" = true) (k17 : PySem.W.keepIn K (.ref f17) = true)
    (a18 : PySem.W.nsIn K mainGlobals "frac_of" = some (some (.ref f18))) (l18 : K.lookup f18 = some ⟨oc18, od18, .func (PySem.W.fnOf "frac_of" "frac_of" (defArgs s_frac_of) (defBody s_frac_of) (defScope s_frac_of) .none kV18 dc18 pm18 an18 cd18 ct18), sl18⟩) (c18 : PySem.W.codeIn K cd18 "frac_of" = true) (k18 : PySem.W.keepIn K (.ref f18) = true)
    (a19 : PySem.W.nsIn K mainGlobals "is_corner_number" = some (some (.ref f19))) (l19 : K.lookup f19 = some ⟨oc19, od19, .func (PySem.W.fnOf "is_corner_number" "is_corner_number" (defArgs s_is_corner_number) (defBody s_is_corner_number) (defScope s_is_corner_number) .none kV19 dc19 pm19 an19 cd19 ct19), sl19⟩) (c19 : PySem.W.codeIn K cd19 "is_corner_number" = true) (k19 : PySem.W.keepIn K (.ref f19) = true)
    (a20 : PySem.W.nsIn K mainGlobals "fan_of" = some (some (.ref f20))) (l20 : K.lookup f20 = some ⟨oc20, od20, .func (PySem.W.fnOf "fan_of" "fan_of" (defArgs s_fan_of) (defBody s_fan_of) (defScope s_fan_of) .none kV20 dc20 pm20 an20 cd20 ct20), sl20⟩) (c20 : PySem.W.codeIn K cd20 "fan_of" = true) (k20 : PySem.W.keepIn K (.ref f20) = true)
    (a21 : PySem.W.nsIn K mainGlobals "common_bottom" = some (some (.ref f21))) (l21 : K.lookup f21 = some ⟨oc21, od21, .func (PySem.W.fnOf "common_bottom" "common_bottom" (defArgs s_common_bottom) (defBody s_common_bottom) (defScope s_common_bottom) .none kV21 dc21 pm21 an21 cd21 ct21), sl21⟩) (c21 : PySem.W.codeIn K cd21 "common_bottom" = true) (k21 : PySem.W.keepIn K (.ref f21) = true)
    (a22 : PySem.W.nsIn K mainGlobals "in_least" = some (some (.ref f22))) (l22 : K.lookup f22 = some ⟨oc22, od22, .func (PySem.W.fnOf "in_least" "in_least" (defArgs s_in_least) (defBody s_in_least) (defScope s_in_least) .none kV22 dc22 pm22 an22 cd22 ct22), sl22⟩) (c22 : PySem.W.codeIn K cd22 "in_least" = true) (k22 : PySem.W.keepIn K (.ref f22) = true)
    (a23 : PySem.W.nsIn K mainGlobals "shares_in" = some (some (.ref f23))) (l23 : K.lookup f23 = some ⟨oc23, od23, .func (PySem.W.fnOf "shares_in" "shares_in" (defArgs s_shares_in) (defBody s_shares_in) (defScope s_shares_in) .none kV23 dc23 pm23 an23 cd23 ct23), sl23⟩) (c23 : PySem.W.codeIn K cd23 "shares_in" = true) (k23 : PySem.W.keepIn K (.ref f23) = true)
    (a24 : PySem.W.nsIn K mainGlobals "even_ways" = some (some (.ref f24))) (l24 : K.lookup f24 = some ⟨oc24, od24, .func (PySem.W.fnOf "even_ways" "even_ways" (defArgs s_even_ways) (defBody s_even_ways) (defScope s_even_ways) .none kV24 dc24 pm24 an24 cd24 ct24), sl24⟩) (c24 : PySem.W.codeIn K cd24 "even_ways" = true) (k24 : PySem.W.keepIn K (.ref f24) = true)
    (a25 : PySem.W.nsIn K mainGlobals "cut_evenly" = some (some (.ref f25))) (l25 : K.lookup f25 = some ⟨oc25, od25, .func (PySem.W.fnOf "cut_evenly" "cut_evenly" (defArgs s_cut_evenly) (defBody s_cut_evenly) (defScope s_cut_evenly) .none kV25 dc25 pm25 an25 cd25 ct25), sl25⟩) (c25 : PySem.W.codeIn K cd25 "cut_evenly" = true) (k25 : PySem.W.keepIn K (.ref f25) = true)
    (a26 : PySem.W.nsIn K mainGlobals "fan_cut" = some (some (.ref f26))) (l26 : K.lookup f26 = some ⟨oc26, od26, .func (PySem.W.fnOf "fan_cut" "fan_cut" (defArgs s_fan_cut) (defBody s_fan_cut) (defScope s_fan_cut) .none kV26 dc26 pm26 an26 cd26 ct26), sl26⟩) (c26 : PySem.W.codeIn K cd26 "fan_cut" = true) (k26 : PySem.W.keepIn K (.ref f26) = true)
    (a27 : PySem.W.nsIn K mainGlobals "_law_lowest" = some (some (.ref f27))) (l27 : K.lookup f27 = some ⟨oc27, od27, .func (PySem.W.fnOf "_law_lowest" "_law_lowest" (defArgs s_law_lowest) (defBody s_law_lowest) (defScope s_law_lowest) .none kV27 dc27 pm27 an27 cd27 ct27), sl27⟩) (c27 : PySem.W.codeIn K cd27 "_law_lowest" = true) (k27 : PySem.W.keepIn K (.ref f27) = true)
    (a28 : PySem.W.nsIn K mainGlobals "_law_gap" = some (some (.ref f28))) (l28 : K.lookup f28 = some ⟨oc28, od28, .func (PySem.W.fnOf "_law_gap" "_law_gap" (defArgs s_law_gap) (defBody s_law_gap) (defScope s_law_gap) .none kV28 dc28 pm28 an28 cd28 ct28), sl28⟩) (c28 : PySem.W.codeIn K cd28 "_law_gap" = true) (k28 : PySem.W.keepIn K (.ref f28) = true)
    (a29 : PySem.W.nsIn K mainGlobals "_law_twice" = some (some (.ref f29))) (l29 : K.lookup f29 = some ⟨oc29, od29, .func (PySem.W.fnOf "_law_twice" "_law_twice" (defArgs s_law_twice) (defBody s_law_twice) (defScope s_law_twice) .none kV29 dc29 pm29 an29 cd29 ct29), sl29⟩) (c29 : PySem.W.codeIn K cd29 "_law_twice" = true) (k29 : PySem.W.keepIn K (.ref f29) = true)
    (a30 : PySem.W.nsIn K mainGlobals "_law_field" = some (some (.ref f30))) (l30 : K.lookup f30 = some ⟨oc30, od30, .func (PySem.W.fnOf "_law_field" "_law_field" (defArgs s_law_field) (defBody s_law_field) (defScope s_law_field) .none kV30 dc30 pm30 an30 cd30 ct30), sl30⟩) (c30 : PySem.W.codeIn K cd30 "_law_field" = true) (k30 : PySem.W.keepIn K (.ref f30) = true)
    (a31 : PySem.W.nsIn K mainGlobals "_law_word" = some (some (.ref f31))) (l31 : K.lookup f31 = some ⟨oc31, od31, .func (PySem.W.fnOf "_law_word" "_law_word" (defArgs s_law_word) (defBody s_law_word) (defScope s_law_word) .none kV31 dc31 pm31 an31 cd31 ct31), sl31⟩) (c31 : PySem.W.codeIn K cd31 "_law_word" = true) (k31 : PySem.W.keepIn K (.ref f31) = true)
    (a32 : PySem.W.nsIn K mainGlobals "_law_said" = some (some (.ref f32))) (l32 : K.lookup f32 = some ⟨oc32, od32, .func (PySem.W.fnOf "_law_said" "_law_said" (defArgs s_law_said) (defBody s_law_said) (defScope s_law_said) .none kV32 dc32 pm32 an32 cd32 ct32), sl32⟩) (c32 : PySem.W.codeIn K cd32 "_law_said" = true) (k32 : PySem.W.keepIn K (.ref f32) = true)
    (a33 : PySem.W.nsIn K mainGlobals "_law_added" = some (some (.ref f33))) (l33 : K.lookup f33 = some ⟨oc33, od33, .func (PySem.W.fnOf "_law_added" "_law_added" (defArgs s_law_added) (defBody s_law_added) (defScope s_law_added) .none kV33 dc33 pm33 an33 cd33 ct33), sl33⟩) (c33 : PySem.W.codeIn K cd33 "_law_added" = true) (k33 : PySem.W.keepIn K (.ref f33) = true)
    (a34 : PySem.W.nsIn K mainGlobals "_law_over" = some (some (.ref f34))) (l34 : K.lookup f34 = some ⟨oc34, od34, .func (PySem.W.fnOf "_law_over" "_law_over" (defArgs s_law_over) (defBody s_law_over) (defScope s_law_over) .none kV34 dc34 pm34 an34 cd34 ct34), sl34⟩) (c34 : PySem.W.codeIn K cd34 "_law_over" = true) (k34 : PySem.W.keepIn K (.ref f34) = true)
    (a35 : PySem.W.nsIn K mainGlobals "_law_whole_of" = some (some (.ref f35))) (l35 : K.lookup f35 = some ⟨oc35, od35, .func (PySem.W.fnOf "_law_whole_of" "_law_whole_of" (defArgs s_law_whole_of) (defBody s_law_whole_of) (defScope s_law_whole_of) .none kV35 dc35 pm35 an35 cd35 ct35), sl35⟩) (c35 : PySem.W.codeIn K cd35 "_law_whole_of" = true) (k35 : PySem.W.keepIn K (.ref f35) = true)
    (a36 : PySem.W.nsIn K mainGlobals "_law_gcd" = some (some (.ref f36))) (l36 : K.lookup f36 = some ⟨oc36, od36, .func (PySem.W.fnOf "_law_gcd" "_law_gcd" (defArgs s_law_gcd) (defBody s_law_gcd) (defScope s_law_gcd) .none kV36 dc36 pm36 an36 cd36 ct36), sl36⟩) (c36 : PySem.W.codeIn K cd36 "_law_gcd" = true) (k36 : PySem.W.keepIn K (.ref f36) = true)
    (a37 : PySem.W.nsIn K mainGlobals "_law_shares" = some (some (.ref f37))) (l37 : K.lookup f37 = some ⟨oc37, od37, .func (PySem.W.fnOf "_law_shares" "_law_shares" (defArgs s_law_shares) (defBody s_law_shares) (defScope s_law_shares) .none kV37 dc37 pm37 an37 cd37 ct37), sl37⟩) (c37 : PySem.W.codeIn K cd37 "_law_shares" = true) (k37 : PySem.W.keepIn K (.ref f37) = true)
    (a38 : PySem.W.nsIn K mainGlobals "_law_spot" = some (some (.ref f38))) (l38 : K.lookup f38 = some ⟨oc38, od38, .func (PySem.W.fnOf "_law_spot" "_law_spot" (defArgs s_law_spot) (defBody s_law_spot) (defScope s_law_spot) .none kV38 dc38 pm38 an38 cd38 ct38), sl38⟩) (c38 : PySem.W.codeIn K cd38 "_law_spot" = true) (k38 : PySem.W.keepIn K (.ref f38) = true)
    (a39 : PySem.W.nsIn K mainGlobals "_law_due" = some (some (.ref f39))) (l39 : K.lookup f39 = some ⟨oc39, od39, .func (PySem.W.fnOf "_law_due" "_law_due" (defArgs s_law_due) (defBody s_law_due) (defScope s_law_due) .none kV39 dc39 pm39 an39 cd39 ct39), sl39⟩) (c39 : PySem.W.codeIn K cd39 "_law_due" = true) (k39 : PySem.W.keepIn K (.ref f39) = true)
    (a40 : PySem.W.nsIn K mainGlobals "_law_wide" = some (some (.ref f40))) (l40 : K.lookup f40 = some ⟨oc40, od40, .func (PySem.W.fnOf "_law_wide" "_law_wide" (defArgs s_law_wide) (defBody s_law_wide) (defScope s_law_wide) .none kV40 dc40 pm40 an40 cd40 ct40), sl40⟩) (c40 : PySem.W.codeIn K cd40 "_law_wide" = true) (k40 : PySem.W.keepIn K (.ref f40) = true)
    (a41 : PySem.W.nsIn K mainGlobals "_law_right" = some (some (.ref f41))) (l41 : K.lookup f41 = some ⟨oc41, od41, .func (PySem.W.fnOf "_law_right" "_law_right" (defArgs s_law_right) (defBody s_law_right) (defScope s_law_right) .none kV41 dc41 pm41 an41 cd41 ct41), sl41⟩) (c41 : PySem.W.codeIn K cd41 "_law_right" = true) (k41 : PySem.W.keepIn K (.ref f41) = true)
    (a42 : PySem.W.nsIn K mainGlobals "law" = some (some (.ref f42))) (l42 : K.lookup f42 = some ⟨oc42, od42, .func (PySem.W.fnOf "law" "law" (defArgs s_law) (defBody s_law) (defScope s_law) .none kV42 dc42 pm42 an42 cd42 ct42), sl42⟩) (c42 : PySem.W.codeIn K cd42 "law" = true) (k42 : PySem.W.keepIn K (.ref f42) = true)
    (zz_isinstance : PySem.W.nsIn K mainGlobals "isinstance" = some none)
    (zz_int : PySem.W.nsIn K mainGlobals "int" = some none)
    (zz_bool : PySem.W.nsIn K mainGlobals "bool" = some none)
    (zz_abs : PySem.W.nsIn K mainGlobals "abs" = some none)
    (zz_tuple : PySem.W.nsIn K mainGlobals "tuple" = some none)
    (zz_len : PySem.W.nsIn K mainGlobals "len" = some none)
    (zz_all : PySem.W.nsIn K mainGlobals "all" = some none)
    (zz_range : PySem.W.nsIn K mainGlobals "range" = some none)
    (zz_sum : PySem.W.nsIn K mainGlobals "sum" = some none)
    (zz_zip : PySem.W.nsIn K mainGlobals "zip" = some none)
    (zz_ValueError : PySem.W.nsIn K mainGlobals "ValueError" = some none)
    (zz_enumerate : PySem.W.nsIn K mainGlobals "enumerate" = some none)
    (zz_max : PySem.W.nsIn K mainGlobals "max" = some none)
    (zz_list : PySem.W.nsIn K mainGlobals "list" = some none)
    {c_NoField c_NoWay c_NoNumber c_NoPrime c_NoCutting c_NoLine c_NoFrame c_NoDoor c_NoPaper c_NoAreas c_NoSpot c_NoMove c_NoBend c_TooMany c_NoText c_NoRow c_NoName c_ShardError : Addr}
    (gg_NoField : PySem.W.nsIn K mainGlobals "NoField" = some (some (.ref c_NoField)))
    (gg_NoWay : PySem.W.nsIn K mainGlobals "NoWay" = some (some (.ref c_NoWay)))
    (gg_NoNumber : PySem.W.nsIn K mainGlobals "NoNumber" = some (some (.ref c_NoNumber)))
    (gg_NoPrime : PySem.W.nsIn K mainGlobals "NoPrime" = some (some (.ref c_NoPrime)))
    (gg_NoCutting : PySem.W.nsIn K mainGlobals "NoCutting" = some (some (.ref c_NoCutting)))
    (gg_NoLine : PySem.W.nsIn K mainGlobals "NoLine" = some (some (.ref c_NoLine)))
    (gg_NoFrame : PySem.W.nsIn K mainGlobals "NoFrame" = some (some (.ref c_NoFrame)))
    (gg_NoDoor : PySem.W.nsIn K mainGlobals "NoDoor" = some (some (.ref c_NoDoor)))
    (gg_NoPaper : PySem.W.nsIn K mainGlobals "NoPaper" = some (some (.ref c_NoPaper)))
    (gg_NoAreas : PySem.W.nsIn K mainGlobals "NoAreas" = some (some (.ref c_NoAreas)))
    (gg_NoSpot : PySem.W.nsIn K mainGlobals "NoSpot" = some (some (.ref c_NoSpot)))
    (gg_NoMove : PySem.W.nsIn K mainGlobals "NoMove" = some (some (.ref c_NoMove)))
    (gg_NoBend : PySem.W.nsIn K mainGlobals "NoBend" = some (some (.ref c_NoBend)))
    (gg_TooMany : PySem.W.nsIn K mainGlobals "TooMany" = some (some (.ref c_TooMany)))
    (gg_NoText : PySem.W.nsIn K mainGlobals "NoText" = some (some (.ref c_NoText)))
    (gg_NoRow : PySem.W.nsIn K mainGlobals "NoRow" = some (some (.ref c_NoRow)))
    (gg_NoName : PySem.W.nsIn K mainGlobals "NoName" = some (some (.ref c_NoName)))
    (gg_ShardError : PySem.W.nsIn K mainGlobals "ShardError" = some (some (.ref c_ShardError)))
    (xa_NoField : PySem.W.excIn K c_NoField [.type "ValueError", .type "Exception", .type "BaseException", .type "object"] "ValueError.__new__" = true)
    (xb_NoField : PySem.W.findIn K (.ref c_NoField) "__getattribute__" = some (some (.builtin "BaseException.__getattribute__")))
    (xc_NoField : PySem.W.findIn K (.ref c_NoField) "__getattr__" = some none)
    (xd_NoField : PySem.W.findIn K (.ref c_NoField) "__class__" = some (some (.builtin "object.__class__")))
    (xe_NoField : PySem.W.mroIn K c_NoField (.type "BaseException") = some true)
    (xf_NoField : PySem.W.mroIn K c_NoField (.type "object") = some true)
    (xg_NoField : PySem.W.mroIn K c_NoField (.ref c_ShardError) = some true)
    (xa_NoWay : PySem.W.excIn K c_NoWay [.type "ValueError", .type "Exception", .type "BaseException", .type "object"] "ValueError.__new__" = true)
    (xb_NoWay : PySem.W.findIn K (.ref c_NoWay) "__getattribute__" = some (some (.builtin "BaseException.__getattribute__")))
    (xc_NoWay : PySem.W.findIn K (.ref c_NoWay) "__getattr__" = some none)
    (xd_NoWay : PySem.W.findIn K (.ref c_NoWay) "__class__" = some (some (.builtin "object.__class__")))
    (xe_NoWay : PySem.W.mroIn K c_NoWay (.type "BaseException") = some true)
    (xf_NoWay : PySem.W.mroIn K c_NoWay (.type "object") = some true)
    (xg_NoWay : PySem.W.mroIn K c_NoWay (.ref c_ShardError) = some true)
    (sa_ShardError : PySem.W.typeIn K (.ref c_ShardError) = some (.type "type"))
    (sb_ShardError : PySem.W.mroIn K c_ShardError (.type "BaseException") = some true)
    {tk_FEWEST : Tok}
    (gg_FEWEST : PySem.W.nsIn K mainGlobals "FEWEST" = some (some (.int 3 tk_FEWEST)))
    {tk_MOST : Tok}
    (gg_MOST : PySem.W.nsIn K mainGlobals "MOST" = some (some (.int 6 tk_MOST)))
    {tk_MOST_PIECES : Tok}
    (gg_MOST_PIECES : PySem.W.nsIn K mainGlobals "MOST_PIECES" = some (some (.int 30 tk_MOST_PIECES)))
    (tab : tabB K [c_NoNumber, c_NoPrime, c_NoField, c_NoCutting, c_NoLine, c_NoFrame, c_NoDoor, c_NoPaper, c_NoAreas, c_NoWay, c_NoSpot, c_NoMove, c_NoBend, c_TooMany, c_NoText, c_NoRow, c_NoName] = true)
    (xcls : List.all [c_NoNumber, c_NoPrime, c_NoField, c_NoCutting, c_NoLine, c_NoFrame, c_NoDoor, c_NoPaper, c_NoAreas, c_NoWay, c_NoSpot, c_NoMove, c_NoBend, c_TooMany, c_NoText, c_NoRow, c_NoName] (xclsB K) = true)
    (kVal : kitAllB K [c_NoNumber, c_NoPrime, c_NoField, c_NoCutting, c_NoLine, c_NoFrame, c_NoDoor, c_NoPaper, c_NoAreas, c_NoWay, c_NoSpot, c_NoMove, c_NoBend, c_TooMany, c_NoText, c_NoRow, c_NoName] (.type "ValueError") = true)
    (kSub : List.all [c_NoNumber, c_NoPrime, c_NoField, c_NoCutting, c_NoLine, c_NoFrame, c_NoDoor, c_NoPaper, c_NoAreas, c_NoWay, c_NoSpot, c_NoMove, c_NoBend, c_TooMany, c_NoText, c_NoRow, c_NoName] (fun C => PySem.W.mroIn K C (.ref c_ShardError) == some true) = true)
    {q_others_left t_others_left : Addr} {odq_others_left : Option Addr} {vq_others_left : Array Value} {slq_others_left : Array (Option Value)} {file_others_left : Str} {tf_others_left tg_others_left tt_others_left : Tok} {flags_others_left text_others_left : Int} {inF_others_left : Bool}
    (qe_others_left : cd15 = .ref q_others_left)
    (lq_others_left : K.lookup q_others_left = some ⟨.type "code", odq_others_left, .fields vq_others_left, slq_others_left⟩)
    (q1_others_left : vq_others_left[11]? = some (.ref t_others_left))
    (q2_others_left : vq_others_left.getD 18 .none = .str file_others_left tf_others_left)
    (q3_others_left : vq_others_left.getD 7 .none = .int flags_others_left tg_others_left)
    (q4_others_left : vq_others_left.getD 9 .none = .bool inF_others_left)
    (q5_others_left : vq_others_left.getD 10 .none = .int text_others_left tt_others_left)
    (q6_others_left : q_others_left ≠ t_others_left)
    {q_is_field t_is_field : Addr} {odq_is_field : Option Addr} {vq_is_field : Array Value} {slq_is_field : Array (Option Value)} {file_is_field : Str} {tf_is_field tg_is_field tt_is_field : Tok} {flags_is_field text_is_field : Int} {inF_is_field : Bool}
    (qe_is_field : cd16 = .ref q_is_field)
    (lq_is_field : K.lookup q_is_field = some ⟨.type "code", odq_is_field, .fields vq_is_field, slq_is_field⟩)
    (q1_is_field : vq_is_field[11]? = some (.ref t_is_field))
    (q2_is_field : vq_is_field.getD 18 .none = .str file_is_field tf_is_field)
    (q3_is_field : vq_is_field.getD 7 .none = .int flags_is_field tg_is_field)
    (q4_is_field : vq_is_field.getD 9 .none = .bool inF_is_field)
    (q5_is_field : vq_is_field.getD 10 .none = .int text_is_field tt_is_field)
    (q6_is_field : q_is_field ≠ t_is_field)
    : ∃ fd : FuncData, (∀ (s : Shared) (v : Value), BindsTo s fd ⟨[v], []⟩ [("_law_script", v)]) ∧ ∀ base : Heap, K.In base → base.Ns mainGlobals mg → (∃ bm ob, BMod base mainGlobals mg bm ob) → FnOk l.prog w K mg base CX0 16 fa fd ["_law_script"] (sp_law K [t_others_left, t_is_field]) := by
  have e := hfa.symm.trans (PySem.W.mg_of X G a42)
  cases e
  have z_isinstance := PySem.W.mg_none_of X G zz_isinstance
  have z_int := PySem.W.mg_none_of X G zz_int
  have z_bool := PySem.W.mg_none_of X G zz_bool
  have z_abs := PySem.W.mg_none_of X G zz_abs
  have z_tuple := PySem.W.mg_none_of X G zz_tuple
  have z_len := PySem.W.mg_none_of X G zz_len
  have z_all := PySem.W.mg_none_of X G zz_all
  have z_range := PySem.W.mg_none_of X G zz_range
  have z_sum := PySem.W.mg_none_of X G zz_sum
  have z_zip := PySem.W.mg_none_of X G zz_zip
  have z_ValueError := PySem.W.mg_none_of X G zz_ValueError
  have z_enumerate := PySem.W.mg_none_of X G zz_enumerate
  have z_max := PySem.W.mg_none_of X G zz_max
  have z_list := PySem.W.mg_none_of X G zz_list
  have F0 := fun_mk (st := s_is_whole) l0 c0 k0
  have b0 := F0.binds (ps := ["thing"]) fun _ _ _ _ _ _ us hl => match us, hl with | [_], _ => rfl
  have F1 := fun_mk (st := s_divisor) l1 c1 k1
  have b1 := F1.binds (ps := ["one", "other"]) fun _ _ _ _ _ _ us hl => match us, hl with | [_, _], _ => rfl
  have F2 := fun_mk (st := s_in_lowest) l2 c2 k2
  have b2 := F2.binds (ps := ["top", "bottom"]) fun _ _ _ _ _ _ us hl => match us, hl with | [_, _], _ => rfl
  have F3 := fun_mk (st := s_added) l3 c3 k3
  have b3 := F3.binds (ps := ["one", "other"]) fun _ _ _ _ _ _ us hl => match us, hl with | [_, _], _ => rfl
  have F4 := fun_mk (st := s_lessened) l4 c4 k4
  have b4 := F4.binds (ps := ["one", "other"]) fun _ _ _ _ _ _ us hl => match us, hl with | [_, _], _ => rfl
  have F5 := fun_mk (st := s_multiplied) l5 c5 k5
  have b5 := F5.binds (ps := ["one", "other"]) fun _ _ _ _ _ _ us hl => match us, hl with | [_, _], _ => rfl
  have F6 := fun_mk (st := s_is_frac) l6 c6 k6
  have b6 := F6.binds (ps := ["thing"]) fun _ _ _ _ _ _ us hl => match us, hl with | [_], _ => rfl
  have F7 := fun_mk (st := s_is_spot) l7 c7 k7
  have b7 := F7.binds (ps := ["thing"]) fun _ _ _ _ _ _ us hl => match us, hl with | [_], _ => rfl
  have F8 := fun_mk (st := s_twice_of) l8 c8 k8
  have b8 := F8.binds (ps := ["one", "other", "third"]) fun _ _ _ _ _ _ us hl => match us, hl with | [_, _, _], _ => rfl
  have F9 := fun_mk (st := s_gap) l9 c9 k9
  have b9 := F9.binds (ps := ["one", "other"]) fun _ _ _ _ _ _ us hl => match us, hl with | [_, _], _ => rfl
  have F10 := fun_mk (st := s_turn_of) l10 c10 k10
  have b10 := F10.binds (ps := ["one", "other", "third"]) fun _ _ _ _ _ _ us hl => match us, hl with | [_, _, _], _ => rfl
  have F11 := fun_mk (st := s_part_on) l11 c11 k11
  have b11 := F11.binds (ps := ["start", "end", "part"]) fun _ _ _ _ _ _ us hl => match us, hl with | [_, _, _], _ => rfl
  have F12 := fun_mk (st := s_on_way) l12 c12 k12
  have b12 := F12.binds (ps := ["one", "other", "part"]) fun _ _ _ _ _ _ us hl => match us, hl with | [_, _, _], _ => rfl
  have F13 := fun_mk (st := s_law_take) l13 c13 k13
  have b13 := F13.binds (ps := ["_law_row", "_law_base"]) fun _ _ _ _ _ _ us hl => match us, hl with | [_, _], _ => rfl
  have F14 := fun_mk (st := s_after) l14 c14 k14
  have b14 := F14.binds (ps := ["corners", "k"]) fun _ _ _ _ _ _ us hl => match us, hl with | [_, _], _ => rfl
  have F15 := fun_mk (st := s_others_left) l15 c15 k15
  have b15 := F15.binds (ps := ["corners", "k"]) fun _ _ _ _ _ _ us hl => match us, hl with | [_, _], _ => rfl
  have F16 := fun_mk (st := s_is_field) l16 c16 k16
  have b16 := F16.binds (ps := ["thing"]) fun _ _ _ _ _ _ us hl => match us, hl with | [_], _ => rfl
  have F17 := fun_mk (st := s_look_field) l17 c17 k17
  have b17 := F17.binds (ps := ["thing"]) fun _ _ _ _ _ _ us hl => match us, hl with | [_], _ => rfl
  have F18 := fun_mk (st := s_frac_of) l18 c18 k18
  have b18 := F18.binds (ps := ["top", "bottom"]) fun _ _ _ _ _ _ us hl => match us, hl with | [_, _], _ => rfl
  have F19 := fun_mk (st := s_is_corner_number) l19 c19 k19
  have b19 := F19.binds (ps := ["field", "thing"]) fun _ _ _ _ _ _ us hl => match us, hl with | [_, _], _ => rfl
  have F20 := fun_mk (st := s_fan_of) l20 c20 k20
  have b20 := F20.binds (ps := ["field", "c"]) fun _ _ _ _ _ _ us hl => match us, hl with | [_, _], _ => rfl
  have F21 := fun_mk (st := s_common_bottom) l21 c21 k21
  have b21 := F21.binds (ps := ["parts"]) fun _ _ _ _ _ _ us hl => match us, hl with | [_], _ => rfl
  have F22 := fun_mk (st := s_in_least) l22 c22 k22
  have b22 := F22.binds (ps := ["numbers"]) fun _ _ _ _ _ _ us hl => match us, hl with | [_], _ => rfl
  have F23 := fun_mk (st := s_shares_in) l23 c23 k23
  have b23 := F23.binds (ps := ["fan"]) fun _ _ _ _ _ _ us hl => match us, hl with | [_], _ => rfl
  have F24 := fun_mk (st := s_even_ways) l24 c24 k24
  have b24 := F24.binds (ps := ["start", "end", "many"]) fun _ _ _ _ _ _ us hl => match us, hl with | [_, _, _], _ => rfl
  have F25 := fun_mk (st := s_cut_evenly) l25 c25 k25
  have b25 := F25.binds (ps := ["piece", "many"]) fun _ _ _ _ _ _ us hl => match us, hl with | [_, _], _ => rfl
  have F26 := fun_mk (st := s_fan_cut) l26 c26 k26
  have b26 := F26.binds (ps := ["field", "c", "many"]) fun _ _ _ _ _ _ us hl => match us, hl with | [_, _, _], _ => rfl
  have F27 := fun_mk (st := s_law_lowest) l27 c27 k27
  have b27 := F27.binds (ps := ["_law_top", "_law_bottom"]) fun _ _ _ _ _ _ us hl => match us, hl with | [_, _], _ => rfl
  have F28 := fun_mk (st := s_law_gap) l28 c28 k28
  have b28 := F28.binds (ps := ["_law_here", "_law_there"]) fun _ _ _ _ _ _ us hl => match us, hl with | [_, _], _ => rfl
  have F29 := fun_mk (st := s_law_twice) l29 c29 k29
  have b29 := F29.binds (ps := ["_law_one", "_law_other", "_law_third"]) fun _ _ _ _ _ _ us hl => match us, hl with | [_, _, _], _ => rfl
  have F30 := fun_mk (st := s_law_field) l30 c30 k30
  have b30 := F30.binds (ps := ["_law_row", "_law_far"]) fun _ _ _ _ _ _ us hl => match us, hl with | [_, _], _ => rfl
  have F31 := fun_mk (st := s_law_word) l31 c31 k31
  have b31 := F31.binds (ps := ["_law_error"]) fun _ _ _ _ _ _ us hl => match us, hl with | [_], _ => rfl
  have F32 := fun_mk (st := s_law_said) l32 c32 k32
  have b32 := F32.binds (ps := ["_law_ask", "_law_parts"]) fun _ _ _ _ _ _ us hl => match us, hl with | [_, _], _ => rfl
  have F33 := fun_mk (st := s_law_added) l33 c33 k33
  have b33 := F33.binds (ps := ["_law_one", "_law_other"]) fun _ _ _ _ _ _ us hl => match us, hl with | [_, _], _ => rfl
  have F34 := fun_mk (st := s_law_over) l34 c34 k34
  have b34 := F34.binds (ps := ["_law_one", "_law_other"]) fun _ _ _ _ _ _ us hl => match us, hl with | [_, _], _ => rfl
  have F35 := fun_mk (st := s_law_whole_of) l35 c35 k35
  have b35 := F35.binds (ps := ["_law_corners"]) fun _ _ _ _ _ _ us hl => match us, hl with | [_], _ => rfl
  have F36 := fun_mk (st := s_law_gcd) l36 c36 k36
  have b36 := F36.binds (ps := ["_law_one", "_law_other"]) fun _ _ _ _ _ _ us hl => match us, hl with | [_, _], _ => rfl
  have F37 := fun_mk (st := s_law_shares) l37 c37 k37
  have b37 := F37.binds (ps := ["_law_field_here", "_law_c"]) fun _ _ _ _ _ _ us hl => match us, hl with | [_, _], _ => rfl
  have F38 := fun_mk (st := s_law_spot) l38 c38 k38
  have b38 := F38.binds (ps := ["_law_one", "_law_other", "_law_k", "_law_many"]) fun _ _ _ _ _ _ us hl => match us, hl with | [_, _, _, _], _ => rfl
  have F39 := fun_mk (st := s_law_due) l39 c39 k39
  have b39 := F39.binds (ps := ["_law_field_here", "_law_c", "_law_shares_here", "_law_times"]) fun _ _ _ _ _ _ us hl => match us, hl with | [_, _, _, _], _ => rfl
  have F40 := fun_mk (st := s_law_wide) l40 c40 k40
  have b40 := F40.binds (ps := ["_law_row", "_law_far"]) fun _ _ _ _ _ _ us hl => match us, hl with | [_, _], _ => rfl
  have F41 := fun_mk (st := s_law_right) l41 c41 k41
  have b41 := F41.binds (ps := ["_law_row", "_law_field_here", "_law_c"]) fun _ _ _ _ _ _ us hl => match us, hl with | [_, _, _], _ => rfl
  have F42 := fun_mk (st := s_law) l42 c42 k42
  refine ⟨PySem.W.fnOf "law" "law" (defArgs s_law) (defBody s_law) (defScope s_law) .none kV42 dc42 pm42 an42 cd42 ct42, fun s v => .of_eq rfl, fun base kb nb BM => ?_⟩
  have CK_others_left : CodeK K cd15 q_others_left t_others_left := codeK_mk qe_others_left lq_others_left q1_others_left q2_others_left q3_others_left q4_others_left q5_others_left q6_others_left
  have TB_others_left : t_others_left ∈ [t_others_left, t_is_field] := by simp
  have CK_is_field : CodeK K cd16 q_is_field t_is_field := codeK_mk qe_is_field lq_is_field q1_is_field q2_is_field q3_is_field q4_is_field q5_is_field q6_is_field
  have TB_is_field : t_is_field ∈ [t_others_left, t_is_field] := by simp
  have ga_fan_cut := PySem.W.mg_of X G a26
  have g_NoField := PySem.W.mg_of X G gg_NoField
  have g_NoWay := PySem.W.mg_of X G gg_NoWay
  have g_NoNumber := PySem.W.mg_of X G gg_NoNumber
  have g_NoPrime := PySem.W.mg_of X G gg_NoPrime
  have g_NoCutting := PySem.W.mg_of X G gg_NoCutting
  have g_NoLine := PySem.W.mg_of X G gg_NoLine
  have g_NoFrame := PySem.W.mg_of X G gg_NoFrame
  have g_NoDoor := PySem.W.mg_of X G gg_NoDoor
  have g_NoPaper := PySem.W.mg_of X G gg_NoPaper
  have g_NoAreas := PySem.W.mg_of X G gg_NoAreas
  have g_NoSpot := PySem.W.mg_of X G gg_NoSpot
  have g_NoMove := PySem.W.mg_of X G gg_NoMove
  have g_NoBend := PySem.W.mg_of X G gg_NoBend
  have g_TooMany := PySem.W.mg_of X G gg_TooMany
  have g_NoText := PySem.W.mg_of X G gg_NoText
  have g_NoRow := PySem.W.mg_of X G gg_NoRow
  have g_NoName := PySem.W.mg_of X G gg_NoName
  have g_ShardError := PySem.W.mg_of X G gg_ShardError
  have X_NoField := xc_mk (base := base) (S := c_ShardError) kb g_NoField xa_NoField xb_NoField xc_NoField xd_NoField xe_NoField xf_NoField xg_NoField
  have X_NoWay := xc_mk (base := base) (S := c_ShardError) kb g_NoWay xa_NoWay xb_NoWay xc_NoWay xd_NoWay xe_NoWay xf_NoWay xg_NoWay
  have S_ShardError : XHnd K c_ShardError := ⟨sa_ShardError, sb_ShardError⟩
  have N_FEWEST : ∃ t, mg "FEWEST" = some (.int 3 t) := ⟨_, PySem.W.mg_of X G gg_FEWEST⟩
  have N_MOST : ∃ t, mg "MOST" = some (.int 6 t) := ⟨_, PySem.W.mg_of X G gg_MOST⟩
  have N_MOST_PIECES : ∃ t, mg "MOST_PIECES" = some (.int 30 t) := ⟨_, PySem.W.mg_of X G gg_MOST_PIECES⟩
  have C_is_whole := ok_is_whole (P := l.prog) (w := w) (base := base) F0 (PySem.W.mg_of X G a0) b0 z_int z_isinstance z_bool  
  have C_divisor := ok_divisor (P := l.prog) (w := w) (base := base) F1 (PySem.W.mg_of X G a1) b1 z_abs  
  have C_in_lowest := ok_in_lowest (P := l.prog) (w := w) (base := base) F2 (PySem.W.mg_of X G a2) b2  C_divisor 
  have C_added := ok_added (P := l.prog) (w := w) (base := base) F3 (PySem.W.mg_of X G a3) b3  C_in_lowest 
  have C_lessened := ok_lessened (P := l.prog) (w := w) (base := base) F4 (PySem.W.mg_of X G a4) b4  C_in_lowest 
  have C_multiplied := ok_multiplied (P := l.prog) (w := w) (base := base) F5 (PySem.W.mg_of X G a5) b5  C_in_lowest 
  have C_is_frac := ok_is_frac (P := l.prog) (w := w) (base := base) F6 (PySem.W.mg_of X G a6) b6 z_isinstance z_tuple z_len C_is_whole C_divisor 
  have C_is_spot := ok_is_spot (P := l.prog) (w := w) (base := base) F7 (PySem.W.mg_of X G a7) b7 z_isinstance z_tuple z_len C_is_frac 
  have C_twice_of := ok_twice_of (P := l.prog) (w := w) (base := base) F8 (PySem.W.mg_of X G a8) b8  C_multiplied C_lessened 
  have C_gap := ok_gap (P := l.prog) (w := w) (base := base) F9 (PySem.W.mg_of X G a9) b9   
  have C_turn_of := ok_turn_of (P := l.prog) (w := w) (base := base) F10 (PySem.W.mg_of X G a10) b10  C_gap 
  have C_part_on := ok_part_on (P := l.prog) (w := w) (base := base) F11 (PySem.W.mg_of X G a11) b11  C_added C_multiplied C_lessened 
  have C_on_way := ok_on_way (P := l.prog) (w := w) (base := base) F12 (PySem.W.mg_of X G a12) b12  C_part_on 
  have C_law_take := ok_law_take (P := l.prog) (w := w) (base := base) F13 (PySem.W.mg_of X G a13) b13 z_int  
  have C_after := ok_after (P := l.prog) (w := w) (base := base) F14 (PySem.W.mg_of X G a14) b14 z_len  
  have C_others_left := ok_others_left (P := l.prog) (w := w) (base := base) F15 (PySem.W.mg_of X G a15) b15 z_all z_range z_len C_after C_turn_of CK_others_left TB_others_left BM
  have C_is_field := ok_is_field (P := l.prog) (w := w) (base := base) F16 (PySem.W.mg_of X G a16) b16 z_all z_isinstance z_tuple z_len z_range C_others_left C_is_spot N_FEWEST N_MOST CK_is_field TB_is_field BM
  have C_look_field := ok_look_field (P := l.prog) (w := w) (base := base) F17 (PySem.W.mg_of X G a17) b17  C_is_field X_NoField
  have C_frac_of := ok_frac_of (P := l.prog) (w := w) (base := base) F18 (PySem.W.mg_of X G a18) b18  C_in_lowest C_is_whole 
  have C_is_corner_number := ok_is_corner_number (P := l.prog) (w := w) (base := base) F19 (PySem.W.mg_of X G a19) b19 z_len C_is_whole 
  have C_fan_of := ok_fan_of (P := l.prog) (w := w) (base := base) F20 (PySem.W.mg_of X G a20) b20 z_range z_len C_look_field C_is_corner_number X_NoWay
  have C_common_bottom := ok_common_bottom (P := l.prog) (w := w) (base := base) F21 (PySem.W.mg_of X G a21) b21  C_divisor 
  have C_in_least := ok_in_least (P := l.prog) (w := w) (base := base) F22 (PySem.W.mg_of X G a22) b22  C_divisor 
  have C_shares_in := ok_shares_in (P := l.prog) (w := w) (base := base) F23 (PySem.W.mg_of X G a23) b23  C_common_bottom C_in_least C_twice_of 
  have C_even_ways := ok_even_ways (P := l.prog) (w := w) (base := base) F24 (PySem.W.mg_of X G a24) b24 z_range C_on_way C_frac_of 
  have C_cut_evenly := ok_cut_evenly (P := l.prog) (w := w) (base := base) F25 (PySem.W.mg_of X G a25) b25  C_even_ways 
  have C_fan_cut := ok_fan_cut (P := l.prog) (w := w) (base := base) F26 (PySem.W.mg_of X G a26) b26 z_sum z_zip C_fan_of C_shares_in C_is_whole C_cut_evenly X_NoWay N_MOST_PIECES
  have C_law_lowest := ok_law_lowest (P := l.prog) (w := w) (base := base) F27 (PySem.W.mg_of X G a27) b27 z_abs  
  have C_law_gap := ok_law_gap (P := l.prog) (w := w) (base := base) F28 (PySem.W.mg_of X G a28) b28   
  have C_law_twice := ok_law_twice (P := l.prog) (w := w) (base := base) F29 (PySem.W.mg_of X G a29) b29  C_law_gap 
  have C_law_field := ok_law_field (P := l.prog) (w := w) (base := base) F30 (PySem.W.mg_of X G a30) b30 z_tuple z_int z_len C_law_take C_law_lowest 
  have C_law_word := ok_law_word (P := l.prog) (w := w) (base := base) F31 (PySem.W.mg_of X G a31) b31 z_isinstance z_ValueError  g_NoNumber g_NoPrime g_NoField g_NoCutting g_NoLine g_NoFrame g_NoDoor g_NoPaper g_NoAreas g_NoWay g_NoSpot g_NoMove g_NoBend g_TooMany g_NoText g_NoRow g_NoName tab xcls kVal
  have C_law_said := ok_law_said (P := l.prog) (w := w) (base := base) F32 (PySem.W.mg_of X G a32) b32 z_len C_law_word g_ShardError S_ShardError kSub
  have C_law_added := ok_law_added (P := l.prog) (w := w) (base := base) F33 (PySem.W.mg_of X G a33) b33  C_law_lowest 
  have C_law_over := ok_law_over (P := l.prog) (w := w) (base := base) F34 (PySem.W.mg_of X G a34) b34  C_law_lowest 
  have C_law_whole_of := ok_law_whole_of (P := l.prog) (w := w) (base := base) F35 (PySem.W.mg_of X G a35) b35 z_range z_len C_law_added C_law_twice 
  have C_law_gcd := ok_law_gcd (P := l.prog) (w := w) (base := base) F36 (PySem.W.mg_of X G a36) b36   
  have C_law_shares := ok_law_shares (P := l.prog) (w := w) (base := base) F37 (PySem.W.mg_of X G a37) b37 z_range z_len C_law_twice C_law_gcd C_law_lowest 
  have C_law_spot := ok_law_spot (P := l.prog) (w := w) (base := base) F38 (PySem.W.mg_of X G a38) b38 z_range C_law_lowest 
  have C_law_due := ok_law_due (P := l.prog) (w := w) (base := base) F39 (PySem.W.mg_of X G a39) b39 z_enumerate z_range C_law_spot 
  have C_law_wide := ok_law_wide (P := l.prog) (w := w) (base := base) F40 (PySem.W.mg_of X G a40) b40 z_tuple z_range z_len C_law_take C_law_field C_law_lowest 
  have C_law_right := ok_law_right (P := l.prog) (w := w) (base := base) F41 (PySem.W.mg_of X G a41) b41 z_max z_sum z_len z_isinstance z_list C_law_shares C_law_take C_law_due C_fan_cut C_law_over C_law_whole_of C_law_twice C_law_said C_law_lowest ga_fan_cut
  exact ok_law F42 z_range z_int z_len C_law_wide C_law_right C_law_take 
theorem walk {l : PySem.W.OpenLaw} {q : Program} {loose : List Str} {XP : (Str → Option Value) → Heap → Prop} {YP : World → Heap → Prop} {d : DefRec} {K : Params → PySem.W.Frag} {T : List Addr} (hn : l.most = some 63) (hdf : d.params.defaults = [])
    (hY : ∀ (w : World) (h : Heap), YP w h → (K w.params).In h)
    (F : ∀ (w : World) (mg : Str → Option Value) (fa : Addr) (h : Heap), (K w.params).In h → h.Ns mainGlobals mg → mg d.name = some (.ref fa) →
      ∃ fd : FuncData, (∀ (s : Shared) (u : Value), BindsTo s fd ⟨[u], []⟩ [("_law_script", u)]) ∧ ∀ base : Heap, (K w.params).In base → base.Ns mainGlobals mg → (∃ bm ob, BMod base mainGlobals mg bm ob) → FnOk l.prog w (K w.params) mg base CX0 16 fa fd ["_law_script"] (sp_law (K w.params) T))
    (hTab : ∀ (w : World) (mg mb : Str → Option Value) (h : Heap) (mean : ExcName → Option Value), Top q (PySem.W.looseW q loose) mean mg mb h → (K w.params).In h → TabsAt (K w.params) T h) :
    PySem.W.WalkO q loose XP YP l.row.toRowW d [] (fun f vs => PySem.call f vs) :=
  L2.walk_ofT (n := 63) (k := 16) (x := "_law_script") (T := T) (CX := fun _ => CX0) (sp := fun w => sp_law (K w.params) T) hn (by decide) hdf ⟨rfl, by decide, by decide⟩ hY hTab F (fun _ _ a ns hl hT hS => ⟨a, ns, rfl, hS, hl, hT, fun _ h => ⟨rfl, h⟩⟩) fun _ _ _ _ _ z => z
end My
open PySem PySem.W PyProof.Rows
set_option maxRecDepth 100000 in
set_option maxHeartbeats 0 in
theorem PySem.Challenge.cw_likeshards_k47_like_pieces_by_fans_holds : PySem.Challenge.rw_likeshards_k47_like_pieces_by_fans.Holds := by
  w_on; o_law; k_head; (case hw => w_witness2)
  k_fill
  refine' My.walk (l := PySem.Challenge.rw_likeshards_k47_like_pieces_by_fans) rfl rfl (fun w h Y => PySem.W.kIn_of Y) ?F ?TB
  case F =>
    intro w mg fa h KX G hmg
    refine' My.all_mk KX G hmg ?a0 ?l0 ?c0 ?k0 ?a1 ?l1 ?c1 ?k1 ?a2 ?l2 ?c2 ?k2 ?a3 ?l3 ?c3 ?k3 ?a4 ?l4 ?c4 ?k4 ?a5 ?l5 ?c5 ?k5 ?a6 ?l6 ?c6 ?k6 ?a7 ?l7 ?c7 ?k7 ?a8 ?l8 ?c8 ?k8 ?a9 ?l9 ?c9 ?k9 ?a10 ?l10 ?c10 ?k10 ?a11 ?l11 ?c11 ?k11 ?a12 ?l12 ?c12 ?k12 ?a13 ?l13 ?c13 ?k13 ?a14 ?l14 ?c14 ?k14 ?a15 ?l15 ?c15 ?k15 ?a16 ?l16 ?c16 ?k16 ?a17 ?l17 ?c17 ?k17 ?a18 ?l18 ?c18 ?k18 ?a19 ?l19 ?c19 ?k19 ?a20 ?l20 ?c20 ?k20 ?a21 ?l21 ?c21 ?k21 ?a22 ?l22 ?c22 ?k22 ?a23 ?l23 ?c23 ?k23 ?a24 ?l24 ?c24 ?k24 ?a25 ?l25 ?c25 ?k25 ?a26 ?l26 ?c26 ?k26 ?a27 ?l27 ?c27 ?k27 ?a28 ?l28 ?c28 ?k28 ?a29 ?l29 ?c29 ?k29 ?a30 ?l30 ?c30 ?k30 ?a31 ?l31 ?c31 ?k31 ?a32 ?l32 ?c32 ?k32 ?a33 ?l33 ?c33 ?k33 ?a34 ?l34 ?c34 ?k34 ?a35 ?l35 ?c35 ?k35 ?a36 ?l36 ?c36 ?k36 ?a37 ?l37 ?c37 ?k37 ?a38 ?l38 ?c38 ?k38 ?a39 ?l39 ?c39 ?k39 ?a40 ?l40 ?c40 ?k40 ?a41 ?l41 ?c41 ?k41 ?a42 ?l42 ?c42 ?k42 ?zz_isinstance ?zz_int ?zz_bool ?zz_abs ?zz_tuple ?zz_len ?zz_all ?zz_range ?zz_sum ?zz_zip ?zz_ValueError ?zz_enumerate ?zz_max ?zz_list ?gg_NoField ?gg_NoWay ?gg_NoNumber ?gg_NoPrime ?gg_NoCutting ?gg_NoLine ?gg_NoFrame ?gg_NoDoor ?gg_NoPaper ?gg_NoAreas ?gg_NoSpot ?gg_NoMove ?gg_NoBend ?gg_TooMany ?gg_NoText ?gg_NoRow ?gg_NoName ?gg_ShardError ?xa_NoField ?xb_NoField ?xc_NoField ?xd_NoField ?xe_NoField ?xf_NoField ?xg_NoField ?xa_NoWay ?xb_NoWay ?xc_NoWay ?xd_NoWay ?xe_NoWay ?xf_NoWay ?xg_NoWay ?sa_ShardError ?sb_ShardError ?gg_FEWEST ?gg_MOST ?gg_MOST_PIECES ?tab ?xcls ?kVal ?kSub ?qe_others_left ?lq_others_left ?q1_others_left ?q2_others_left ?q3_others_left ?q4_others_left ?q5_others_left ?q6_others_left ?qe_is_field ?lq_is_field ?q1_is_field ?q2_is_field ?q3_is_field ?q4_is_field ?q5_is_field ?q6_is_field
    (case a0 => k_is); (case l0 => k_is); (case c0 => k_is); (case k0 => k_is)
    (case a1 => k_is); (case l1 => k_is); (case c1 => k_is); (case k1 => k_is)
    (case a2 => k_is); (case l2 => k_is); (case c2 => k_is); (case k2 => k_is)
    (case a3 => k_is); (case l3 => k_is); (case c3 => k_is); (case k3 => k_is)
    (case a4 => k_is); (case l4 => k_is); (case c4 => k_is); (case k4 => k_is)
    (case a5 => k_is); (case l5 => k_is); (case c5 => k_is); (case k5 => k_is)
    (case a6 => k_is); (case l6 => k_is); (case c6 => k_is); (case k6 => k_is)
    (case a7 => k_is); (case l7 => k_is); (case c7 => k_is); (case k7 => k_is)
    (case a8 => k_is); (case l8 => k_is); (case c8 => k_is); (case k8 => k_is)
    (case a9 => k_is); (case l9 => k_is); (case c9 => k_is); (case k9 => k_is)
    (case a10 => k_is); (case l10 => k_is); (case c10 => k_is); (case k10 => k_is)
    (case a11 => k_is); (case l11 => k_is); (case c11 => k_is); (case k11 => k_is)
    (case a12 => k_is); (case l12 => k_is); (case c12 => k_is); (case k12 => k_is)
    (case a13 => k_is); (case l13 => k_is); (case c13 => k_is); (case k13 => k_is)
    (case a14 => k_is); (case l14 => k_is); (case c14 => k_is); (case k14 => k_is)
    (case a15 => k_is); (case l15 => k_is); (case c15 => k_is); (case k15 => k_is)
    (case a16 => k_is); (case l16 => k_is); (case c16 => k_is); (case k16 => k_is)
    (case a17 => k_is); (case l17 => k_is); (case c17 => k_is); (case k17 => k_is)
    (case a18 => k_is); (case l18 => k_is); (case c18 => k_is); (case k18 => k_is)
    (case a19 => k_is); (case l19 => k_is); (case c19 => k_is); (case k19 => k_is)
    (case a20 => k_is); (case l20 => k_is); (case c20 => k_is); (case k20 => k_is)
    (case a21 => k_is); (case l21 => k_is); (case c21 => k_is); (case k21 => k_is)
    (case a22 => k_is); (case l22 => k_is); (case c22 => k_is); (case k22 => k_is)
    (case a23 => k_is); (case l23 => k_is); (case c23 => k_is); (case k23 => k_is)
    (case a24 => k_is); (case l24 => k_is); (case c24 => k_is); (case k24 => k_is)
    (case a25 => k_is); (case l25 => k_is); (case c25 => k_is); (case k25 => k_is)
    (case a26 => k_is); (case l26 => k_is); (case c26 => k_is); (case k26 => k_is)
    (case a27 => k_is); (case l27 => k_is); (case c27 => k_is); (case k27 => k_is)
    (case a28 => k_is); (case l28 => k_is); (case c28 => k_is); (case k28 => k_is)
    (case a29 => k_is); (case l29 => k_is); (case c29 => k_is); (case k29 => k_is)
    (case a30 => k_is); (case l30 => k_is); (case c30 => k_is); (case k30 => k_is)
    (case a31 => k_is); (case l31 => k_is); (case c31 => k_is); (case k31 => k_is)
    (case a32 => k_is); (case l32 => k_is); (case c32 => k_is); (case k32 => k_is)
    (case a33 => k_is); (case l33 => k_is); (case c33 => k_is); (case k33 => k_is)
    (case a34 => k_is); (case l34 => k_is); (case c34 => k_is); (case k34 => k_is)
    (case a35 => k_is); (case l35 => k_is); (case c35 => k_is); (case k35 => k_is)
    (case a36 => k_is); (case l36 => k_is); (case c36 => k_is); (case k36 => k_is)
    (case a37 => k_is); (case l37 => k_is); (case c37 => k_is); (case k37 => k_is)
    (case a38 => k_is); (case l38 => k_is); (case c38 => k_is); (case k38 => k_is)
    (case a39 => k_is); (case l39 => k_is); (case c39 => k_is); (case k39 => k_is)
    (case a40 => k_is); (case l40 => k_is); (case c40 => k_is); (case k40 => k_is)
    (case a41 => k_is); (case l41 => k_is); (case c41 => k_is); (case k41 => k_is)
    (case a42 => k_is); (case l42 => k_is); (case c42 => k_is); (case k42 => k_is)
    (case zz_isinstance => k_is)
    (case zz_int => k_is)
    (case zz_bool => k_is)
    (case zz_abs => k_is)
    (case zz_tuple => k_is)
    (case zz_len => k_is)
    (case zz_all => k_is)
    (case zz_range => k_is)
    (case zz_sum => k_is)
    (case zz_zip => k_is)
    (case zz_ValueError => k_is)
    (case zz_enumerate => k_is)
    (case zz_max => k_is)
    (case zz_list => k_is)
    (case gg_NoField => k_is)
    (case gg_NoWay => k_is)
    (case gg_NoNumber => k_is)
    (case gg_NoPrime => k_is)
    (case gg_NoCutting => k_is)
    (case gg_NoLine => k_is)
    (case gg_NoFrame => k_is)
    (case gg_NoDoor => k_is)
    (case gg_NoPaper => k_is)
    (case gg_NoAreas => k_is)
    (case gg_NoSpot => k_is)
    (case gg_NoMove => k_is)
    (case gg_NoBend => k_is)
    (case gg_TooMany => k_is)
    (case gg_NoText => k_is)
    (case gg_NoRow => k_is)
    (case gg_NoName => k_is)
    (case gg_ShardError => k_is)
    (case xa_NoField => k_exc)
    (case xb_NoField => k_is)
    (case xc_NoField => k_is)
    (case xd_NoField => k_is)
    (case xe_NoField => k_is)
    (case xf_NoField => k_is)
    (case xg_NoField => k_is)
    (case xa_NoWay => k_exc)
    (case xb_NoWay => k_is)
    (case xc_NoWay => k_is)
    (case xd_NoWay => k_is)
    (case xe_NoWay => k_is)
    (case xf_NoWay => k_is)
    (case xg_NoWay => k_is)
    (case sa_ShardError => k_is)
    (case sb_ShardError => k_is)
    (case gg_FEWEST => k_is)
    (case gg_MOST => k_is)
    (case gg_MOST_PIECES => k_is)
    (case tab => kernel_rfl)
    (case xcls => kernel_rfl)
    (case kVal => kernel_rfl)
    (case kSub => kernel_rfl)
    (case qe_others_left => rfl)
    (case lq_others_left => k_is)
    (case q1_others_left => rfl)
    (case q2_others_left => rfl)
    (case q3_others_left => rfl)
    (case q4_others_left => rfl)
    (case q5_others_left => rfl)
    (case q6_others_left => decide)
    (case qe_is_field => rfl)
    (case lq_is_field => k_is)
    (case q1_is_field => rfl)
    (case q2_is_field => rfl)
    (case q3_is_field => rfl)
    (case q4_is_field => rfl)
    (case q5_is_field => rfl)
    (case q6_is_field => decide)
  case TB =>
    intro w mg mb h mean TT X
    refine' L2.tabs_cons (L2.tab_of TT X (name := "others_left") ?h1x15 ?h2x15 ?h3x15 ?h4x15 ?h5x15 ?h6x15) ?h7x15 ?h8x15
    (case h1x15 => rfl); (case h2x15 => k_is); (case h3x15 => k_is); (case h4x15 => rfl); (case h5x15 => k_is); (case h6x15 => rfl); (case h7x15 => kernel_rfl)
    refine' L2.tabs_cons (L2.tab_of TT X (name := "is_field") ?h1x16 ?h2x16 ?h3x16 ?h4x16 ?h5x16 ?h6x16) ?h7x16 ?h8x16
    (case h1x16 => rfl); (case h2x16 => k_is); (case h3x16 => k_is); (case h4x16 => rfl); (case h5x16 => k_is); (case h6x16 => rfl); (case h7x16 => kernel_rfl)
    exact L2.tabs_nil
