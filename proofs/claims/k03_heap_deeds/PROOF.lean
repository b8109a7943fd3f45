import PyProof.Rows.All
import Wide.All
import OpenK.AllK
import Wide.FinOn
import Lean
import PyProof.EqAt
import PyProof.EqKinds
import PyProof.TupleCall
import KE.KSortTup
import KE.KItemsList
import KE.KUnpack
import PyProof.AttrMissHeap
import KE.KDictOf
import PySem.Challenge.RW_shredjoin_k03_heap_deeds
set_option Elab.async false
set_option linter.all false
set_option maxRecDepth 100000
/-! THE HAND LAYER, for ints, bools, texts, own classes, LISTS and tuples (index, slices, in, append, pop ..), calls, loops. Paste it whole ahead of your own text; what your proof does not reach may be deleted. -/
namespace L2
open PySem PySem.Spec PyProof.Rows

/-- a key: an int or a str -/
abbrev Key := Sum Int Str
def keyIs : Key → Value → Bool
  | .inl k, v => Value.isInt k v
  | .inr x, v => Value.isStrOf x v
def keyH (w : World) : Key → Int
  | .inl k => hashInt k
  | .inr x => hashStr w x
theorem keyIs_shape : ∀ {k : Key} {v : Value}, keyIs k v = true → (∃ i t, k = Sum.inl i ∧ v = Value.int i t) ∨ (∃ x t, k = Sum.inr x ∧ v = Value.str x t)
  | .inl i, v, h => by
    obtain ⟨t, e⟩ := Value.isInt_shape (k := i) (v := v) h
    exact .inl ⟨i, t, rfl, e⟩
  | .inr x, v, h => by
    obtain ⟨t, e⟩ := Value.isStrOf_shape (x := x) (v := v) h
    exact .inr ⟨x, t, rfl, e⟩
theorem keyIs_int (i : Int) (t : Tok) : keyIs (.inl i) (.int i t) = true := by simp [keyIs, Value.isInt]
theorem keyIs_str (x : Str) (t : Tok) : keyIs (.inr x) (.str x t) = true := by simp [keyIs, Value.isStrOf]
theorem key_ll (a b : Int) : decide ((Sum.inl a : Key) = Sum.inl b) = (a == b) := by
  by_cases e : a = b
  · subst e; simp
  · have h : ¬ (Sum.inl a : Key) = Sum.inl b := fun q => e (Sum.inl.inj q)
    rw [decide_eq_false h]
    exact (beq_eq_false_iff_ne.mpr e).symm
theorem key_rr (a b : Str) : decide ((Sum.inr a : Key) = Sum.inr b) = decide (a = b) := by
  by_cases e : a = b
  · subst e; simp
  · have h : ¬ (Sum.inr a : Key) = Sum.inr b := fun q => e (Sum.inr.inj q)
    rw [decide_eq_false h, decide_eq_false e]
theorem key_lr (a : Int) (b : Str) : decide ((Sum.inl a : Key) = Sum.inr b) = false := decide_eq_false (fun q => nomatch q)
theorem key_rl (a : Str) (b : Int) : decide ((Sum.inr a : Key) = Sum.inl b) = false := decide_eq_false (fun q => nomatch q)

def mixKind (prog : Program) (w : World) : PySem.KeyKind prog w Key where
  is := keyIs
  hash := keyH w
  inj := fun v a b ha hb => by
    rcases keyIs_shape ha with ⟨i, t, rfl, rfl⟩ | ⟨x, t, rfl, rfl⟩
    · rcases keyIs_shape hb with ⟨j, u, rfl, e⟩ | ⟨y, u, rfl, e⟩
      · injection e with e1 _; rw [e1]
      · exact nomatch e
    · rcases keyIs_shape hb with ⟨j, u, rfl, e⟩ | ⟨y, u, rfl, e⟩
      · exact nomatch e
      · injection e with e1 _; rw [e1]
  byValue := fun k v h => by
    rcases keyIs_shape h with ⟨i, t, rfl, rfl⟩ | ⟨x, t, rfl, rfl⟩ <;> rfl
  pyHash := fun hv h => by
    rcases keyIs_shape hv with ⟨i, t, rfl, rfl⟩ | ⟨x, t, rfl, rfl⟩
    · exact wpAny_pyHash_int h
    · exact wpAny_pyHash_str h
  eqBool := fun hu hv h => by
    rcases keyIs_shape hu with ⟨i, t, rfl, rfl⟩ | ⟨x, t, rfl, rfl⟩
    · rcases keyIs_shape hv with ⟨j, u, rfl, rfl⟩ | ⟨y, u, rfl, rfl⟩
      · rw [key_ll] at h; exact wpAny_eqBool_int h
      · rw [key_lr] at h; exact SeqAt.EqAt.int_str i t y u _ _ _ _ h
    · rcases keyIs_shape hv with ⟨j, u, rfl, rfl⟩ | ⟨y, u, rfl, rfl⟩
      · rw [key_rl] at h; exact SeqAt.EqAt.str_int x t j u _ _ _ _ h
      · rw [key_rr] at h; exact wpAny_eqBool_str h
  «strs» := fun k x t v h => by
    rcases keyIs_shape h with ⟨i, u, rfl, e⟩ | ⟨y, u, rfl, e⟩
    · exact nomatch e
    · injection e with e1 _
      subst e1
      cases v <;> rfl

theorem mixKind_int (prog : Program) (w : World) (i : Int) (t : Tok) : (mixKind prog w).is (.inl i) (.int i t) = true := keyIs_int i t
theorem mixKind_str (prog : Program) (w : World) (x : Str) (t : Tok) : (mixKind prog w).is (.inr x) (.str x t) = true := keyIs_str x t
end L2

namespace L2
open PySem PySem.Spec PyProof.Rows

/-- a value, without the heap -/
inductive V where
  | non | bl (b : Bool) | int (i : Int) | str (x : Str) | byt (b : Array UInt8) | flt (b : UInt64) | ref (a : Addr) | ty (n : String)
  deriving DecidableEq

def RelV : V → Value → Prop
  | .non, u => u = Value.none
  | .bl b, u => u = Value.bool b
  | .int i, u => ∃ t, u = Value.int i t
  | .str x, u => ∃ t, u = Value.str x t
  | .byt b, u => ∃ t, u = Value.bytes b t
  | .flt b, u => ∃ t, u = Value.float b t
  | .ref a, u => u = Value.ref a
  | .ty n, u => u = Value.type n

abbrev Vals : List V → List Value → Prop := Paired RelV
theorem Vals.length {xs : List V} {us : List Value} (r : Vals xs us) : xs.length = us.length := Paired.length r
theorem Vals.get : ∀ {xs : List V} {us : List Value} {i : Nat} {x : V}, Vals xs us → xs[i]? = some x → ∃ u, us[i]? = some u ∧ RelV x u
  | _, _, _, _, .nil, e => by simp at e
  | _, _, 0, _, .cons r _, e => by simp at e; subst e; exact ⟨_, rfl, r⟩
  | _, _, i + 1, x, .cons _ t, e => by
    obtain ⟨u, h1, h2⟩ := Vals.get (i := i) (x := x) t (by simpa using e)
    exact ⟨u, by simpa using h1, h2⟩
theorem Vals.set {x : V} {u : Value} (r : RelV x u) : ∀ {xs : List V} {us : List Value} (i : Nat), Vals xs us → Vals (xs.set i x) (us.set i u)
  | _, _, _, .nil => .nil
  | _, _, 0, .cons _ t => .cons r t
  | _, _, i + 1, .cons q t => .cons q (Vals.set r i t)
theorem Vals.append : ∀ {xs ys : List V} {us ws : List Value}, Vals xs us → Vals ys ws → Vals (xs ++ ys) (us ++ ws)
  | _, _, _, _, .nil, s => s
  | _, _, _, _, .cons r t, s => .cons r (Vals.append t s)
theorem Vals.take : ∀ {xs : List V} {us : List Value} (n : Nat), Vals xs us → Vals (xs.take n) (us.take n)
  | _, _, 0, _ => .nil
  | _, _, _ + 1, .nil => .nil
  | _, _, n + 1, .cons r t => .cons r (Vals.take n t)
theorem Vals.drop : ∀ {xs : List V} {us : List Value} (n : Nat), Vals xs us → Vals (xs.drop n) (us.drop n)
  | _, _, 0, r => r
  | _, _, _ + 1, .nil => .nil
  | _, _, n + 1, .cons _ t => Vals.drop n t

def RelO : Option V → Option Value → Prop
  | some v, some u => RelV v u
  | none, none => True
  | _, _ => False
def KV {κ : Type} : List (κ × V) → List (κ × Value) → Prop := Paired fun (p : κ × V) (q : κ × Value) => p.1 = q.1 ∧ RelV p.2 q.2

/-- a key of a dict (00_mix): an int or a text -/
def kV : Key → V
  | .inl i => .int i
  | .inr x => .str x

/-- what stands at a tracked address -/
inductive HO where
  /-- a list -/
  | lst (xs : List V)
  /-- a tuple (never changes) -/
  | tup (xs : List V)
  /-- a dict whose keys are ints and texts; one whose keys are tuples of ints and texts (the empty one is both) -/
  | dK (kvs : List (Key × V)) | dT (kvs : List (List Key × V))
  /-- a set of ints: its members, its size -/
  | set (S : Int → Bool) (n : Nat)
  /-- an instance of the class at C, its dict at dx, its attributes -/
  | ins (C dx : Addr) (fs : List (Str × V))
  /-- the dict of the instance at x -/
  | own (x : Addr)
  /-- the dict of an exception -/
  | xd (fs : List (Str × V))
  /-- a bound method, f of x -/
  | met (f x : Addr)
  /-- a range object lo, lo + 1, .. below hi -/
  | rng (lo hi : Int)
  /-- a thing that is known to the object (the script; a dict while a loop walks it): read, never written while it is so -/
  | frz (o : Obj) (u : HO)
  /-- a code object's table -/
  | tbl (ps : Array Value)
  /-- any other thing, by what is true of its one object (a def of one's own: SetO a S n := HO.ext fun h => ..) -/
  | ext (φ : Heap → Prop)

abbrev Hp := Addr → Option HO
def upd (H : Hp) (a : Addr) (o : HO) : Hp := fun b => if b = a then some o else H b
theorem upd_same {H : Hp} {a : Addr} {o : HO} : upd H a o a = some o := by unfold upd; rw [if_pos rfl]
theorem upd_ne {H : Hp} {a b : Addr} {o : HO} (h : b ≠ a) : upd H a o b = H b := by unfold upd; rw [if_neg h]
/-- two objects of different content stand apart -/
theorem ne_of {H : Hp} {a b : Addr} {o u : HO} (h : H a = some o) (h' : H b = some u) (d : o ≠ u) : a ≠ b := by
  intro e; subst e; rw [h] at h'; exact d (Option.some.inj h')
theorem ne_of_none {H : Hp} {a b : Addr} {o : HO} (h : H a = some o) (h' : H b = none) : a ≠ b := by
  intro e; subst e; rw [h] at h'; cases h'

section
variable (P : Program) (w : World)
def NoD (h : Heap) (a : Addr) : Prop := ∀ o, h.get? a = some o → o.dict = none
theorem noD_push {h : Heap} {o : Obj} (hd : o.dict = none) (hf : o.isFreed = false) : NoD (h.push o) h.objs.size := fun o2 e => by
  rw [Heap.get?_push_size h hf] at e
  cases e
  exact hd
def ObjOk (H : Hp) (h : Heap) (a : Addr) : HO → Prop
  | .lst xs => xs.length ≤ sizeLine ∧ ∃ (its : List Value) (n : Nat), Vals xs its ∧ h.get? a = some { cls := .type "list", data := .seq its.toArray n }
  | .tup xs => xs.length ≤ sizeLine ∧ ∃ its : List Value, Vals xs its ∧ IsTup h a its.toArray ∧ NoD h a
  | .dK kvs => kvs.length ≤ sizeLine ∧ (a == sysModules) = false ∧ ∃ vs, KV kvs vs ∧ h.DictOf (mixKind P w) a vs
  | .dT kvs => kvs.length ≤ sizeLine ∧ (a == sysModules) = false ∧ ∃ xs : List (List Key × Addr × Value),
      Paired (fun (p : List Key × V) (q : List Key × Addr × Value) => p.1 = q.1 ∧ H q.2.1 = some (.tup (p.1.map kV)) ∧ RelV p.2 q.2.2) kvs xs ∧
      ∃ o es ep, h.get? a = some o ∧ o.ExactDict ∧ o.data = .dict es ep ∧ es.toList = xs.map (entryOfKey (tupleKind (mixKind P w))) ∧ (xs.map (·.1)).Nodup
  | .set S n => h.SetOf (intKind P w) a S n
  | .ins C dx fs => H dx = some (.own a) ∧ fs.length ≤ 1000 ∧ dx ≠ a ∧ h.get? a = some (PySem.W.instObj C dx) ∧
      ∃ mA, h.Ns1 dx mA ∧ (∀ f, RelO (fs.lookup f) (mA f)) ∧ PySem.Within mA (fs.map (·.1))
  | .own _ => ∃ o, h.get? a = some o
  | .xd fs => ∃ mA, h.Ns1 a mA ∧ ∀ f, RelO (fs.lookup f) (mA f)
  | .rng lo hi => ∃ t u v, h.get? a = some { cls := .type "range", data := .fields #[.int lo t, .int hi u, .int 1 v] }
  | .frz o u => h.get? a = some o ∧ ObjOk H h a u
  | .tbl ps => h.get? a = some { cls := .none, data := .fields ps }
  | .met f x => h.get? a = some (PySem.W.methodObj (.ref f) (.ref x))
  | .ext φ => φ h ∧ (∃ o, h.get? a = some o) ∧ ∀ h1 h2 : Heap, φ h1 → (∀ o, h1.get? a = some o → h2.get? a = some o) → φ h2
/-- the abstract heap is held -/
def HOk (H : Hp) (h : Heap) : Prop := ∀ a o, H a = some o → ObjOk P w H h a o
end

section
variable {P : Program} {w : World} {H H' : Hp} {h h' : Heap} {a : Addr} {o : HO}
theorem ObjOk.lt (x : ObjOk P w H h a o) : a < h.objs.size := by
  cases o with
  | lst xs => obtain ⟨_, _, _, _, e⟩ := x; exact Heap.lt_size e
  | tup xs => obtain ⟨_, _, _, p, _⟩ := x; exact p.lt
  | dK kvs => obtain ⟨_, _, _, _, o, _, _, e, _⟩ := x; exact Heap.lt_size e
  | dT kvs => obtain ⟨_, _, _, _, o, _, _, e, _⟩ := x; exact Heap.lt_size e
  | set S n => obtain ⟨o, _, _, _, e, _⟩ := x; exact Heap.lt_size e
  | ins C dx fs => obtain ⟨_, _, _, e, _⟩ := x; exact Heap.lt_size e
  | own y => obtain ⟨_, e⟩ := x; exact Heap.lt_size e
  | xd fs => obtain ⟨_, ⟨_, _, _, e, _⟩, _⟩ := x; exact Heap.lt_size e
  | rng lo hi => obtain ⟨_, _, _, e⟩ := x; exact Heap.lt_size e
  | frz ob u => obtain ⟨e, _⟩ := x; exact Heap.lt_size e
  | tbl ps => exact Heap.lt_size (show h.get? a = some _ from x)
  | met f y => exact Heap.lt_size (show h.get? a = some _ from x)
  | ext φ => obtain ⟨_, ⟨_, e⟩, _⟩ := x; exact Heap.lt_size e
theorem Paired.mapP {α β : Type} {F G : α → β → Prop} : ∀ {l₁ : List α} {l₂ : List β}, Paired F l₁ l₂ → (∀ a b, F a b → G a b) → Paired G l₁ l₂
  | _, _, .nil, _ => .nil
  | _, _, .cons r t, f => .cons (f _ _ r) (Paired.mapP t f)
/-- what an object's description leans on: its own object, its own dict, the tuples -/
theorem ObjOk.stay (x : ObjOk P w H h a o) (k : ∀ b u, (b = a ∨ H b = some (.own a)) → h.get? b = some u → h'.get? b = some u)
    (ho : ∀ b, H b = some (.own a) → H' b = some (.own a)) (ht : ∀ b xs, H b = some (.tup xs) → H' b = some (.tup xs)) : ObjOk P w H' h' a o := by
  induction o with
  | lst xs => obtain ⟨z, its, n, r, e⟩ := x; exact ⟨z, its, n, r, k _ _ (.inl rfl) e⟩
  | tup xs =>
    obtain ⟨z, its, r, ⟨ob, e, c⟩, nd⟩ := x
    exact ⟨z, its, r, ⟨ob, k _ _ (.inl rfl) e, c⟩, fun o2 e2 => by
      rw [k _ _ (.inl rfl) e] at e2
      cases e2
      exact nd _ e⟩
  | dK kvs => obtain ⟨z, y, vs, r, ob, es, ep, e, c⟩ := x; exact ⟨z, y, vs, r, ob, es, ep, k _ _ (.inl rfl) e, c⟩
  | dT kvs =>
    obtain ⟨z, y, xs, r, ob, es, ep, e, c⟩ := x
    exact ⟨z, y, xs, Paired.mapP r fun p q z => ⟨z.1, ht _ _ z.2.1, z.2.2⟩, ob, es, ep, k _ _ (.inl rfl) e, c⟩
  | set S n => obtain ⟨ob, es, ep, t, e, c⟩ := x; exact ⟨ob, es, ep, t, k _ _ (.inl rfl) e, c⟩
  | ins C dx fs =>
    obtain ⟨d, z, ne, e, mA, ⟨od, es, ep, e2, c⟩, r⟩ := x
    exact ⟨ho _ d, z, ne, k _ _ (.inl rfl) e, mA, ⟨od, es, ep, k _ _ (.inr d) e2, c⟩, r⟩
  | own y => obtain ⟨ob, e⟩ := x; exact ⟨ob, k _ _ (.inl rfl) e⟩
  | xd fs => obtain ⟨mA, ⟨od, es, ep, e, c⟩, r⟩ := x; exact ⟨mA, ⟨od, es, ep, k _ _ (.inl rfl) e, c⟩, r⟩
  | rng lo hi => obtain ⟨t, u, v, e⟩ := x; exact ⟨t, u, v, k _ _ (.inl rfl) e⟩
  | frz ob u ih => obtain ⟨e, q⟩ := x; exact ⟨k _ _ (.inl rfl) e, ih q⟩
  | tbl ps =>
    have e : h.get? a = some { cls := .none, data := .fields ps } := x
    show h'.get? a = some { cls := .none, data := .fields ps }
    exact k a _ (.inl rfl) e
  | met f y =>
    have e : h.get? a = some (PySem.W.methodObj (.ref f) (.ref y)) := x
    show h'.get? a = some (PySem.W.methodObj (.ref f) (.ref y))
    exact k a _ (.inl rfl) e
  | ext φ => obtain ⟨p, ⟨o, e⟩, st⟩ := x; exact ⟨st _ _ p fun o q => k _ _ (.inl rfl) q, ⟨o, k _ _ (.inl rfl) e⟩, st⟩
theorem HOk.lt (x : HOk P w H h) (e : H a = some o) : a < h.objs.size := (x a o e).lt
theorem HOk.fresh (x : HOk P w H h) (e : h.objs.size ≤ a) : H a = none := by
  cases q : H a with
  | none => rfl
  | some u => exact absurd (Nat.lt_of_lt_of_le (x.lt q) e) (Nat.lt_irrefl _)
/-- every object of the heap is kept -/
theorem HOk.kept (x : HOk P w H h) (k : ∀ b u, h.get? b = some u → h'.get? b = some u) : HOk P w H h' := fun a o e =>
  (x a o e).stay (fun b u _ q => k b u q) (fun _ q => q) fun _ _ q => q
/-- a new object is laid and tracked -/
theorem HOk.laid (x : HOk P w H h) (k : ∀ b u, h.get? b = some u → h'.get? b = some u) (hp : h.objs.size ≤ a) (new : ObjOk P w (upd H a o) h' a o) : HOk P w (upd H a o) h' := fun b u e => by
  have hn := x.fresh hp
  by_cases hb : b = a
  · subst hb; rw [upd_same] at e; cases e; exact new
  · rw [upd_ne hb] at e
    exact (x b u e).stay (fun c v _ q => k c v q) (fun c q => by rw [upd_ne (ne_of_none q hn)]; exact q) fun c xs q => by rw [upd_ne (ne_of_none q hn)]; exact q
end

/-- what may be read as u: it is u, or a known u -/
def Rd (H : Hp) (a : Addr) (u : HO) : Prop := H a = some u ∨ ∃ o, H a = some (.frz o u)
theorem Rd.of {H : Hp} {a : Addr} {u : HO} (h : H a = some u) : Rd H a u := .inl h
theorem Rd.ok {P : Program} {w : World} {H : Hp} {h : Heap} {a : Addr} {u : HO} (r : Rd H a u) (x : HOk P w H h) : ObjOk P w H h a u := by
  rcases r with r | ⟨o, r⟩
  · exact x a u r
  · obtain ⟨_, q⟩ := x a _ r
    exact q
/-- what may be written -/
def Mut : Option HO → Prop
  | some (.lst _) => True
  | some (.dK _) => True
  | some (.dT _) => True
  | some (.set _ _) => True
  | some (.ins _ _ _) => True
  | some (.ext _) => True
  | _ => False
section
variable {P : Program} {w : World} {H : Hp} {h h' : Heap} {x e : Addr} {o' : HO}
/-- the object at e is changed: x itself, or the dict of the instance x -/
theorem HOk.write (ok : HOk P w H h) (mu : Mut (H x)) (he : e = x ∨ H e = some (.own x)) (k : ∀ b u, b ≠ e → h.get? b = some u → h'.get? b = some u) (heo : ∃ u, h'.get? e = some u)
    (new : ObjOk P w (upd H x o') h' x o') : HOk P w (upd H x o') h' := fun b u q => by
  have nown : ∀ c y, H c = some (.own y) → c ≠ x := fun c y r z => by subst z; rw [r] at mu; exact mu
  have ntup : ∀ c xs, H c = some (.tup xs) → c ≠ x := fun c xs r z => by subst z; rw [r] at mu; exact mu
  by_cases hb : b = x
  · subst hb; rw [upd_same] at q; cases q; exact new
  · rw [upd_ne hb] at q
    by_cases hbe : b = e
    · have q' : H b = some (.own x) := by
        rcases he with z | z
        · exact absurd (hbe.trans z) hb
        · rw [hbe]; exact z
      rw [q] at q'; cases q'
      obtain ⟨v, hv⟩ := heo
      exact ⟨v, by rw [hbe]; exact hv⟩
    · refine (ok b u q).stay (fun c v hc r => k c v ?_ r) (fun c r => by rw [upd_ne (nown c b r)]; exact r) fun c xs r => by rw [upd_ne (ntup c xs r)]; exact r
      rcases hc with rfl | hc
      · exact hbe
      · rintro rfl
        rcases he with z | z
        · exact nown c b hc z
        · rw [hc] at z; cases z; exact hb rfl
end

/-! ### kept unless tracked; of the frames at fs (the callers') the slots may change (an exception that passes writes there); of the records at ex (iterators) nothing is said -/
structure Un (fs ex : List Addr) (H H' : Hp) (h h' : Heap) : Prop where
  keep : ∀ b o, h.get? b = some o → H b = none → b ∉ fs → b ∉ ex → h'.get? b = some o
  slot : ∀ b o, h.get? b = some o → H b = none → b ∈ fs → b ∉ ex → ∃ sl, h'.get? b = some { o with slots := sl }
  free : ∀ b o, h.get? b = some o → H b = none → b ∉ ex → H' b = none
  there : ∀ b o, h.get? b = some o → b ∉ ex → ∃ o', h'.get? b = some o'
  tups : ∀ b xs, H b = some (.tup xs) → H' b = some (.tup xs)
  frzs : ∀ b o u, H b = some (.frz o u) → H' b = some (.frz o u)
  tbls : ∀ b ps, H b = some (.tbl ps) → ∃ more, H' b = some (.tbl (ps ++ more))
section
variable {fs fs' ex ex' : List Addr} {H H1 H2 : Hp} {h h1 h2 h' : Heap} {a x e : Addr} {o : HO}
theorem Un.any (u : Un fs ex H H1 h h1) {b : Addr} {ob : Obj} (q : h.get? b = some ob) (n : H b = none) (hx : b ∉ ex) : ∃ sl, h1.get? b = some { ob with slots := sl } := by
  by_cases hb : b ∈ fs
  · exact u.slot b ob q n hb hx
  · exact ⟨ob.slots, u.keep b ob q n hb hx⟩
theorem Un.trans (a : Un fs ex H H1 h h1) (b : Un fs ex H1 H2 h1 h2) : Un fs ex H H2 h h2 where
  keep := fun c ob q n hc hx => b.keep c ob (a.keep c ob q n hc hx) (a.free c ob q n hx) hc hx
  slot := fun c ob q n hc hx => by
    obtain ⟨sl, e1⟩ := a.slot c ob q n hc hx
    obtain ⟨sl', e2⟩ := b.slot c _ e1 (a.free c ob q n hx) hc hx
    exact ⟨sl', e2⟩
  free := fun c ob q n hx => by
    obtain ⟨o', e1⟩ := a.there c ob q hx
    exact b.free c o' e1 (a.free c ob q n hx) hx
  there := fun c ob q hx => by
    obtain ⟨o', e1⟩ := a.there c ob q hx
    exact b.there c o' e1 hx
  tups := fun c xs q => b.tups c xs (a.tups c xs q)
  frzs := fun c ob xs q => b.frzs c ob xs (a.frzs c ob xs q)
  tbls := fun c ps q => by
    obtain ⟨m1, e1⟩ := a.tbls c ps q
    obtain ⟨m2, e2⟩ := b.tbls c _ e1
    exact ⟨m1 ++ m2, by rw [e2, Array.append_assoc]⟩
theorem Un.kept (k : ∀ b u, h.get? b = some u → h'.get? b = some u) : Un fs ex H H h h' :=
  ⟨fun b ob q _ _ _ => k b ob q, fun b ob q _ _ _ => ⟨ob.slots, k b ob q⟩, fun _ _ _ n _ => n, fun b ob q _ => ⟨ob, k b ob q⟩, fun _ _ q => q, fun _ _ _ q => q, fun _ ps q => ⟨#[], by rw [q]; simp⟩⟩
theorem Un.refl : Un fs ex H H h h := Un.kept fun _ _ q => q
theorem Un.laid (k : ∀ b u, h.get? b = some u → h'.get? b = some u) (hp : h.objs.size ≤ a) (hn : H a = none) : Un fs ex H (upd H a o) h h' where
  keep := fun b u q _ _ _ => k b u q
  slot := fun b u q _ _ _ => ⟨u.slots, k b u q⟩
  free := fun b u q n _ => by rw [upd_ne (Nat.ne_of_lt (Nat.lt_of_lt_of_le (Heap.lt_size q) hp))]; exact n
  there := fun b u q _ => ⟨u, k b u q⟩
  tups := fun b xs q => by rw [upd_ne (ne_of_none q hn)]; exact q
  frzs := fun b u xs q => by rw [upd_ne (ne_of_none q hn)]; exact q
  tbls := fun b ps q => ⟨#[], by rw [upd_ne (ne_of_none q hn), q]; simp⟩
theorem Un.write (mu : Mut (H x)) (he : e = x ∨ H e = some (.own x)) (k : ∀ b u, b ≠ e → h.get? b = some u → h'.get? b = some u) (heo : ∃ u, h'.get? e = some u) : Un fs ex H (upd H x o) h h' := by
  have hx : ∀ b, H b = none → b ≠ x := fun b n z => by subst z; rw [n] at mu; exact mu
  have hb : ∀ b, H b = none → b ≠ e := fun b n z => by
    subst z
    rcases he with r | r
    · exact hx b n r
    · rw [n] at r; cases r
  have hm : ∀ b u, H b = some u → ¬ Mut (some u) → b ≠ x := fun b u q nm z => by subst z; rw [q] at mu; exact nm mu
  refine ⟨fun b u q n _ _ => k b u (hb b n) q, fun b u q n _ _ => ⟨u.slots, k b u (hb b n) q⟩, fun b u q n _ => by rw [upd_ne (hx b n)]; exact n, fun b u q _ => ?_,
    fun b xs q => by rw [upd_ne (hm b _ q fun z => z)]; exact q, fun b u xs q => by rw [upd_ne (hm b _ q fun z => z)]; exact q, fun b ps q => ⟨#[], by rw [upd_ne (hm b _ q fun z => z), q]; simp⟩⟩
  by_cases hbe : b = e
  · subst hbe; exact heo
  · exact ⟨u, k b u hbe q⟩
theorem Un.mono (u : Un fs ex H H1 h h1) (hs : ∀ b ∈ fs, b ∈ fs') (hx : ∀ b ∈ ex, b ∈ ex') : Un fs' ex' H H1 h h1 :=
  ⟨fun b ob q n hb he => u.keep b ob q n (fun z => hb (hs b z)) fun z => he (hx b z), fun _ _ q n _ he => u.any q n fun z => he (hx _ z), fun b ob q n he => u.free b ob q n fun z => he (hx b z), fun b ob q he => u.there b ob q fun z => he (hx b z), u.tups, u.frzs, u.tbls⟩
end

/-! ### the heap without what is tracked -/
def trk (h : Heap) (H : Hp) : List Addr := (List.range h.objs.size).filter fun a => (H a).isSome
def hidT (h : Heap) (H : Hp) : Heap := PySem.W.hideAll h (trk h H)
theorem hidT_size (h : Heap) (H : Hp) : (hidT h H).objs.size = h.objs.size := PySem.W.hideAll_size _ _
theorem hidT_get {h : Heap} {H : Hp} {b : Addr} {o : Obj} (e : h.get? b = some o) (n : H b = none) : (hidT h H).get? b = some o :=
  PySem.W.hideAll_get _ e fun hm => by
    have q : (H b).isSome = true := (List.mem_filter.mp hm).2
    rw [n] at q; simp at q
theorem of_hidT {h : Heap} {H : Hp} {b : Addr} {o : Obj} (e : (hidT h H).get? b = some o) : h.get? b = some o ∧ H b = none := by
  have e' : h.get? b = some o := PySem.W.of_hideAll (trk h H) e
  refine ⟨e', ?_⟩
  cases q : H b with
  | none => rfl
  | some x =>
    have hm : b ∈ trk h H := List.mem_filter.mpr ⟨List.mem_range.mpr (Heap.lt_size e'), by simp [q]⟩
    have z : (hidT h H).get? b = none := PySem.W.hideAll_none (trk h H) hm
    rw [z] at e; cases e

/-! ### OpenK's ledger, filled with every new object but one -/
def allNews (g h : Heap) (L : Addr) : List (Addr × Obj) := (List.range h.objs.size).filterMap fun a => if a = L ∨ (g.get? a).isSome = true then none else (h.get? a).map fun o => (a, o)
def rest (g h : Heap) (L d : Addr) : List (Addr × Obj) := (allNews g h L).filter fun p => decide (p.1 ≠ d)
end L2

namespace L2
open PySem PySem.Spec PyProof.Rows

/-- the module's facts, over the base: the heap at the law's entry without what is tracked there -/
structure Mod (K : PySem.W.Frag) (mg : Str → Option Value) (base : Heap) : Prop where
  kin : K.In base
  glob : base.Ns mainGlobals mg
  blt : ∃ mb, base.Ns builtinsNs mb ∧ ∀ x : Str, x ≠ "__name__" → mb x = bootBuiltins x
  nolimit : base.NoLimit

/-- the context: a def's body (or a comprehension's block) running. base: fixed through the whole law; s₀, H₀: the entry; outer: the frames whose slots others may change (a def's callers); stack: all frames that run;
   ex: iterators that were made ahead of the entry and are walked here (a comprehension's); fn: the names whose cells were made at the entry (a def: all; a comprehension's block: its own); calm: not within an except suite; pn: pins that every state bears; xe: what is wanted of an exception that leaves the code -/
structure Cx where
  prog : Program
  w : World
  K : PySem.W.Frag
  mg : Str → Option Value
  base : Heap
  A : Around
  N : List Str
  s₀ : Shared
  H₀ : Hp
  env : Env
  outer : List Env
  stack : List Env
  ex : List Addr
  fn : Str → Bool
  calm : Bool
  pn : List (Addr × Obj)
  xe : Value → Shared → Prop
/-- the callers' frames -/
def frs (l : List Env) : List Addr := l.filterMap (·.frame)
abbrev Cx.fs (X : Cx) : List Addr := frs X.outer

def Vis (sc : Scope) (x : Str) : Prop := sc.names.lookup x = some .local ∨ sc.names.lookup x = some .cell ∨ sc.names.lookup x = some .free
def Loc (sc : Scope) (x : Str) : Prop := sc.names.lookup x = some .local ∨ sc.names.lookup x = some .cell
def Look (env : Env) (h : Heap) (m : Str → Option Value) (x : Str) (u : Value) : Prop :=
  (env.kindOf x = some .local ∧ m x = some u) ∨ ((env.kindOf x = some .cell ∨ env.kindOf x = some .free) ∧ ∃ c, env.cells.lookup x = some c ∧ h.IsCell c (some u))

structure Cx.Ok (X : Cx) : Prop where
  mod : Mod X.K X.mg X.base
  kind : X.env.scope.kind = .function
  glob : X.env.globals = mainGlobals
  blt : X.env.builtins = builtinsNs
  above : X.s₀.heap.objs.size ≤ X.env.locals
  inj : ∀ x y c, X.env.cells.lookup x = some c → X.env.cells.lookup y = some c → x = y
  has : ∀ x, (X.env.kindOf x = some .cell ∨ X.env.kindOf x = some .free) → ∃ c, X.env.cells.lookup x = some c
  cab : ∀ x c, X.fn x = true → X.env.cells.lookup x = some c → X.s₀.heap.objs.size ≤ c
  hd : X.calm = true → X.A.handled = none
  frames : X.A.frames = some X.stack
  stk : X.stack = X.outer ∨ (X.stack = X.env :: X.outer ∧ X.env.frame = some X.env.locals)
  exf : ∀ b ∈ X.ex, b ≠ X.env.locals ∧ ∀ x c, X.env.cells.lookup x = some c → c ≠ b
  bs : ∀ b o, X.base.get? b = some o → X.s₀.heap.get? b = some o ∧ X.H₀ b = none
  bsz : X.base.objs.size ≤ X.s₀.heap.objs.size
  noex : ∀ b o, X.base.get? b = some o → b ∉ X.ex
  exfs : ∀ b ∈ X.ex, b ∉ X.fs
  funs : X.s₀.heap.FunFrames X.base X.outer
  frf : ∀ b ∈ X.fs, X.H₀ b = none

structure Inv (X : Cx) (pins : List (Addr × Obj)) (σ : List (Option V)) (H : Hp) (s : Shared) : Prop where
  ok : X.Ok
  os : s.os = X.s₀.os
  bare : AllBare s.gens
  base : Un X.fs X.ex X.H₀ H X.s₀.heap s.heap
  loc : ∃ m, s.heap.Ns X.env.locals m ∧ ∀ (i : Nat) (x : Str) (v : V), X.N[i]? = some x → σ[i]? = some (some v) → Vis X.env.scope x → ∃ u, RelV v u ∧ Look X.env s.heap m x u
  cell : ∀ x c, X.env.cells.lookup x = some c → ∃ v, s.heap.IsCell c v
  free : H X.env.locals = none
  freeC : ∀ x c, X.env.cells.lookup x = some c → H c = none
  pin : ∀ p ∈ X.pn ++ pins, s.heap.get? p.1 = some p.2 ∧ H p.1 = none ∧ p.1 ≠ X.env.locals ∧ p.1 ∉ X.fs ∧ ∀ v, p.2.data ≠ .cell v
  hok : HOk X.prog X.w H s.heap
  len : σ.length = X.N.length

section
variable {X : Cx} {pins : List (Addr × Obj)} {σ : List (Option V)} {H H' : Hp} {s : Shared} {h' : Heap}

theorem Cx.Ok.nofr (ok : X.Ok) {b : Addr} {o : Obj} (e : X.base.get? b = some o) : b ∉ X.fs := fun hb => by
  have := (ok.funs.mem hb).1
  rw [e] at this; cases this
theorem Inv.bs (I : Inv X pins σ H s) : ∀ b o, X.base.get? b = some o → s.heap.get? b = some o ∧ H b = none := fun b o e =>
  ⟨I.base.keep b o (I.ok.bs b o e).1 (I.ok.bs b o e).2 (I.ok.nofr e) (I.ok.noex b o e), I.base.free b o (I.ok.bs b o e).1 (I.ok.bs b o e).2 (I.ok.noex b o e)⟩
theorem Inv.bk (I : Inv X pins σ H s) : ∀ b o, X.base.get? b = some o → s.heap.get? b = some o := fun b o e => (I.bs b o e).1
theorem Inv.mod (I : Inv X pins σ H s) : Mod X.K X.mg X.base := I.ok.mod
theorem Inv.kIn (I : Inv X pins σ H s) : X.K.In s.heap := I.ok.mod.kin.keeps I.bk
theorem Inv.nolimit (I : Inv X pins σ H s) : s.heap.NoLimit := I.ok.mod.nolimit.keeps I.bk
theorem Inv.lt (I : Inv X pins σ H s) : X.env.locals < s.heap.objs.size := let ⟨_, hn, _⟩ := I.loc; hn.lt
theorem Inv.sz (I : Inv X pins σ H s) : X.s₀.heap.objs.size ≤ s.heap.objs.size := Nat.le_trans I.ok.above (Nat.le_of_lt I.lt)
theorem Inv.nofs (I : Inv X pins σ H s) {a : Addr} (h : s.heap.objs.size ≤ a) : a ∉ X.fs := fun hb => by
  obtain ⟨_, o, ho, _⟩ := I.ok.funs.mem hb
  exact absurd (Nat.lt_of_lt_of_le (Heap.lt_size ho) (Nat.le_trans I.sz h)) (Nat.lt_irrefl _)
theorem Inv.cne (I : Inv X pins σ H s) : ∀ x c, X.env.cells.lookup x = some c → c ≠ X.env.locals := fun x c e z => by
  obtain ⟨v, o, ho, hd⟩ := I.cell x c e
  obtain ⟨m, ⟨o', es, ep, ho', hd', _⟩, _⟩ := I.loc
  rw [z, ho'] at ho; cases ho; rw [hd'] at hd; cases hd
theorem Inv.funs (I : Inv X pins σ H s) : s.heap.FunFrames X.base X.outer := by
  have all : ∀ (l : List Env), (∀ b ∈ frs l, b ∈ X.fs) → X.s₀.heap.FunFrames X.base l → s.heap.FunFrames X.base l := by
    intro l
    induction l with
    | nil => intro _ _; trivial
    | cons env r ih =>
      intro hs hl
      obtain ⟨hk, ⟨L, o, hf, hn, ho, hd⟩, hr⟩ := hl
      have hL : L ∈ X.fs := hs L (by unfold frs; rw [List.filterMap_cons, hf]; exact List.mem_cons_self)
      obtain ⟨sl, e⟩ := I.base.slot L o ho (I.ok.frf L hL) hL fun z => I.ok.exfs L z hL
      exact ⟨hk, ⟨L, _, hf, hn, e, hd⟩, ih (fun b hb => hs b (by unfold frs; rw [List.filterMap_cons, hf]; exact List.mem_cons_of_mem _ hb)) hr⟩
  exact all X.outer (fun _ hb => hb) I.ok.funs

/-- the frames that run, for a call -/
theorem Inv.stack (I : Inv X pins σ H s) : s.heap.FunFrames X.base X.stack := by
  rcases I.ok.stk with e | ⟨e, hf⟩
  · rw [e]; exact I.funs
  · rw [e]
    obtain ⟨m, hn, _⟩ := I.loc
    refine .cons (by rw [I.ok.kind]; decide) hf hn ?_ I.funs
    exact Heap.get?_none_of_le (Nat.le_trans I.ok.bsz I.ok.above)
theorem Inv.stkSub (I : Inv X pins σ H s) : ∀ b ∈ frs X.stack, b ∈ X.env.locals :: X.fs := fun b hb => by
  rcases I.ok.stk with e | ⟨e, hf⟩
  · rw [e] at hb; exact List.mem_cons_of_mem _ hb
  · rw [e] at hb
    unfold frs at hb
    rw [List.filterMap_cons, hf] at hb
    exact hb
theorem Inv.stkFree (I : Inv X pins σ H s) : ∀ b ∈ frs X.stack, H b = none := fun b hb => by
  rcases List.mem_cons.mp (I.stkSub b hb) with e | hb
  · rw [e]; exact I.free
  · obtain ⟨_, o, ho, _⟩ := I.ok.funs.mem hb
    exact I.base.free b o ho (I.ok.frf b hb) fun z => I.ok.exfs b z hb

/-- THE STEP: the untracked objects but the frame and the records at ch are kept (the callers' frames up to slots), the frame's map is kept, the new abstract heap is held -/
theorem Inv.step {g' : Array GenState} {t' : Nat} {d' : Drawn} {ch : List Addr} (I : Inv X pins σ H s)
    (hch : ∀ b ∈ ch, (b ∈ X.ex ∨ X.s₀.heap.objs.size ≤ b) ∧ b ≠ X.env.locals ∧ (∀ x c, X.env.cells.lookup x = some c → c ≠ b) ∧ ∀ p ∈ X.pn ++ pins, p.1 ≠ b)
    (keep : ∀ b o, b ≠ X.env.locals → b ∉ X.fs → b ∉ ch → s.heap.get? b = some o → H b = none → h'.get? b = some o)
    (slot : ∀ b o, b ≠ X.env.locals → b ∈ X.fs → b ∉ ch → s.heap.get? b = some o → H b = none → ∃ sl, h'.get? b = some { o with slots := sl }) (free : ∀ b o, b ∉ ch → s.heap.get? b = some o → H b = none → H' b = none)
    (there : ∀ b o, b ∉ ch → s.heap.get? b = some o → ∃ o', h'.get? b = some o')
    (tups : ∀ b xs, H b = some (.tup xs) → H' b = some (.tup xs)) (frzs : ∀ b o u, H b = some (.frz o u) → H' b = some (.frz o u)) (tbls : ∀ b ps, H b = some (.tbl ps) → ∃ more, H' b = some (.tbl (ps ++ more)))
    (ns : ∀ m, s.heap.Ns X.env.locals m → h'.Ns X.env.locals m) (hok : HOk X.prog X.w H' h') (hg : AllBare g') :
    Inv X pins σ H' { s with heap := h', gens := g', drawn := d', toks := t' } := by
  have neL : ∀ b o, X.s₀.heap.get? b = some o → b ≠ X.env.locals := fun b o e => Nat.ne_of_lt (Nat.lt_of_lt_of_le (Heap.lt_size e) I.ok.above)
  have neC : ∀ b o, X.s₀.heap.get? b = some o → b ∉ X.ex → b ∉ ch := fun b o e hx hb => by
    rcases (hch b hb).1 with z | z
    · exact hx z
    · exact absurd (Nat.lt_of_lt_of_le (Heap.lt_size e) z) (Nat.lt_irrefl _)
  have cellK : ∀ x c, X.env.cells.lookup x = some c → ∀ v, s.heap.IsCell c v → h'.IsCell c v := fun x c e v ⟨o, ho, hd⟩ => by
    have nch : c ∉ ch := fun z => (hch c z).2.2.1 x c e rfl
    by_cases hc : c ∈ X.fs
    · obtain ⟨sl, q⟩ := slot c o (I.cne x c e) hc nch ho (I.freeC x c e)
      exact ⟨_, q, hd⟩
    · exact ⟨o, keep c o (I.cne x c e) hc nch ho (I.freeC x c e), hd⟩
  refine ⟨I.ok, I.os, hg, ⟨fun b o e n hb hx => ?_, fun b o e n hb hx => ?_, fun b o e n hx => ?_, fun b o e hx => ?_, fun b xs e => tups b xs (I.base.tups b xs e), fun b o xs e => frzs b o xs (I.base.frzs b o xs e), fun b ps e => ?_⟩, ?_, fun x c e => ?_, ?_, fun x c e => ?_, fun p hp => ?_, hok, I.len⟩
  · exact keep b o (neL b o e) hb (neC b o e hx) (I.base.keep b o e n hb hx) (I.base.free b o e n hx)
  · obtain ⟨sl, e1⟩ := I.base.slot b o e n hb hx
    obtain ⟨sl', e2⟩ := slot b _ (neL b o e) hb (neC b o e hx) e1 (I.base.free b o e n hx)
    exact ⟨sl', e2⟩
  · obtain ⟨o', e1⟩ := I.base.there b o e hx
    exact free b o' (neC b o e hx) e1 (I.base.free b o e n hx)
  · obtain ⟨o', e1⟩ := I.base.there b o e hx
    exact there b o' (neC b o e hx) e1
  · obtain ⟨m1, e1⟩ := I.base.tbls b ps e
    obtain ⟨m2, e2⟩ := tbls b _ e1
    exact ⟨m1 ++ m2, by rw [e2, Array.append_assoc]⟩
  · obtain ⟨m, hn, hl⟩ := I.loc
    refine ⟨m, ns m hn, fun i x v e1 e2 e3 => ?_⟩
    obtain ⟨u, r, l⟩ := hl i x v e1 e2 e3
    refine ⟨u, r, ?_⟩
    rcases l with l | ⟨k, c, e, z⟩
    · exact .inl l
    · exact .inr ⟨k, c, e, cellK x c e _ z⟩
  · obtain ⟨v, z⟩ := I.cell x c e
    exact ⟨v, cellK x c e v z⟩
  · obtain ⟨m, ⟨o, _, _, ho, _⟩, _⟩ := I.loc
    exact free _ o (fun z => (hch _ z).2.1 rfl) ho I.free
  · obtain ⟨v, o, ho, hd⟩ := I.cell x c e
    exact free c o (fun z => (hch c z).2.2.1 x c e rfl) ho (I.freeC x c e)
  · obtain ⟨e, n, ne, nf, d⟩ := I.pin p hp
    have nch : p.1 ∉ ch := fun z => (hch p.1 z).2.2.2 p hp rfl
    exact ⟨keep p.1 p.2 ne nf nch e n, free p.1 p.2 nch e n, ne, nf, d⟩
/-- .. where the frame's own object is kept too -/
theorem Inv.un {t' : Nat} (I : Inv X pins σ H s) (u : Un X.fs [] H H' s.heap h') (hok : HOk X.prog X.w H' h') : Inv X pins σ H' { s with heap := h', toks := t' } := by
  obtain ⟨m, ⟨o, es, ep, ho, r⟩, _⟩ := id I.loc
  obtain ⟨sl, hL⟩ := u.any ho I.free (by simp)
  exact I.step (g' := s.gens) (d' := s.drawn) (ch := []) (fun _ z => nomatch z) (fun b o _ hb _ e n => u.keep b o e n hb (by simp)) (fun b o _ hb _ e n => u.slot b o e n hb (by simp)) (fun b o _ e n => u.free b o e n (by simp)) (fun b o _ e => u.there b o e (by simp)) u.tups u.frzs u.tbls (fun m' hm => by
    obtain ⟨o', es', ep', ho', r'⟩ := hm
    rw [ho] at ho'; cases ho'
    exact ⟨_, es', ep', hL, r'⟩) hok I.bare
/-- behind a call (or a comprehension's block): the slots of this frame may have changed too, the records at ch may have turned -/
theorem Inv.call {g' : Array GenState} {t' : Nat} {d' : Drawn} {ch : List Addr} (I : Inv X pins σ H s) (u : Un (frs X.stack) ch H H' s.heap h') (hok : HOk X.prog X.w H' h') (hg : AllBare g')
    (hch : ∀ b ∈ ch, (b ∈ X.ex ∨ X.s₀.heap.objs.size ≤ b) ∧ b ≠ X.env.locals ∧ (∀ x c, X.env.cells.lookup x = some c → c ≠ b) ∧ ∀ p ∈ X.pn ++ pins, p.1 ≠ b) :
    Inv X pins σ H' { s with heap := h', gens := g', drawn := d', toks := t' } := by
  obtain ⟨m, ⟨o, es, ep, ho, r⟩, _⟩ := id I.loc
  obtain ⟨sl, hL⟩ := u.any ho I.free fun z => (hch _ z).2.1 rfl
  exact I.step (ch := ch) hch (fun b o hL hb hc e n => u.keep b o e n (fun z => (List.mem_cons.mp (I.stkSub b z)).elim hL hb) hc) (fun b o _ _ hc e n => u.any e n hc) (fun b o hc e n => u.free b o e n hc) (fun b o hc e => u.there b o e hc) u.tups u.frzs u.tbls (fun m' hm => by
    obtain ⟨o', es', ep', ho', r'⟩ := hm
    rw [ho] at ho'; cases ho'
    exact ⟨_, es', ep', hL, r'⟩) hok hg
/-- an untracked record of ours (an iterator) has turned -/
theorem Inv.turned {t' : Nat} {it : Addr} (I : Inv X pins σ H s) (k : ∀ b o, b ≠ it → s.heap.get? b = some o → h'.get? b = some o) (hn : H it = none) (hL : it ≠ X.env.locals)
    (h1 : it ∈ X.ex ∨ X.s₀.heap.objs.size ≤ it) (h2 : ∀ x c, X.env.cells.lookup x = some c → c ≠ it) (h3 : ∀ p ∈ X.pn ++ pins, p.1 ≠ it) : Inv X pins σ H { s with heap := h', toks := t' } := by
  have nit : ∀ b u, H b = some u → b ≠ it := fun b u e z => by rw [z, hn] at e; cases e
  refine I.step (g' := s.gens) (d' := s.drawn) (ch := [it]) (fun b hb => ?_) (fun b o _ _ hc e _ => k b o (fun z => hc (by simp [z])) e) (fun b o _ _ hc e _ => ⟨o.slots, k b o (fun z => hc (by simp [z])) e⟩) (fun _ _ _ _ n => n)
    (fun b o hc e => ⟨o, k b o (fun z => hc (by simp [z])) e⟩) (fun _ _ e => e) (fun _ _ _ e => e) (fun b ps e => ⟨#[], by rw [e]; simp⟩) (fun m hm => ?_) (fun b u e => ?_) I.bare
  · have e : b = it := by simpa using hb
    subst e
    exact ⟨h1, hL, h2, h3⟩
  · obtain ⟨o, es, ep, ho, r⟩ := hm
    exact ⟨o, es, ep, k _ o (Ne.symm hL) ho, r⟩
  · refine (I.hok b u e).stay (fun c v hc q => k c v ?_ q) (fun _ q => q) fun _ _ q => q
    rcases hc with z | z
    · rw [z]; exact nit b u e
    · exact nit c _ z
theorem Inv.tok (I : Inv X pins σ H s) (t : Nat) : Inv X pins σ H { s with toks := t } := I.un (h' := s.heap) (t' := t) Un.refl I.hok
/-- all objects kept -/
theorem Inv.kept {t' : Nat} (I : Inv X pins σ H s) (k : ∀ b u, s.heap.get? b = some u → h'.get? b = some u) : Inv X pins σ H { s with heap := h', toks := t' } := I.un (Un.kept k) (I.hok.kept k)
/-- a new object laid and tracked -/
theorem Inv.laid {a : Addr} {o : HO} {t' : Nat} (I : Inv X pins σ H s) (k : ∀ b u, s.heap.get? b = some u → h'.get? b = some u) (hp : s.heap.objs.size ≤ a) (new : ObjOk X.prog X.w (upd H a o) h' a o) :
    Inv X pins σ (upd H a o) { s with heap := h', toks := t' } := I.un (Un.laid k hp (I.hok.fresh hp)) (I.hok.laid k hp new)
/-- an object written -/
theorem Inv.write {x e : Addr} {o : HO} {t' : Nat} (I : Inv X pins σ H s) (mu : Mut (H x)) (he : e = x ∨ H e = some (.own x)) (k : ∀ b u, b ≠ e → s.heap.get? b = some u → h'.get? b = some u) (heo : ∃ u, h'.get? e = some u)
    (new : ObjOk X.prog X.w (upd H x o) h' x o) : Inv X pins σ (upd H x o) { s with heap := h', toks := t' } := I.un (Un.write mu he k heo) (I.hok.write mu he k heo new)
theorem Inv.pins_of {pins' : List (Addr × Obj)} (I : Inv X pins σ H s) (h : ∀ p ∈ pins', s.heap.get? p.1 = some p.2 ∧ H p.1 = none ∧ p.1 ≠ X.env.locals ∧ p.1 ∉ X.fs ∧ ∀ v, p.2.data ≠ .cell v) : Inv X pins' σ H s :=
  ⟨I.ok, I.os, I.bare, I.base, I.loc, I.cell, I.free, I.freeC, fun p hp => (List.mem_append.mp hp).elim (fun z => I.pin p (List.mem_append_left _ z)) (h p), I.hok, I.len⟩

theorem nodup_ix {N : List Str} (hN : N.Nodup) {i j : Nat} {x : Str} (a : N[i]? = some x) (b : N[j]? = some x) : i = j := by
  obtain ⟨h1, e1⟩ := List.getElem?_eq_some_iff.mp a
  obtain ⟨h2, e2⟩ := List.getElem?_eq_some_iff.mp b
  exact (List.getElem_inj hN).mp (e1.trans e2.symm)

/-- a name is stored; what changed -/
theorem store_ok2 {M : Model} {A : Around} {E : Value → Shared → Prop} {i : Nat} {x : Str} {v : V} {u : Value} {Q : Unit → Shared → Prop} (I : Inv X pins σ H s) (hN : X.N.Nodup) (hi : X.N[i]? = some x) (hx : Loc X.env.scope x) (r : RelV v u)
    (h : ∀ s', Inv X pins (σ.set i (some v)) H s' → (∃ a, Heap.SameBut a s.heap s'.heap ∧ (a = X.env.locals ∨ X.env.cells.lookup x = some a)) → Q () s') (hf : X.fn x = true ∨ X.env.scope.names.lookup x = some .local := by first | exact .inl rfl | exact .inr rfl | assumption) : wpAny M A (storeName X.env x u) Q E s := by
  obtain ⟨m, hn, hl⟩ := id I.loc
  have hcls : (X.env.scope.kind == .class || (X.env.scope.kind == .module && X.env.locals != X.env.globals)) = false := by rw [I.ok.kind]; rfl
  have hiσ : i < σ.length := by rw [I.len]; exact (List.getElem?_eq_some_iff.mp hi).1
  have cne := I.cne
  have tracked : ∀ {a : Addr} {h' : Heap}, (∃ o, s.heap.get? a = some o ∧ H a = none) → Heap.SameBut a s.heap h' → HOk X.prog X.w H h' := fun {a h'} ha hs b ob e => by
    obtain ⟨_, _, hfree⟩ := ha
    refine (I.hok b ob e).stay (fun c w' hc q => (hs.2 c ?_).trans q) (fun _ q => q) fun _ _ q => q
    rintro rfl
    rcases hc with rfl | hc
    · rw [hfree] at e; cases e
    · rw [hfree] at hc; cases hc
  rcases hx with hk | hk
  · refine wpAny_storeName_local hk hn (fun h' hn' hs => ?_) hcls
    obtain ⟨oL, _, _, hoL, _⟩ := id hn
    refine h _ ⟨I.ok, I.os, I.bare, ⟨fun b o e n hb hx => ?_, fun b o e n hb hx => ?_, I.base.free, fun b o e hx => ?_, I.base.tups, I.base.frzs, I.base.tbls⟩, ⟨_, hn', fun j y v' e1 e2 e3 => ?_⟩, fun y c e => ?_, I.free, I.freeC, fun p hp => ?_, tracked ⟨oL, hoL, I.free⟩ hs, by simpa using I.len⟩ ⟨_, hs, .inl rfl⟩
    · exact (hs.2 b (Nat.ne_of_lt (Nat.lt_of_lt_of_le (Heap.lt_size e) I.ok.above))).trans (I.base.keep b o e n hb hx)
    · obtain ⟨sl, e1⟩ := I.base.slot b o e n hb hx
      exact ⟨sl, (hs.2 b (Nat.ne_of_lt (Nat.lt_of_lt_of_le (Heap.lt_size e) I.ok.above))).trans e1⟩
    · obtain ⟨o', e1⟩ := I.base.there b o e hx
      exact ⟨o', (hs.2 b (Nat.ne_of_lt (Nat.lt_of_lt_of_le (Heap.lt_size e) I.ok.above))).trans e1⟩
    · by_cases hj : j = i
      · subst hj
        rw [hi] at e1; cases e1
        rw [List.getElem?_set_self hiσ] at e2
        cases e2
        exact ⟨u, r, .inl ⟨hk, by simp⟩⟩
      · rw [List.getElem?_set_ne (Ne.symm hj)] at e2
        obtain ⟨u', r', q⟩ := hl j y v' e1 e2 e3
        refine ⟨u', r', ?_⟩
        rcases q with ⟨k, e⟩ | ⟨k, c, e, z⟩
        · refine .inl ⟨k, ?_⟩
          have : y ≠ x := fun e => hj (nodup_ix hN e1 (e ▸ hi))
          simp [this, e]
        · exact .inr ⟨k, c, e, z.sameBut hs (cne y c e)⟩
    · obtain ⟨w', z⟩ := I.cell y c e
      exact ⟨w', z.sameBut hs (cne y c e)⟩
    · obtain ⟨e, n, ne, nf, d⟩ := I.pin p hp
      exact ⟨(hs.2 p.1 ne).trans e, n, ne, nf, d⟩
  · have hfn : X.fn x = true := by
      rcases hf with z | z
      · exact z
      · rw [z] at hk; cases hk
    obtain ⟨c, hc⟩ := I.ok.has x (.inl hk)
    obtain ⟨w', z⟩ := I.cell x c hc
    refine wpAny_storeName_cell I.ok.kind hk hc z (fun h' hc' hs => ?_)
    obtain ⟨oc, hoc, hocd⟩ := id z
    refine h { s with heap := h' } ⟨I.ok, I.os, I.bare, ⟨fun b o e n hb hx => ?_, fun b o e n hb hx => ?_, I.base.free, fun b o e hx => ?_, I.base.tups, I.base.frzs, I.base.tbls⟩, ⟨m, hn.sameBut hs (Ne.symm (cne x c hc)), fun j y v' e1 e2 e3 => ?_⟩, fun y c' e => ?_, I.free, I.freeC, fun p hp => ?_, tracked ⟨oc, hoc, I.freeC x c hc⟩ hs, by simpa using I.len⟩ ⟨c, hs, .inr hc⟩
    · exact (hs.2 b (Nat.ne_of_lt (Nat.lt_of_lt_of_le (Heap.lt_size e) (I.ok.cab x c hfn hc)))).trans (I.base.keep b o e n hb hx)
    · obtain ⟨sl, e1⟩ := I.base.slot b o e n hb hx
      exact ⟨sl, (hs.2 b (Nat.ne_of_lt (Nat.lt_of_lt_of_le (Heap.lt_size e) (I.ok.cab x c hfn hc)))).trans e1⟩
    · obtain ⟨o', e1⟩ := I.base.there b o e hx
      exact ⟨o', (hs.2 b (Nat.ne_of_lt (Nat.lt_of_lt_of_le (Heap.lt_size e) (I.ok.cab x c hfn hc)))).trans e1⟩
    · by_cases hj : j = i
      · subst hj
        rw [hi] at e1; cases e1
        rw [List.getElem?_set_self hiσ] at e2
        cases e2
        exact ⟨u, r, .inr ⟨.inl hk, c, hc, hc'⟩⟩
      · rw [List.getElem?_set_ne (Ne.symm hj)] at e2
        obtain ⟨u', r', q⟩ := hl j y v' e1 e2 e3
        refine ⟨u', r', ?_⟩
        rcases q with q | ⟨k, c', e, z'⟩
        · exact .inl q
        · refine .inr ⟨k, c', e, z'.sameBut hs ?_⟩
          rintro rfl
          exact hj (nodup_ix hN e1 (I.ok.inj _ _ _ e hc ▸ hi))
    · by_cases hcc : c' = c
      · subst hcc; exact ⟨_, hc'⟩
      · obtain ⟨w2, z2⟩ := I.cell y c' e
        exact ⟨w2, z2.sameBut hs hcc⟩
    · obtain ⟨e, n, ne, nf, d⟩ := I.pin p hp
      refine ⟨(hs.2 p.1 ?_).trans e, n, ne, nf, d⟩
      intro q
      rw [q, hoc] at e
      have q' : oc = p.2 := Option.some.inj e
      exact d w' (by rw [← q']; exact hocd)
theorem store_ok {M : Model} {A : Around} {E : Value → Shared → Prop} {i : Nat} {x : Str} {v : V} {u : Value} {Q : Unit → Shared → Prop} (I : Inv X pins σ H s) (hN : X.N.Nodup) (hi : X.N[i]? = some x) (hx : Loc X.env.scope x) (r : RelV v u)
    (h : ∀ s', Inv X pins (σ.set i (some v)) H s' → Q () s') (hf : X.fn x = true ∨ X.env.scope.names.lookup x = some .local := by first | exact .inl rfl | exact .inr rfl | assumption) : wpAny M A (storeName X.env x u) Q E s :=
  store_ok2 I hN hi hx r (fun s' I' _ => h s' I') hf
/-- behind a call or a block, the state as it is -/
theorem Inv.call' {s' : Shared} {ch : List Addr} (I : Inv X pins σ H s) (ho : s'.os = s.os) (u : Un (frs X.stack) ch H H' s.heap s'.heap) (hok : HOk X.prog X.w H' s'.heap) (hg : AllBare s'.gens)
    (hch : ∀ b ∈ ch, (b ∈ X.ex ∨ X.s₀.heap.objs.size ≤ b) ∧ b ≠ X.env.locals ∧ (∀ x c, X.env.cells.lookup x = some c → c ≠ b) ∧ ∀ p ∈ X.pn ++ pins, p.1 ≠ b) : Inv X pins σ H' s' := by
  obtain ⟨h', g', d', t', o'⟩ := s'
  have e : o' = s.os := ho
  subst e
  exact I.call (g' := g') (t' := t') (d' := d') u hok hg hch
end

/-! ### the judgements -/
/-- an exception: its class, its own dict's address (where it has one), the abstract heap behind it -/
abbrev XK := Value → Option Addr → Hp → Prop
abbrev St := List (Option V)
abbrev VK := V → Hp → Prop
/-- an expression's reading; a test's; an argument list's -/
abbrev TE := St → Hp → VK → Prop
abbrev TT := St → Hp → (Bool → Hp → Prop) → Prop
abbrev TA := St → Hp → (List V → Hp → Prop) → Prop
/-- what is wanted behind a statement -/
structure Ends where
  nx : St → Hp → Prop
  rt : VK
  bk : St → Hp → Prop := fun _ _ => False
  ct : St → Hp → Prop := fun _ _ => False
abbrev TS := Ends → St → Hp → Prop

def EP (X : Cx) (pins : List (Addr × Obj)) (σ : St) (Q : VK) (u : Value) (s' : Shared) : Prop := ∃ v H', Inv X pins σ H' s' ∧ RelV v u ∧ Q v H'
def TP (X : Cx) (pins : List (Addr × Obj)) (σ : St) (Q : Bool → Hp → Prop) (b : Bool) (s' : Shared) : Prop := ∃ H', Inv X pins σ H' s' ∧ Q b H'
def AP (X : Cx) (pins : List (Addr × Obj)) (σ : St) (Q : List V → Hp → Prop) (us : List Value) (s' : Shared) : Prop := ∃ vs H', Inv X pins σ H' s' ∧ Vals vs us ∧ Q vs H'
def SP (X : Cx) (pins : List (Addr × Obj)) (D : Ends) (f : Flow) (s' : Shared) : Prop :=
  match f with
  | .next => ∃ σ' H', Inv X pins σ' H' s' ∧ D.nx σ' H'
  | .brk => ∃ σ' H', Inv X pins σ' H' s' ∧ D.bk σ' H'
  | .cont => ∃ σ' H', Inv X pins σ' H' s' ∧ D.ct σ' H'
  | .ret u => ∃ v σ' H', Inv X pins σ' H' s' ∧ RelV v u ∧ D.rt v H'

def PE (X : Cx) (e : Expr) (t : TE) : Prop :=
  ∀ (pins : List (Addr × Obj)) (s : Shared) (σ : St) (H : Hp) (Q : VK), Inv X pins σ H s → t σ H Q → wpAny (model X.prog X.w) X.A (eval e X.env) (EP X pins σ Q) X.xe s
def PT (X : Cx) (e : Expr) (t : TT) : Prop :=
  ∀ (pins : List (Addr × Obj)) (s : Shared) (σ : St) (H : Hp) (Q : Bool → Hp → Prop), Inv X pins σ H s → t σ H Q → wpAny (model X.prog X.w) X.A (isTrue e X.env (eval e X.env)) (TP X pins σ Q) X.xe s
/-- a test whatever its 'whole' is (and, or) -/
def PW (X : Cx) (e : Expr) (t : TT) : Prop :=
  ∀ (whole : Sem Value) (pins : List (Addr × Obj)) (s : Shared) (σ : St) (H : Hp) (Q : Bool → Hp → Prop), Inv X pins σ H s → t σ H Q → wpAny (model X.prog X.w) X.A (isTrue e X.env whole) (TP X pins σ Q) X.xe s
theorem PW.pt {X : Cx} {e : Expr} {t : TT} (h : PW X e t) : PT X e t := h _
/-- an argument list (no star), from the left -/
def PA (X : Cx) (es : List Expr) (t : TA) : Prop :=
  ∀ (pos : Pos) (pins : List (Addr × Obj)) (s : Shared) (σ : St) (H : Hp) (Q : List V → Hp → Prop), Inv X pins σ H s → t σ H Q → wpAny (model X.prog X.w) X.A (spliced (backTo pos (starEach es X.env))) (AP X pins σ Q) X.xe s
def PS (X : Cx) (st : Stmt) (t : TS) : Prop :=
  ∀ (pins : List (Addr × Obj)) (s : Shared) (σ : St) (H : Hp) (D : Ends), Inv X pins σ H s → t D σ H → wpAny (model X.prog X.w) X.A (exec st X.env) (SP X pins D) X.xe s
def PSs (X : Cx) (st : List Stmt) (t : TS) : Prop :=
  ∀ (pins : List (Addr × Obj)) (s : Shared) (σ : St) (H : Hp) (D : Ends), Inv X pins σ H s → t D σ H → wpAny (model X.prog X.w) X.A (execs st X.env) (SP X pins D) X.xe s
/-- weaken the end -/
theorem thn {α : Type} {t : Sem α} {Q Q' : α → Shared → Prop} {M : Model} {A : Around} {E : Value → Shared → Prop} {s : Shared} (h : wpAny M A t Q E s) (hQ : ∀ a s, Q a s → Q' a s) : wpAny M A t Q' E s := wpAny_mono h hQ fun _ _ x => x
end L2

namespace L2
open PySem PySem.Spec PyProof.Rows
section
variable {X : Cx}

/-- two expressions in a row -/
theorem bin {a b : Expr} {ta tb : TE} (ha : PE X a ta) (hb : PE X b tb) {pins : List (Addr × Obj)} {s : Shared} {σ : St} {H : Hp} {R : V → V → Hp → Prop} (I : Inv X pins σ H s) (h : ta σ H fun x H1 => tb σ H1 fun y H2 => R x y H2)
    {α : Type} {Q : α → Shared → Prop} {f : Value → Value → Sem α}
    (hf : ∀ v u s2 x y H2, Inv X pins σ H2 s2 → RelV x v → RelV y u → R x y H2 → wpAny (model X.prog X.w) X.A (f v u) Q X.xe s2) :
    wpAny (model X.prog X.w) X.A (eval a X.env) (fun v s₁ => wpAny (model X.prog X.w) X.A (eval b X.env) (fun u s₂ => wpAny (model X.prog X.w) X.A (f v u) Q X.xe s₂) X.xe s₁) X.xe s := by
  refine thn (ha pins s σ H _ I h) fun v s1 ⟨x, H1, I1, r1, q1⟩ => ?_
  refine thn (hb pins s1 σ H1 _ I1 q1) fun u s2 ⟨y, H2, I2, r2, q2⟩ => ?_
  exact hf v u s2 x y H2 I2 r1 r2 q2

/-! ### names and constants -/
def tVar (i : Nat) : TE := fun σ H Q => ∃ v, σ[i]? = some (some v) ∧ Q v H
def tC (v : V) : TE := fun _ H Q => Q v H
theorem pe_var {i : Nat} {x : Str} {pos : Pos} (hN : X.N[i]? = some x) (hv : Vis X.env.scope x) (hd : (x == ("__debug__" : Str)) = false := by decide) (hcd : (x == ("__classdict__" : Str)) = false := by decide) : PE X (.Name x pos) (tVar i) := by
  intro pins s σ H Q I h
  obtain ⟨v, e, h⟩ := h
  obtain ⟨m, hn, hl⟩ := I.loc
  obtain ⟨u, r, l⟩ := hl i x v hN e hv
  have fin : EP X pins σ Q u s := ⟨v, H, I, r, h⟩
  rcases l with ⟨hk, hm⟩ | ⟨hk, c, hc, hcell⟩
  · exact wpAny_Name (wpAny_loadName_local I.ok.kind hk hn hm fin) hd
  · rcases hk with hk | hk
    · exact wpAny_Name (wpAny_loadName_cell I.ok.kind hk hc hcell fin) hd
    · exact wpAny_Name (wpAny_loadName_free I.ok.kind hk hc hcell fin hcd) hd
theorem pe_int {i j pos} : PE X (.Constant (.int i) j pos) (tC (.int i)) := fun _ _ _ H _ I h => wpAny_Constant_int ⟨.int i, H, I.tok _, ⟨_, rfl⟩, h⟩
theorem pe_bl {b j pos} : PE X (.Constant (.bool b) j pos) (tC (.bl b)) := fun _ _ _ H _ I h => Constant_bool ⟨.bl b, H, I, rfl, h⟩
theorem pe_non {j pos} : PE X (.Constant .none j pos) (tC .non) := fun _ _ _ H _ I h => Constant_none ⟨.non, H, I, rfl, h⟩
theorem pe_str {x j pos} : PE X (.Constant (.str x) j pos) (tC (.str x)) := fun _ _ _ H _ I h => Calls.Constant_str ⟨.str x, H, I.tok _, ⟨_, rfl⟩, h⟩

/-- a global name of the def -/
def Gl (X : Cx) (x : Str) : Prop := X.env.kindOf x = some .globalImplicit
theorem ld_glob {E : Value → Shared → Prop} {pins : List (Addr × Obj)} {s : Shared} {σ : St} {H : Hp} {x : Str} {u : Value} {pos : Pos} {Q : Value → Shared → Prop} (I : Inv X pins σ H s) (hg : Gl X x) (hm : X.mg x = some u) (h : Q u s)
    (hd : (x == ("__debug__" : Str)) = false := by decide) : wpAny (model X.prog X.w) X.A (eval (.Name x pos) X.env) Q E s :=
  Calls.Name_function_global I.ok.kind hg (Calls.loadGlobal_global (by rw [I.ok.glob]; exact I.mod.glob.keeps I.bk) hm h) hd
theorem ld_blt {E : Value → Shared → Prop} {pins : List (Addr × Obj)} {s : Shared} {σ : St} {H : Hp} {x : Str} {u : Value} {pos : Pos} {Q : Value → Shared → Prop} (I : Inv X pins σ H s) (hg : Gl X x) (hm : X.mg x = none) (hv : bootBuiltins x = some u) (h : Q u s)
    (hn : x ≠ "__name__" := by decide) (hd : (x == ("__debug__" : Str)) = false := by decide) : wpAny (model X.prog X.w) X.A (eval (.Name x pos) X.env) Q E s := by
  obtain ⟨mb, h1, h2⟩ := I.mod.blt
  exact Calls.Name_function_global I.ok.kind hg (Calls.loadGlobal_builtin (by rw [I.ok.glob]; exact I.mod.glob.keeps I.bk) hm (by rw [I.ok.blt]; exact h1.keeps I.bk) ((h2 x hn).trans hv) h) hd
/-- a module's constant, a class, a function, as a value -/
theorem pe_glob {x : Str} {v : V} {u : Value} {pos : Pos} (hg : Gl X x) (hm : X.mg x = some u) (r : RelV v u) (hd : (x == ("__debug__" : Str)) = false := by decide) : PE X (.Name x pos) (tC v) :=
  fun _ _ _ H _ I h => ld_glob I hg hm ⟨v, H, I, r, h⟩ hd
theorem pe_bltn {x : Str} {v : V} {u : Value} {pos : Pos} (hg : Gl X x) (hm : X.mg x = none) (hv : bootBuiltins x = some u) (r : RelV v u) (hn : x ≠ "__name__" := by decide) (hd : (x == ("__debug__" : Str)) = false := by decide) : PE X (.Name x pos) (tC v) :=
  fun _ _ _ H _ I h => ld_blt I hg hm hv ⟨v, H, I, r, h⟩ hn hd

/-! ### arithmetic -/
variable {a b : Expr} {ta tb : TE} {pos : Pos}

/-! ### comparisons -/
def PC (X : Cx) (op : CmpOp) (a b : Expr) (t : TE) : Prop :=
  ∀ (pins : List (Addr × Obj)) (s : Shared) (σ : St) (H : Hp) (Q : VK), Inv X pins σ H s → t σ H Q →
    wpAny (model X.prog X.w) X.A (eval a X.env) (fun v s₁ => wpAny (model X.prog X.w) X.A (eval b X.env) (fun u s₂ => wpAny (model X.prog X.w) X.A (compareOp op v u) (EP X pins σ Q) X.xe s₂) X.xe s₁) X.xe s
theorem nobehind (b : Expr) {op : CmpOp} (h : op ≠ .In) (h2 : op ≠ .NotIn) : behindInMarks op b = false := by
  have e1 : (op == CmpOp.In) = false := by cases op <;> first | rfl | exact absurd rfl h
  have e2 : (op == CmpOp.NotIn) = false := by cases op <;> first | rfl | exact absurd rfl h2
  cases b <;> simp [behindInMarks, e1, e2]
/-- a comparison as a value, as a test -/
def tB (t : TE) : TT := fun σ H Q => t σ H fun x H1 => ∃ c, x = .bl c ∧ Q c H1
theorem pt_cmp {op : CmpOp} {t : TE} (h : PC X op a b t) (h1 : behindInMarks op b = false := by first | exact nobehind _ (by decide) (by decide) | rfl) : PT X (.Compare a [op] [b] pos) (tB t) := by
  intro pins s σ H Q I hw
  refine wpAny_isTrue_Compare1 (thn (h pins s σ H _ I hw) fun v s1 h1 => thn h1 fun u s2 h2 => thn h2 fun c s3 ⟨x, H1, I1, r1, q1⟩ => ?_) h1
  obtain ⟨d, rfl, q⟩ := q1
  cases r1
  exact wpAny_truthy_bool ⟨H1, I1, q⟩
/-- an expression whose value is a bool, as a test -/
theorem pt_val {e : Expr} {t : TE} (h : PE X e t) (he : ∀ whole, isTrue e X.env whole = (do let v ← whole; standAt e.pos; holding [v] (truthy v)) := by intro _; rfl) : PT X e (tB t) := by
  intro pins s σ H Q I hw
  refine isTrue_plain (thn (h pins s σ H _ I hw) fun v s1 ⟨x, H1, I1, r1, q1⟩ => ?_) (he _)
  obtain ⟨d, rfl, q⟩ := q1
  cases r1
  exact wpAny_truthy_bool ⟨H1, I1, q⟩

/-! ### and, or, not -/
variable {tA tB' : TT} {rest : List Expr}
def tAnd (t u : TT) : TT := fun σ H Q => t σ H fun c H1 => if c = true then u σ H1 Q else Q false H1
def tOr (t u : TT) : TT := fun σ H Q => t σ H fun c H1 => if c = true then Q true H1 else u σ H1 Q
def tNot (t : TT) : TT := fun σ H Q => t σ H fun c H1 => Q (!c) H1
theorem pw_and1 (ha : PT X a tA) : PW X (.BoolOp .And [a] pos) tA := by
  intro wh pins s σ H Q I h
  refine isTrue_and (thn (ha pins s σ H Q I h) fun c s1 e => ?_)
  cases c with
  | true => exact isTrue_and_nil e
  | false => exact e
theorem pw_or1 (ha : PT X a tA) : PW X (.BoolOp .Or [a] pos) tA := by
  intro wh pins s σ H Q I h
  refine isTrue_or (thn (ha pins s σ H Q I h) fun c s1 e => ?_)
  cases c with
  | false => exact isTrue_or_nil e
  | true => exact e
theorem pw_and (ha : PT X a tA) (hb : PW X (.BoolOp .And (b :: rest) pos) tB') : PW X (.BoolOp .And (a :: b :: rest) pos) (tAnd tA tB') := by
  intro wh pins s σ H Q I h
  refine isTrue_and (thn (ha pins s σ H _ I h) fun c s1 ⟨H1, I1, q1⟩ => ?_)
  cases c with
  | true => exact hb wh pins s1 σ H1 Q I1 q1
  | false => exact ⟨H1, I1, q1⟩
theorem pw_or (ha : PT X a tA) (hb : PW X (.BoolOp .Or (b :: rest) pos) tB') : PW X (.BoolOp .Or (a :: b :: rest) pos) (tOr tA tB') := by
  intro wh pins s σ H Q I h
  refine isTrue_or (thn (ha pins s σ H _ I h) fun c s1 ⟨H1, I1, q1⟩ => ?_)
  cases c with
  | true => exact ⟨H1, I1, q1⟩
  | false => exact hb wh pins s1 σ H1 Q I1 q1
theorem pt_not (ha : PT X a tA) : PT X (.UnaryOp .Not a pos) (tNot tA) := by
  intro pins s σ H Q I h
  exact isTrue_not (ha pins s σ H (fun c H1 => Q (!c) H1) I h)
/-- .. as values (bools) -/
def tAndV (ta tb : TE) : TE := fun σ H Q => ta σ H fun x H1 => ∃ c, x = .bl c ∧ if c = true then tb σ H1 Q else Q (.bl false) H1
def tNotV (ta : TE) : TE := fun σ H Q => ta σ H fun x H1 => ∃ c, x = .bl c ∧ Q (.bl (!c)) H1
theorem pe_one {op} {t : TE} (h : PE X a t) : PE X (.BoolOp op [a] pos) t := fun pins s σ H Q I hw => BoolOp_one (h pins s σ H Q I hw)
theorem pe_and (ha : PE X a ta) (hb : PE X (.BoolOp .And (b :: rest) pos) tb) : PE X (.BoolOp .And (a :: b :: rest) pos) (tAndV ta tb) := by
  intro pins s σ H Q I h
  refine BoolOp_and (thn (ha pins s σ H _ I h) fun v s1 ⟨x, H1, I1, r1, q1⟩ => ?_)
  obtain ⟨c, rfl, q1⟩ := q1
  cases r1
  refine wpAny_truthy_bool ?_
  cases c with
  | true => exact hb pins s1 σ H1 Q I1 q1
  | false => exact ⟨.bl false, H1, I1, rfl, q1⟩
theorem pe_not (ha : PE X a ta) : PE X (.UnaryOp .Not a pos) (tNotV ta) := by
  intro pins s σ H Q I h
  refine UnaryOp_ (thn (ha pins s σ H _ I h) fun v s1 ⟨x, H1, I1, r1, q1⟩ => ?_)
  obtain ⟨c, rfl, q1⟩ := q1
  cases r1
  exact not_of (wpAny_truthy_bool ⟨.bl (!c), H1, I1, rfl, q1⟩)
end
end L2

namespace L2
open PySem PySem.Spec PyProof.Rows

/-! ### a list, a tuple that is read: tracked, frozen, or an object of the module -/
def SqL (K : PySem.W.Frag) (H : Hp) (a : Addr) (xs : List V) : Prop :=
  Rd H a (.lst xs) ∨
    ∃ (o : Obj) (its : Array Value) (n : Nat), K.lookup a = some o ∧ o.cls = .type "list" ∧ o.dict = none ∧ o.data = .seq its n ∧ its.size ≤ sizeLine ∧ Vals xs its.toList
def SqT (K : PySem.W.Frag) (H : Hp) (a : Addr) (xs : List V) : Prop :=
  Rd H a (.tup xs) ∨
    ∃ (o : Obj) (its : Array Value) (n : Nat), K.lookup a = some o ∧ o.cls = .type "tuple" ∧ o.data = .seq its n ∧ its.size ≤ sizeLine ∧ Vals xs its.toList
def absV : Value → Option V
  | .none => some .non
  | .bool b => some (.bl b)
  | .int i _ => some (.int i)
  | .str x _ => some (.str x)
  | .bytes b _ => some (.byt b)
  | .float b _ => some (.flt b)
  | .ref a => some (.ref a)
  | .type n => some (.ty n)
  | _ => none
theorem RelV.abs {x : V} {u : Value} (r : RelV x u) : absV u = some x := by
  cases x with
  | non => cases r; rfl
  | bl _ => cases r; rfl
  | int _ => obtain ⟨t, rfl⟩ := r; rfl
  | str _ => obtain ⟨t, rfl⟩ := r; rfl
  | byt _ => obtain ⟨t, rfl⟩ := r; rfl
  | flt _ => obtain ⟨t, rfl⟩ := r; rfl
  | ref _ => cases r; rfl
  | ty _ => cases r; rfl
theorem RelV.inj {x y : V} {u : Value} (r : RelV x u) (q : RelV y u) : x = y := Option.some.inj (r.abs.symm.trans q.abs)
theorem Vals.inj : ∀ {xs ys : List V} {us : List Value}, Vals xs us → Vals ys us → xs = ys
  | _, _, _, .nil, .nil => rfl
  | _, _, _, .cons r t, .cons r' t' => by rw [r.inj r', Vals.inj t t']
section
variable {X : Cx} {pins : List (Addr × Obj)} {σ : St} {H : Hp} {s : Shared} {a : Addr} {xs ys : List V}
theorem SqL.of {K : PySem.W.Frag} (h : H a = some (.lst xs)) : SqL K H a xs := .inl (.inl h)
theorem SqT.of {K : PySem.W.Frag} (h : H a = some (.tup xs)) : SqT K H a xs := .inl (.inl h)
theorem Inv.list (I : Inv X pins σ H s) (h : SqL X.K H a xs) : ∃ its : List Value, Vals xs its ∧ PlainL s.heap a its.toArray ∧ xs.length ≤ sizeLine := by
  rcases h with h | ⟨o, its, n, hk, hc, hd, hs, hz, r⟩
  · obtain ⟨z, its, n, r, e⟩ := h.ok I.hok
    exact ⟨its, r, ⟨_, n, e, rfl, rfl, rfl⟩, z⟩
  · refine ⟨its.toList, r, ⟨o, n, I.kIn a o hk, hc, hd, by simpa using hs⟩, ?_⟩
    have e := r.length
    simp only [Array.length_toList] at e
    omega
theorem Inv.tuple (I : Inv X pins σ H s) (h : SqT X.K H a xs) : ∃ its : List Value, Vals xs its ∧ IsTup s.heap a its.toArray ∧ xs.length ≤ sizeLine := by
  rcases h with h | ⟨o, its, n, hk, hc, hs, hz, r⟩
  · obtain ⟨z, its, r, p, _⟩ := h.ok I.hok
    exact ⟨its, r, p, z⟩
  · refine ⟨its.toList, r, ⟨o, I.kIn a o hk, hc, n, by simpa using hs⟩, ?_⟩
    have e := r.length
    simp only [Array.length_toList] at e
    omega
theorem Inv.list_inj (I : Inv X pins σ H s) (h : SqL X.K H a xs) (h' : SqL X.K H a ys) : xs = ys := by
  obtain ⟨its, r, ⟨o, n, e, _, _, d⟩, _⟩ := I.list h
  obtain ⟨its', r', ⟨o', n', e', _, _, d'⟩, _⟩ := I.list h'
  rw [e] at e'; cases e'
  rw [d] at d'
  injection d' with d1 _
  have : its = its' := by simpa using congrArg Array.toList d1
  subst this
  exact r.inj r'
theorem Inv.tuple_inj (I : Inv X pins σ H s) (h : SqT X.K H a xs) (h' : SqT X.K H a ys) : xs = ys := by
  obtain ⟨its, r, ⟨o, e, _, n, d⟩, _⟩ := I.tuple h
  obtain ⟨its', r', ⟨o', e', _, n', d'⟩, _⟩ := I.tuple h'
  rw [e] at e'; cases e'
  rw [d] at d'
  injection d' with d1 _
  have : its = its' := by simpa using congrArg Array.toList d1
  subst this
  exact r.inj r'
end

/-! ### another wish about exceptions -/
abbrev Cx.wish (X : Cx) (E : Value → Shared → Prop) : Cx := { X with xe := E }
/-- no exception leaves -/
abbrev Cx.nox (X : Cx) : Cx := X.wish fun _ _ => False
theorem Cx.Ok.wish {X : Cx} (ok : X.Ok) (E : Value → Shared → Prop) : (X.wish E).Ok :=
  ⟨ok.mod, ok.kind, ok.glob, ok.blt, ok.above, ok.inj, ok.has, ok.cab, ok.hd, ok.frames, ok.stk, ok.exf, ok.bs, ok.bsz, ok.noex, ok.exfs, ok.funs, ok.frf⟩
theorem Cx.Ok.unwish {X : Cx} {E : Value → Shared → Prop} (ok : (X.wish E).Ok) : X.Ok :=
  ⟨ok.mod, ok.kind, ok.glob, ok.blt, ok.above, ok.inj, ok.has, ok.cab, ok.hd, ok.frames, ok.stk, ok.exf, ok.bs, ok.bsz, ok.noex, ok.exfs, ok.funs, ok.frf⟩
section
variable {X : Cx} {pins : List (Addr × Obj)} {σ : St} {H : Hp} {s : Shared} {E : Value → Shared → Prop}
theorem Inv.wish (I : Inv X pins σ H s) (E : Value → Shared → Prop) : Inv (X.wish E) pins σ H s := ⟨I.ok.wish E, I.os, I.bare, I.base, I.loc, I.cell, I.free, I.freeC, I.pin, I.hok, I.len⟩
theorem Inv.unwish (I : Inv (X.wish E) pins σ H s) : Inv X pins σ H s := ⟨I.ok.unwish, I.os, I.bare, I.base, I.loc, I.cell, I.free, I.freeC, I.pin, I.hok, I.len⟩
theorem SP.unwish {D : Ends} {f : Flow} {s' : Shared} (h : SP (X.wish E) pins D f s') : SP X pins D f s' := by
  cases f with
  | next => obtain ⟨σ', H', I, q⟩ := h; exact ⟨σ', H', I.unwish, q⟩
  | brk => obtain ⟨σ', H', I, q⟩ := h; exact ⟨σ', H', I.unwish, q⟩
  | cont => obtain ⟨σ', H', I, q⟩ := h; exact ⟨σ', H', I.unwish, q⟩
  | ret u => obtain ⟨v, σ', H', I, r, q⟩ := h; exact ⟨v, σ', H', I.unwish, r, q⟩
theorem PE.nox {e : Expr} {t : TE} (h : PE X.nox e t) : PE X e t := fun pins s σ H Q I hw =>
  wpAny_mono (h pins s σ H Q (I.wish _) hw) (fun _ _ ⟨v, H', I', r, q⟩ => ⟨v, H', I'.unwish, r, q⟩) fun _ _ z => False.elim z
theorem PT.nox {e : Expr} {t : TT} (h : PT X.nox e t) : PT X e t := fun pins s σ H Q I hw =>
  wpAny_mono (h pins s σ H Q (I.wish _) hw) (fun _ _ ⟨H', I', q⟩ => ⟨H', I'.unwish, q⟩) fun _ _ z => False.elim z
theorem PSs.nox {st : List Stmt} {t : TS} (h : PSs X.nox st t) : PSs X st t := fun pins s σ H D I hw =>
  wpAny_mono (h pins s σ H D (I.wish _) hw) (fun _ _ q => q.unwish) fun _ _ z => False.elim z
end

/-! ### blocks and small statements -/
section
variable {X : Cx} {st : Stmt} {rest : List Stmt} {t u : TS} {e : Expr} {te : TE} {pos : Pos}
def tNext : TS := fun D σ H => D.nx σ H
def tSeq (t u : TS) : TS := fun D σ H => t { D with nx := u D } σ H
theorem pss_nil : PSs X [] tNext := fun _ _ σ H _ I h => wpAny_execs_nil ⟨σ, H, I, h⟩
theorem pss_cons (h1 : PS X st t) (h2 : PSs X rest u) : PSs X (st :: rest) (tSeq t u) := by
  intro pins s σ H D I h
  refine wpAny_execs_cons (thn (h1 pins s σ H { D with nx := u D } I h) fun f s1 q => ?_)
  cases f with
  | next =>
    obtain ⟨σ', H', I', q⟩ := q
    exact h2 pins s1 σ' H' D I' q
  | ret v => exact q
  | brk => exact q
  | cont => exact q
theorem pss_one (h1 : PS X st t) : PSs X [st] t := by
  intro pins s σ H D I h
  refine wpAny_execs_cons (thn (h1 pins s σ H D I h) fun f s1 q => ?_)
  cases f with
  | next => exact wpAny_execs_nil q
  | ret v => exact q
  | brk => exact q
  | cont => exact q
/-- in a def's body nothing is shown -/
theorem Inv.quiet {pins : List (Addr × Obj)} {σ : St} {H : Hp} {s : Shared} (I : Inv X pins σ H s) : interactive X.env = false := by simp [interactive, I.ok.kind]
/-- an expression whose value is dropped -/
def tDrop (te : TE) : TS := fun D σ H => te σ H fun _ H1 => D.nx σ H1
theorem ps_expr (he : PE X e te) (hs : swapsWith e none pos.line X.env = pure false := by rfl) : PS X (.Expr e pos) (tDrop te) := by
  intro pins s σ H D I h
  exact wpAny_Expr_any (thn (he pins s σ H _ I h) fun v s1 ⟨x, H1, I1, r1, q1⟩ => ⟨σ, H1, I1, q1⟩) I.quiet hs
def tRet (te : TE) : TS := fun D σ H => te σ H D.rt
theorem ps_ret (he : PE X e te) : PS X (.Return (some e) pos) (tRet te) := by
  intro pins s σ H D I h
  exact wpAny_Return_some (thn (he pins s σ H _ I h) fun v s1 ⟨x, H1, I1, r1, q1⟩ => ⟨x, σ, H1, I1, r1, q1⟩)
def tIfS (c : TT) (t u : TS) : TS := fun D σ H => c σ H fun b H1 => if b = true then t D σ H1 else u D σ H1
theorem ps_if {c : Expr} {a b : List Stmt} {tc : TT} (hc : PT X c tc) (ha : PSs X a t) (hb : PSs X b u) : PS X (.If c a b pos) (tIfS tc t u) := by
  intro pins s σ H D I h
  refine wpAny_If (thn (hc pins s σ H _ I h) fun d s1 ⟨H1, I1, q1⟩ => ?_)
  cases d with
  | true => exact ha pins s1 σ H1 D I1 q1
  | false => exact hb pins s1 σ H1 D I1 q1
end

/-! ### targets -/
abbrev TG := V → St → Hp → (St → Hp → Prop) → Prop
abbrev TGs := List V → St → Hp → (St → Hp → Prop) → Prop
def PG (X : Cx) (target : Expr) (t : TG) : Prop :=
  ∀ (pins : List (Addr × Obj)) (s : Shared) (σ : St) (H : Hp) (v : V) (u : Value) (Q : St → Hp → Prop), Inv X pins σ H s → RelV v u → t v σ H Q →
    wpAny (model X.prog X.w) X.A (assign target X.env u) (fun _ s' => ∃ σ' H', Inv X pins σ' H' s' ∧ Q σ' H') X.xe s
/-- several targets, one after another -/
def PGs (X : Cx) (ts : List Expr) (t : TGs) : Prop :=
  ∀ (pins : List (Addr × Obj)) (s : Shared) (σ : St) (H : Hp) (vs : List V) (us : List Value) (Q : St → Hp → Prop), Inv X pins σ H s → Vals vs us → t vs σ H Q →
    wpAny (model X.prog X.w) X.A (assignInOrder ((assignEach ts X.env).map (·.2)) us) (fun _ s' => ∃ σ' H', Inv X pins σ' H' s' ∧ Q σ' H') X.xe s
section
variable {X : Cx} {pos : Pos}
def gName (i : Nat) : TG := fun v σ H Q => Q (σ.set i (some v)) H
theorem pg_name {i : Nat} {x : Str} (hN : X.N.Nodup) (hi : X.N[i]? = some x) (hx : Loc X.env.scope x) (hf : X.fn x = true ∨ X.env.scope.names.lookup x = some .local := by first | exact .inl rfl | exact .inr rfl | assumption) : PG X (.Name x pos) (gName i) := by
  intro pins s σ H v u Q I r h
  exact wpAny_assign_Name (store_ok I hN hi hx r (fun s' I' => ⟨_, H, I', h⟩) hf)
def gNil : TGs := fun vs σ H Q => vs = [] ∧ Q σ H
def gCons (t : TG) (u : TGs) : TGs := fun vs σ H Q => ∃ v r, vs = v :: r ∧ t v σ H fun σ' H' => u r σ' H' Q
theorem pgs_nil : PGs X [] gNil := by
  intro pins s σ H vs us Q I r h
  obtain ⟨e, h⟩ := h
  subst e
  cases r
  exact assignInOrder_nil ⟨σ, H, I, h⟩
theorem pgs_cons {e : Expr} {es : List Expr} {t : TG} {u : TGs} (h1 : PG X e t) (h2 : PGs X es u)
    (hs : (assignEach (e :: es) X.env).map (·.2) = assign e X.env :: (assignEach es X.env).map (·.2) := by rfl) : PGs X (e :: es) (gCons t u) := by
  intro pins s σ H vs us Q I r h
  obtain ⟨v, vr, e1, h⟩ := h
  subst e1
  cases r with
  | cons r rr =>
    rw [hs]
    refine assignInOrder_cons (thn (h1 pins s σ H _ _ _ I r h) fun _ s1 ⟨σ1, H1, I1, q1⟩ => ?_)
    exact h2 pins s1 σ1 H1 _ _ Q I1 rr q1
/-- (a, b, ..) = a tuple of that length -/
def gTup (K : PySem.W.Frag) (n : Nat) (t : TGs) : TG := fun v σ H Q => ∃ a xs, v = .ref a ∧ SqT K H a xs ∧ xs.length = n ∧ t xs σ H Q
theorem pg_tup {es : List Expr} {k : Nat} {t : TGs} {n : Nat} (hc : X.calm = true) (h : PGs X es t)
    (hn : (assignEach es X.env).length = n := by rfl) (hst : (assignEach es X.env).findIdx? (·.1) = none := by rfl) : PG X (.Tuple es k pos) (gTup X.K n t) := by
  intro pins s σ H v u Q I r hw
  obtain ⟨a, xs, e1, hq, hl, hw⟩ := hw
  subst e1
  cases r
  obtain ⟨its, rv, ht, hz⟩ := I.tuple hq
  refine assign_Tuple_tuple (I.ok.hd hc) ht (by simp [hn, ← hl, rv.length]) hst fun h' hx => ?_
  have I1 : Inv X pins σ H { s with heap := h' } := I.kept (t' := s.toks) fun b o e => hx b o (Nat.ne_of_lt (Heap.lt_size e)) e
  exact h pins _ σ H xs _ Q I1 (by simpa using rv) hw
/-- target = value -/
def tAsg (te : TE) (g : TG) : TS := fun D σ H => te σ H fun x H1 => g x σ H1 D.nx
/-- name = value -/
theorem ps_set {i : Nat} {x : Str} {e : Expr} {te : TE} {pos' : Pos} (hN : X.N.Nodup) (hi : X.N[i]? = some x) (hx : Loc X.env.scope x) (he : PE X e te) (hs : swapsWith e (some (.Name x pos')) pos.line X.env = pure false := by rfl) (hf : X.fn x = true ∨ X.env.scope.names.lookup x = some .local := by first | exact .inl rfl | exact .inr rfl | assumption) :
    PS X (.Assign [.Name x pos'] e pos) (tAsg te (gName i)) := by
  intro pins s σ H D I h
  refine wpAny_Assign_Name (thn (he pins s σ H _ I h) fun v s1 ⟨y, H1, I1, r1, q1⟩ => ?_) hs
  exact store_ok I1 hN hi hx r1 (fun s2 I2 => ⟨_, H1, I2, q1⟩) hf
end

/-! ### while -/
section
variable {X : Cx} {pos : Pos}
end

/-! ### what a loop or a comprehension walks -/
/-- at turn i: it yields x (the heap may grow), or it stops -/
structure It where
  go : Nat → Hp → Prop
  yld : Nat → Hp → V → Hp → Prop
  stop : Nat → Hp → Prop
/-- the iterator's own objects may turn: they are not the frame's, not pinned, younger than the entry (or a comprehension's own) -/
def FpOk (X : Cx) (pins : List (Addr × Obj)) (H : Hp) (b : Addr) : Prop :=
  H b = none ∧ b ≠ X.env.locals ∧ b ∉ X.fs ∧ (b ∈ X.ex ∨ X.s₀.heap.objs.size ≤ b) ∧ (∀ x c, X.env.cells.lookup x = some c → c ≠ b) ∧ ∀ p ∈ X.pn ++ pins, p.1 ≠ b
theorem Inv.fpOk {X : Cx} {pins : List (Addr × Obj)} {σ : St} {H H' : Hp} {s : Shared} {b : Addr} (I : Inv X pins σ H s) (hb : s.heap.objs.size ≤ b) (hn : H' b = none) : FpOk X pins H' b := by
  refine ⟨hn, Nat.ne_of_gt (Nat.lt_of_lt_of_le I.lt hb), I.nofs hb, .inr (Nat.le_trans I.sz hb), fun x c e z => ?_, fun p hp z => ?_⟩
  · obtain ⟨v, q⟩ := I.cell x c e
    exact absurd (Nat.lt_of_lt_of_le q.lt (by rw [z]; exact hb)) (Nat.lt_irrefl _)
  · exact absurd (Nat.lt_of_lt_of_le (Heap.lt_size (I.pin p hp).1) (by rw [z]; exact hb)) (Nat.lt_irrefl _)
structure Turn (P : Program) (w : World) (K : PySem.W.Frag) (tg : Expr) (J : It) (fp : List Addr) (it : Addr) (tn : Nat → Heap → Prop) : Prop where
  mem : it ∈ fp
  obj : ∀ i h, tn i h → ∀ b ∈ fp, ∃ o, h.get? b = some o ∧ ∀ v, o.data ≠ .cell v
  keep : ∀ i h h', tn i h → (∀ b ∈ fp, ∀ o, h.get? b = some o → h'.get? b = some o) → tn i h'
  item : ∀ (X : Cx), X.prog = P → X.w = w → X.K = K → X.calm = true → ∀ (i : Nat) (pins : List (Addr × Obj)) (s : Shared) (σ : St) (H : Hp) (E : Value → Shared → Prop), Inv X pins σ H s → (∀ b ∈ fp, FpOk X pins H b) → tn i s.heap → J.go i H →
    wpAny (model P w) X.A (pyNext (.ref it)) (fun r s1 => ∃ u, r = some u ∧
      wpAny (model P w) X.A (letOwnedTupleGo tg (.ref it) u) (fun _ s2 => ∃ x H', Inv X pins σ H' s2 ∧ RelV x u ∧ J.yld i H x H' ∧ tn (i + 1) s2.heap ∧ ∀ b ∈ fp, H' b = none) E s1) E s
  done : ∀ (X : Cx), X.prog = P → X.w = w → X.K = K → X.calm = true → ∀ (i : Nat) (pins : List (Addr × Obj)) (s : Shared) (σ : St) (H : Hp) (E : Value → Shared → Prop), Inv X pins σ H s → (∀ b ∈ fp, FpOk X pins H b) → tn i s.heap → J.stop i H →
    wpAny (model P w) X.A (pyNext (.ref it)) (fun r s1 => r = none ∧ Inv X pins σ H s1) E s
  self : ∀ (A : Around) (i : Nat) (s : Shared) (Q : Value → Shared → Prop) (E : Value → Shared → Prop), tn i s.heap → Q (.ref it) s → wpAny (model P w) A (pyIter (.ref it)) Q E s
abbrev TI := St → Hp → (It → Hp → Prop) → Prop
/-- an iterator has come -/
def PIE (X : Cx) (pins : List (Addr × Obj)) (σ : St) (tg : Expr) (R : It → Hp → Prop) (itv : Value) (s2 : Shared) : Prop :=
  ∃ (it : Addr) (fp : List Addr) (tn : Nat → Heap → Prop) (J : It) (H' : Hp), itv = .ref it ∧ Inv X pins σ H' s2 ∧ Turn X.prog X.w X.K tg J fp it tn ∧ tn 0 s2.heap ∧ (∀ b ∈ fp, FpOk X pins H' b) ∧ R J H'
def PI (X : Cx) (tg iter : Expr) (wi : TI) : Prop :=
  ∀ (pins : List (Addr × Obj)) (s : Shared) (σ : St) (H : Hp) (R : It → Hp → Prop), Inv X pins σ H s → wi σ H R →
    wpAny (model X.prog X.w) X.A (eval iter X.env) (fun v s1 => wpAny (model X.prog X.w) X.A (pyIter v) (PIE X pins σ tg R) X.xe s1) X.xe s

/-- the step ahead of the store is nothing for an iterator that keeps no tuple -/
theorem go_of {M : Model} {A : Around} {E : Value → Shared → Prop} {s : Shared} {tg : Expr} {it : Addr} {u : Value} {o : Obj} {n : String} {vs : Array Value} {Q : Unit → Shared → Prop} (ho : s.heap.get? it = some o) (hc : o.cls = .type n) (hd : o.data = .fields vs)
    (hn : ["enumerate", "zip", "dict_itemiterator", "dict_reverseitemiterator", "odict_iterator", "itertools.zip_longest", "itertools.pairwise"].contains n = false) (hQ : Q () s) : wpAny M A (letOwnedTupleGo tg (.ref it) u) Q E s := by
  unfold letOwnedTupleGo
  cases tg <;> first
    | exact wpAny_pure hQ
    | (cases u <;> first
        | exact wpAny_pure hQ
        | (refine wpAny_bind (wpAny_load ho ?_)
           rw [hc, hd]
           show wpAny M A (if (["enumerate", "zip", "dict_itemiterator", "dict_reverseitemiterator", "odict_iterator", "itertools.zip_longest", "itertools.pairwise"].contains n && vs[0]? == some (rawInt _)) = true then _ else _) Q E s
           rw [if_neg (by intro h; rw [hn, Bool.false_and] at h; cases h)]
           exact wpAny_pure hQ))

/-- the list at a, as it stands at each turn (a loop may append to it) -/
def Itl (K : PySem.W.Frag) (a : Addr) : It :=
  ⟨fun i H => ∃ xs x, SqL K H a xs ∧ xs[i]? = some x, fun i H x H' => H' = H ∧ ∀ xs, SqL K H a xs → xs[i]? = some x, fun i H => ∃ xs, SqL K H a xs ∧ xs.length ≤ i⟩
def Itt (K : PySem.W.Frag) (a : Addr) : It :=
  ⟨fun i H => ∃ xs x, SqT K H a xs ∧ xs[i]? = some x, fun i H x H' => H' = H ∧ ∀ xs, SqT K H a xs → xs[i]? = some x, fun i H => ∃ xs, SqT K H a xs ∧ xs.length ≤ i⟩
/-- lo, lo + 1, .. (n of them) -/
def Itr (lo : Int) (n : Nat) : It := ⟨fun i _ => i < n, fun i H x H' => H' = H ∧ x = .int (lo + i), fun i _ => n ≤ i⟩
theorem turn_list {P : Program} {w : World} {K : PySem.W.Frag} {tg : Expr} (a it : Addr) : Turn P w K tg (Itl K a) [it] it (fun i h => h.IsListIter it a i) where
  mem := by simp
  obj := fun i h st b hb => by
    have e : b = it := by simpa using hb
    subst e
    obtain ⟨o, e, c, d⟩ := st
    exact ⟨o, e, fun v z => by rw [d] at z; cases z⟩
  keep := fun i h h' st k => st.at fun o e => k it (by simp) o e
  item := by
    intro X hP hw hK hc i pins s σ H E I hf st hg
    subst hP hw hK
    obtain ⟨xs, x, hq, hx⟩ := hg
    obtain ⟨its, rv, p, hz⟩ := I.list hq
    obtain ⟨u, hu, ru⟩ := rv.get hx
    obtain ⟨f0, f1, f2, f3, f4, f5⟩ := hf it (by simp)
    refine wpAny_pyNext_list_item st p.isList (x := u) (by simpa using hu) fun h' st' sb => ?_
    have I1 : Inv X pins σ H { s with heap := h' } := I.turned (t' := s.toks) (fun b o hb e => (sb.2 b hb).trans e) f0 f1 f3 f4 f5
    obtain ⟨o, e, c, d⟩ := id st'
    exact ⟨u, rfl, go_of (s := { s with heap := h' }) e c d (by decide) ⟨x, H, I1, ru, ⟨rfl, fun ys hy => by rw [I.list_inj hy hq]; exact hx⟩, st', fun b hb => (hf b hb).1⟩⟩
  done := by
    intro X hP hw hK hc i pins s σ H E I hf st hg
    subst hP hw hK
    obtain ⟨xs, hq, hx⟩ := hg
    obtain ⟨its, rv, p, hz⟩ := I.list hq
    obtain ⟨f0, f1, f2, f3, f4, f5⟩ := hf it (by simp)
    have hl := rv.length
    exact wpAny_pyNext_list_end (I.ok.hd hc) st p.isList (by simp; omega) fun h' eb => ⟨rfl, I.turned (t' := s.toks) (fun b o hb e => eb b o hb e) f0 f1 f3 f4 f5⟩
  self := fun _ _ _ _ _ st h => wpAny_pyIter_listiter st h
theorem turn_tuple {P : Program} {w : World} {K : PySem.W.Frag} {tg : Expr} (a it : Addr) : Turn P w K tg (Itt K a) [it] it (fun i h => h.IsTupleIter it a i) where
  mem := by simp
  obj := fun i h st b hb => by
    have e : b = it := by simpa using hb
    subst e
    obtain ⟨o, e, c, d⟩ := st
    exact ⟨o, e, fun v z => by rw [d] at z; cases z⟩
  keep := fun i h h' st k => st.at fun o e => k it (by simp) o e
  item := by
    intro X hP hw hK hc i pins s σ H E I hf st hg
    subst hP hw hK
    obtain ⟨xs, x, hq, hx⟩ := hg
    obtain ⟨its, rv, p, hz⟩ := I.tuple hq
    obtain ⟨u, hu, ru⟩ := rv.get hx
    obtain ⟨f0, f1, f2, f3, f4, f5⟩ := hf it (by simp)
    refine wpAny_pyNext_tuple_item st (show s.heap.IsTuple a its.toArray from p) (x := u) (by simpa using hu) fun h' st' sb => ?_
    have I1 : Inv X pins σ H { s with heap := h' } := I.turned (t' := s.toks) (fun b o hb e => (sb.2 b hb).trans e) f0 f1 f3 f4 f5
    obtain ⟨o, e, c, d⟩ := id st'
    exact ⟨u, rfl, go_of (s := { s with heap := h' }) e c d (by decide) ⟨x, H, I1, ru, ⟨rfl, fun ys hy => by rw [I.tuple_inj hy hq]; exact hx⟩, st', fun b hb => (hf b hb).1⟩⟩
  done := by
    intro X hP hw hK hc i pins s σ H E I hf st hg
    subst hP hw hK
    obtain ⟨xs, hq, hx⟩ := hg
    obtain ⟨its, rv, p, hz⟩ := I.tuple hq
    obtain ⟨f0, f1, f2, f3, f4, f5⟩ := hf it (by simp)
    have hl := rv.length
    exact wpAny_pyNext_tuple_end (I.ok.hd hc) st (show s.heap.IsTuple a its.toArray from p) (by simp; omega) fun h' eb => ⟨rfl, I.turned (t' := s.toks) (fun b o hb e => eb b o hb e) f0 f1 f3 f4 f5⟩
  self := fun _ _ _ _ _ st h => wpAny_pyIter_tupleiter st h
theorem turn_range {P : Program} {w : World} {K : PySem.W.Frag} {tg : Expr} (it : Addr) (lo : Int) (n : Nat) : Turn P w K tg (Itr lo n) [it] it (fun i h => IsRangeIter h it (lo + (i : Nat) * 1) ((n : Int) - (i : Nat)) 1) where
  mem := by simp
  obj := fun i h st b hb => by
    have e : b = it := by simpa using hb
    subst e
    exact ⟨_, st, fun v z => by
      have z' : Data.fields _ = Data.cell v := z
      cases z'⟩
  keep := fun i h h' st k => k it (by simp) _ st
  item := by
    intro X hP hw hK hc i pins s σ H E I hf st hg
    subst hP hw hK
    obtain ⟨f0, f1, f2, f3, f4, f5⟩ := hf it (by simp)
    have W := Walks.range (prog := X.prog) (w := X.w) (I.ok.hd hc) it lo 1 n
    refine W.item i s _ _ hg st fun v h' tk hv st' kk => ?_
    obtain ⟨t, rfl⟩ := hv
    have I1 : Inv X pins σ H { s with heap := h', toks := tk } := I.turned (fun b o hb e => kk b o (by simpa using hb) e) f0 f1 f3 f4 f5
    refine ⟨_, rfl, go_of (s := { s with heap := h', toks := tk }) (n := "range_iterator") st' rfl rfl (by decide) ⟨.int (lo + i), H, I1, ⟨t, ?_⟩, ⟨rfl, rfl⟩, st', fun b hb => (hf b hb).1⟩⟩
    rw [Int.mul_one]
  done := by
    intro X hP hw hK hc i pins s σ H E I hf st hg
    subst hP hw hK
    obtain ⟨f0, f1, f2, f3, f4, f5⟩ := hf it (by simp)
    exact wpAny_pyNext_range_end (I.ok.hd hc) st (by have : n ≤ i := hg; omega) fun h' eb => ⟨rfl, I.turned (t' := s.toks) (fun b o hb e => eb b o hb e) f0 f1 f3 f4 f5⟩
  self := fun _ _ _ _ _ st h => wpAny_pyIter_rangeiter st h
end L2

namespace L2
open PySem PySem.Spec PyProof.Rows
section
variable {X : Cx} {tg : Expr}
def iList (K : PySem.W.Frag) (tl : TE) : TI := fun σ H R => tl σ H fun x H1 => ∃ a, x = .ref a ∧ (∃ xs, SqL K H1 a xs) ∧ R (Itl K a) H1
def iTup (K : PySem.W.Frag) (tl : TE) : TI := fun σ H R => tl σ H fun x H1 => ∃ a, x = .ref a ∧ (∃ xs, SqT K H1 a xs) ∧ R (Itt K a) H1
theorem pi_list {l : Expr} {tl : TE} (hl : PE X l tl) : PI X tg l (iList X.K tl) := by
  intro pins s σ H R I h
  refine thn (hl pins s σ H _ I h) fun v s1 ⟨x, H1, I1, r1, q1⟩ => ?_
  obtain ⟨a, e, ⟨xs, hq⟩, q⟩ := q1
  subst e
  cases r1
  obtain ⟨its, rv, p, hz⟩ := I1.list hq
  refine wpAny_pyIter_list p.isList ?_
  refine ⟨s1.heap.objs.size, [s1.heap.objs.size], _, _, H1, rfl, I1.kept (t' := s1.toks) fun b o e => Heap.get?_push_of_some _ e, turn_list a _, ⟨_, Heap.get?_push_size _ rfl, rfl, rfl⟩, fun b hb => ?_, q⟩
  have e : b = s1.heap.objs.size := by simpa using hb
  subst e
  exact I1.fpOk (Nat.le_refl _) (I1.hok.fresh (Nat.le_refl _))
theorem pi_tup {l : Expr} {tl : TE} (hl : PE X l tl) : PI X tg l (iTup X.K tl) := by
  intro pins s σ H R I h
  refine thn (hl pins s σ H _ I h) fun v s1 ⟨x, H1, I1, r1, q1⟩ => ?_
  obtain ⟨a, e, ⟨xs, hq⟩, q⟩ := q1
  subst e
  cases r1
  obtain ⟨its, rv, p, hz⟩ := I1.tuple hq
  refine wpAny_pyIter_tuple (show s1.heap.IsTuple a its.toArray from p) ?_
  refine ⟨s1.heap.objs.size, [s1.heap.objs.size], _, _, H1, rfl, I1.kept (t' := s1.toks) fun b o e => Heap.get?_push_of_some _ e, turn_tuple a _, ⟨_, Heap.get?_push_size _ rfl, rfl, rfl⟩, fun b hb => ?_, q⟩
  have e : b = s1.heap.objs.size := by simpa using hb
  subst e
  exact I1.fpOk (Nat.le_refl _) (I1.hok.fresh (Nat.le_refl _))
/-- a range object just made, walked -/
theorem range_it {pins : List (Addr × Obj)} {σ : St} {H : Hp} {s : Shared} {R : It → Hp → Prop} {E : Value → Shared → Prop} {lo hi : Int} {t u v : Tok} {tk : Nat} (I : Inv X pins σ H s) (h1 : -(2 ^ 62) ≤ lo) (h2 : lo < 2 ^ 62) (h3 : -(2 ^ 62) ≤ hi) (h4 : hi < 2 ^ 62)
    (q : R (Itr lo (hi - lo).toNat) H) : wpAny (model X.prog X.w) X.A (pyIter (.ref s.heap.objs.size)) (PIE X pins σ tg R) E { s with heap := s.heap.push { cls := .type "range", data := .fields #[.int lo t, .int hi u, .int 1 v] }, toks := tk } := by
  refine wpAny_pyIter_range (IsRange.new ..) (small_one h1 h2 h3 h4) ?_
  have I1 : Inv X pins σ H { s with heap := s.heap.push { cls := .type "range", data := .fields #[.int lo t, .int hi u, .int 1 v] }, toks := tk } := I.kept fun b o e => Heap.get?_push_of_some _ e
  refine ⟨(s.heap.push { cls := .type "range", data := .fields #[.int lo t, .int hi u, .int 1 v] }).objs.size, [(s.heap.push { cls := .type "range", data := .fields #[.int lo t, .int hi u, .int 1 v] }).objs.size], _, _, H, rfl,
    I1.kept (t' := tk) fun b o e => Heap.get?_push_of_some _ e, turn_range _ lo (hi - lo).toNat, ?_, fun b hb => ?_, q⟩
  · have e1 : lo + ((0 : Nat) : Int) * 1 = lo := by simp
    have e2 : (((hi - lo).toNat : Nat) : Int) - ((0 : Nat) : Int) = Builtin.Range.rangeSize lo hi 1 := by rw [rangeSize_one]; split <;> omega
    show IsRangeIter _ _ (lo + ((0 : Nat) : Int) * 1) ((((hi - lo).toNat : Nat) : Int) - ((0 : Nat) : Int)) 1
    rw [e1, e2]
    exact Heap.get?_push_size _ rfl
  · have e : b = (s.heap.push { cls := .type "range", data := .fields #[.int lo t, .int hi u, .int 1 v] }).objs.size := by simpa using hb
    subst e
    exact I1.fpOk (Nat.le_refl _) (I1.hok.fresh (Nat.le_refl _))
def iRng1 (ta : TA) : TI := fun σ H R => ta σ H fun vs H1 => ∃ j : Int, vs = [.int j] ∧ -(2 ^ 62) ≤ j ∧ j < 2 ^ 62 ∧ R (Itr 0 j.toNat) H1
theorem pi_range1 {a : Expr} {ta : TA} {p pos : Pos} (hg : Gl X "range") (hm : X.mg "range" = none) (ha : PA X [a] ta) (hs : starEach [a] X.env = [(false, eval a X.env)] := by rfl) : PI X tg (.Call (.Name "range" p) [a] [] pos) (iRng1 ta) := by
  intro pins s σ H R I h
  refine Call_ (ld_blt I hg hm boot_range (PyProof.Rows.callWith_type1 (thn (ha pos pins s σ H _ I h) fun us s1 ⟨vs, H1, I1, r1, q1⟩ => ?_) hs rfl))
  obtain ⟨j, e, q1, q2, q⟩ := q1
  subst e
  cases r1 with
  | cons r rr =>
    cases rr
    obtain ⟨t, rfl⟩ := r
    exact call_range_1 (range_it I1 (by omega) (by omega) q1 q2 (by simpa using q))

/-! ### for -/
/-- W: the invariant by the turn and a measure; N: what the body is to reach -/
def tFor (wi : TI) (g : TG) (tb : TS) : TS := fun D σ H => wi σ H fun J H1 => ∃ W : Nat → Nat → St → Hp → Prop, (∃ m, W 0 m σ H1) ∧ ∀ i m σ H, W i m σ H →
  (J.stop i H ∧ D.nx σ H) ∨ (J.go i H ∧ ∃ N : St → Hp → Prop, (∀ σ' H', N σ' H' → ∃ m', m' < m ∧ W (i + 1) m' σ' H') ∧ ∀ x H', J.yld i H x H' → g x σ H' fun σ2 H2 => tb { D with nx := N, ct := N, bk := D.nx } σ2 H2)
/-- the records at fp as they stand -/
def pinsAt (fp : List Addr) (h : Heap) : List (Addr × Obj) := fp.filterMap fun b => (h.get? b).map fun o => (b, o)
theorem mem_pinsAt {fp : List Addr} {h : Heap} {b : Addr} {o : Obj} (hb : b ∈ fp) (e : h.get? b = some o) : (b, o) ∈ pinsAt fp h := List.mem_filterMap.mpr ⟨b, hb, by rw [e]; rfl⟩
theorem of_pinsAt {fp : List Addr} {h : Heap} {p : Addr × Obj} (hp : p ∈ pinsAt fp h) : p.1 ∈ fp ∧ h.get? p.1 = some p.2 := by
  obtain ⟨b, hb, e⟩ := List.mem_filterMap.mp hp
  cases q : h.get? b with
  | none => rw [q] at e; cases e
  | some o =>
    rw [q] at e
    have e' : (b, o) = p := Option.some.inj e
    subst e'
    exact ⟨hb, q⟩
theorem Inv.pinned {pins : List (Addr × Obj)} {σ : St} {H : Hp} {s : Shared} {fp : List Addr} (I : Inv X pins σ H s) (hf : ∀ b ∈ fp, FpOk X pins H b) (ho : ∀ b ∈ fp, ∃ o, s.heap.get? b = some o ∧ ∀ v, o.data ≠ .cell v) : Inv X (pins ++ pinsAt fp s.heap) σ H s :=
  I.pins_of fun p hp => (List.mem_append.mp hp).elim (fun z => I.pin p (List.mem_append_right _ z)) fun z => by
    obtain ⟨hb, e⟩ := of_pinsAt z
    obtain ⟨f0, f1, f2, _⟩ := hf p.1 hb
    obtain ⟨o, e', d⟩ := ho p.1 hb
    rw [e] at e'; cases e'
    exact ⟨e, f0, f1, f2, d⟩
theorem Inv.unpinned {pins pl : List (Addr × Obj)} {σ : St} {H : Hp} {s : Shared} (I : Inv X (pins ++ pl) σ H s) : Inv X pins σ H s := I.pins_of fun p hp => I.pin p (List.mem_append_right _ (List.mem_append_left _ hp))
theorem ps_for {iter : Expr} {body : List Stmt} {wi : TI} {g : TG} {tb : TS} {pos : Pos} (hp : PassesOwn (model X.prog X.w) X.A X.env X.xe) (hc : X.calm = true) (hi : PI X tg iter wi) (hg : PG X tg g) (hb : PSs X body tb)
    (hs : ∀ x, foldedSetIterable iter X.env x = pure x := by intro _; rfl) : PS X (.For tg iter body [] pos) (tFor wi g tb) := by
  intro pins s σ H D I h
  refine wpAny_For (thn (hi pins s σ H _ I h) fun v s1 h1 => thn h1 fun itv s2 h2 => ?_) hs
  obtain ⟨it, fp, tn, J, H2, e, I2, T, st2, f2, W, ⟨m0, w0⟩, turn⟩ := h2
  subst e
  -- what stays true of the iterator's objects through the loop
  have stat : ∀ {H' : Hp}, (∀ b ∈ fp, H' b = none) → ∀ b ∈ fp, FpOk X pins H' b := fun hn b hb => ⟨hn b hb, (f2 b hb).2⟩
  refine codeAny_forLoop_any (fun n s' => ∃ i σ' H', Inv X pins σ' H' s' ∧ tn i s'.heap ∧ (∀ b ∈ fp, H' b = none) ∧ W i n σ' H') ?_ m0 ⟨0, σ, H2, I2, st2, fun b hb => (f2 b hb).1, w0⟩
  rintro n s3 ⟨i, σ3, H3, I3, st3, fr3, w3⟩
  rcases turn i n σ3 H3 w3 with ⟨stop, qn⟩ | ⟨go, N, hN, step⟩
  · refine wpAny_passesOwn hp (thn (T.done X rfl rfl rfl hc i pins s3 σ3 H3 X.xe I3 (stat fr3) st3 stop) fun r s4 ⟨hr, I4⟩ => ?_)
    subst hr
    exact wpAny_execs_nil ⟨σ3, H3, I4, qn⟩
  · refine wpAny_passesOwn hp (thn (T.item X rfl rfl rfl hc i pins s3 σ3 H3 X.xe I3 (stat fr3) st3 go) fun r s4 ⟨u, hr, h4⟩ => ?_)
    subst hr
    refine wpAny_passesOwn hp (thn h4 fun _ s5 ⟨x, H5, I5, r5, y5, st5, fr5⟩ => ?_)
    have I5' := I5.pinned (stat fr5) (T.obj _ _ st5)
    refine wpAny_passesOwn hp (thn (hg _ s5 σ3 H5 x u _ I5' r5 (step x H5 y5)) fun _ s6 ⟨σ6, H6, I6, q6⟩ => ?_)
    refine wpAny_passesOwn hp (thn (hb _ s6 σ6 H6 _ I6 q6) fun f s7 q7 => ?_)
    have again : ∀ {σ7 : St} {H7 : Hp}, Inv X (pins ++ pinsAt fp s5.heap) σ7 H7 s7 → N σ7 H7 → ∃ m, m < n ∧ ∃ i σ' H', Inv X pins σ' H' s7 ∧ tn i s7.heap ∧ (∀ b ∈ fp, H' b = none) ∧ W i m σ' H' := fun {σ7 H7} I7 n7 => by
      obtain ⟨m', hm, w7⟩ := hN σ7 H7 n7
      refine ⟨m', hm, i + 1, σ7, H7, I7.unpinned, T.keep _ _ _ st5 fun b hb o e => (I7.pin (b, o) (List.mem_append_right _ (List.mem_append_right _ (mem_pinsAt hb e)))).1, fun b hb => ?_, w7⟩
      obtain ⟨o, e, d⟩ := T.obj _ _ st5 b hb
      exact (I7.pin (b, o) (List.mem_append_right _ (List.mem_append_right _ (mem_pinsAt hb e)))).2.1
    cases f with
    | next => obtain ⟨σ7, H7, I7, n7⟩ := q7; exact again I7 n7
    | cont => obtain ⟨σ7, H7, I7, n7⟩ := q7; exact again I7 n7
    | brk => obtain ⟨σ7, H7, I7, q7⟩ := q7; exact ⟨σ7, H7, I7.unpinned, q7⟩
    | ret v => obtain ⟨x7, σ7, H7, I7, r7, q7⟩ := q7; exact ⟨x7, σ7, H7, I7.unpinned, r7, q7⟩
end

/-! ### the forms one uses -/
/-- over a list that the body leaves as it is -/
theorem for_list {K : PySem.W.Frag} {a : Addr} {xs : List V} {g : TG} {tb : TS} {D : Ends} {σ : St} {H : Hp} (Pv : Nat → St → Hp → Prop) (h0 : Pv 0 σ H) (hl : ∀ i σ H, i ≤ xs.length → Pv i σ H → SqL K H a xs)
    (hs : ∀ i x σ H, xs[i]? = some x → Pv i σ H → g x σ H fun σ2 H2 => tb { D with nx := Pv (i + 1), ct := Pv (i + 1), bk := D.nx } σ2 H2) (hd : ∀ σ H, Pv xs.length σ H → D.nx σ H) :
    ∃ W : Nat → Nat → St → Hp → Prop, (∃ m, W 0 m σ H) ∧ ∀ i m σ H, W i m σ H →
      ((Itl K a).stop i H ∧ D.nx σ H) ∨ ((Itl K a).go i H ∧ ∃ N : St → Hp → Prop, (∀ σ' H', N σ' H' → ∃ m', m' < m ∧ W (i + 1) m' σ' H') ∧ ∀ x H', (Itl K a).yld i H x H' → g x σ H' fun σ2 H2 => tb { D with nx := N, ct := N, bk := D.nx } σ2 H2) := by
  refine ⟨fun i m σ H => m = xs.length - i ∧ i ≤ xs.length ∧ Pv i σ H, ⟨xs.length, by simp, Nat.zero_le _, h0⟩, ?_⟩
  rintro i m σ H ⟨rfl, hi, p⟩
  have q := hl i σ H hi p
  by_cases hlt : i < xs.length
  · refine .inr ⟨⟨xs, xs[i], q, by simp [hlt]⟩, Pv (i + 1), fun σ' H' p' => ⟨xs.length - (i + 1), by omega, rfl, hlt, p'⟩, fun x H' y => ?_⟩
    obtain ⟨e, y⟩ := y
    subst e
    exact hs i x σ _ (y xs q) p
  · have e : i = xs.length := by omega
    subst e
    exact .inl ⟨⟨xs, q, Nat.le_refl _⟩, hd σ H p⟩
theorem for_tup {K : PySem.W.Frag} {a : Addr} {xs : List V} {g : TG} {tb : TS} {D : Ends} {σ : St} {H : Hp} (Pv : Nat → St → Hp → Prop) (h0 : Pv 0 σ H) (hl : ∀ i σ H, i ≤ xs.length → Pv i σ H → SqT K H a xs)
    (hs : ∀ i x σ H, xs[i]? = some x → Pv i σ H → g x σ H fun σ2 H2 => tb { D with nx := Pv (i + 1), ct := Pv (i + 1), bk := D.nx } σ2 H2) (hd : ∀ σ H, Pv xs.length σ H → D.nx σ H) :
    ∃ W : Nat → Nat → St → Hp → Prop, (∃ m, W 0 m σ H) ∧ ∀ i m σ H, W i m σ H →
      ((Itt K a).stop i H ∧ D.nx σ H) ∨ ((Itt K a).go i H ∧ ∃ N : St → Hp → Prop, (∀ σ' H', N σ' H' → ∃ m', m' < m ∧ W (i + 1) m' σ' H') ∧ ∀ x H', (Itt K a).yld i H x H' → g x σ H' fun σ2 H2 => tb { D with nx := N, ct := N, bk := D.nx } σ2 H2) := by
  refine ⟨fun i m σ H => m = xs.length - i ∧ i ≤ xs.length ∧ Pv i σ H, ⟨xs.length, by simp, Nat.zero_le _, h0⟩, ?_⟩
  rintro i m σ H ⟨rfl, hi, p⟩
  have q := hl i σ H hi p
  by_cases hlt : i < xs.length
  · refine .inr ⟨⟨xs, xs[i], q, by simp [hlt]⟩, Pv (i + 1), fun σ' H' p' => ⟨xs.length - (i + 1), by omega, rfl, hlt, p'⟩, fun x H' y => ?_⟩
    obtain ⟨e, y⟩ := y
    subst e
    exact hs i x σ _ (y xs q) p
  · have e : i = xs.length := by omega
    subst e
    exact .inl ⟨⟨xs, q, Nat.le_refl _⟩, hd σ H p⟩
theorem for_range {lo : Int} {n : Nat} {g : TG} {tb : TS} {D : Ends} {σ : St} {H : Hp} (Pv : Nat → St → Hp → Prop) (h0 : Pv 0 σ H)
    (hs : ∀ i σ H, i < n → Pv i σ H → g (.int (lo + i)) σ H fun σ2 H2 => tb { D with nx := Pv (i + 1), ct := Pv (i + 1), bk := D.nx } σ2 H2) (hd : ∀ σ H, Pv n σ H → D.nx σ H) :
    ∃ W : Nat → Nat → St → Hp → Prop, (∃ m, W 0 m σ H) ∧ ∀ i m σ H, W i m σ H →
      ((Itr lo n).stop i H ∧ D.nx σ H) ∨ ((Itr lo n).go i H ∧ ∃ N : St → Hp → Prop, (∀ σ' H', N σ' H' → ∃ m', m' < m ∧ W (i + 1) m' σ' H') ∧ ∀ x H', (Itr lo n).yld i H x H' → g x σ H' fun σ2 H2 => tb { D with nx := N, ct := N, bk := D.nx } σ2 H2) := by
  refine ⟨fun i m σ H => m = n - i ∧ i ≤ n ∧ Pv i σ H, ⟨n, by simp, Nat.zero_le _, h0⟩, ?_⟩
  rintro i m σ H ⟨rfl, hi, p⟩
  by_cases hlt : i < n
  · refine .inr ⟨hlt, Pv (i + 1), fun σ' H' p' => ⟨n - (i + 1), by omega, rfl, hlt, p'⟩, fun x H' y => ?_⟩
    obtain ⟨e, y⟩ := y
    subst e y
    exact hs i σ _ hlt p
  · have e : i = n := by omega
    subst e
    exact .inl ⟨Nat.le_refl _, hd σ H p⟩
end L2

namespace L2
open PySem PySem.Spec PyProof.Rows

abbrev R2 := V → V → Hp → VK → Prop
/-- a two-place operation on values: f is binaryOp op, inplaceOp op or compareOp op -/
def OpR (X : Cx) (f : Value → Value → Sem Value) (r : R2) : Prop :=
  ∀ (pins : List (Addr × Obj)) (s : Shared) (σ : St) (H : Hp) (x y : V) (v u : Value) (Q : VK), Inv X pins σ H s → RelV x v → RelV y u → r x y H Q →
    wpAny (model X.prog X.w) X.A (f v u) (EP X pins σ Q) X.xe s
/-- a one-place operation -/
def UnR (X : Cx) (f : Value → Sem Value) (r : V → Hp → VK → Prop) : Prop :=
  ∀ (pins : List (Addr × Obj)) (s : Shared) (σ : St) (H : Hp) (x : V) (v : Value) (Q : VK), Inv X pins σ H s → RelV x v → r x H Q →
    wpAny (model X.prog X.w) X.A (f v) (EP X pins σ Q) X.xe s
/-- a call of a value that is known (a builtin, a type) with values -/
def CallR (X : Cx) (f : Value) (r : List V → Hp → VK → Prop) : Prop :=
  ∀ (pins : List (Addr × Obj)) (s : Shared) (σ : St) (H : Hp) (xs : List V) (us : List Value) (Q : VK), Inv X pins σ H s → Vals xs us → r xs H Q →
    wpAny (model X.prog X.w) X.A (call f us) (EP X pins σ Q) X.xe s
/-- a value's truth -/
def TruR (X : Cx) (r : V → Hp → (Bool → Hp → Prop) → Prop) : Prop :=
  ∀ (pins : List (Addr × Obj)) (s : Shared) (σ : St) (H : Hp) (x : V) (v : Value) (Q : Bool → Hp → Prop), Inv X pins σ H s → RelV x v → r x H Q →
    wpAny (model X.prog X.w) X.A (truthy v) (TP X pins σ Q) X.xe s

def tOp (r : R2) (ta tb : TE) : TE := fun σ H Q => ta σ H fun x H1 => tb σ H1 fun y H2 => r x y H2 Q
/-- ints in, under C, and a value out -/
def rI (C : Int → Int → Prop) (g : Int → Int → V) : R2 := fun x y H Q => ∃ i j, x = .int i ∧ y = .int j ∧ C i j ∧ Q (g i j) H
def rI0 (g : Int → Int → V) : R2 := fun x y H Q => ∃ i j, x = .int i ∧ y = .int j ∧ Q (g i j) H

section
variable {X : Cx} {a b c : Expr} {ta tb tc : TE} {pos : Pos}

theorem binT (ha : PE X a ta) (hb : PE X b tb) {pins : List (Addr × Obj)} {s : Shared} {σ : St} {H : Hp} {R : V → V → Hp → Prop} (I : Inv X pins σ H s)
    (h : ta σ H fun x H1 => tb σ H1 fun y H2 => R x y H2) {Q : Value → Shared → Prop} {f : Value → Value → Sem Value}
    (hf : ∀ v u s2 x y H2, Inv X pins σ H2 s2 → RelV x v → RelV y u → R x y H2 → wpAny (model X.prog X.w) X.A (f v u) Q X.xe s2) :
    wpAny (model X.prog X.w) X.A (eval a X.env) (fun v s₁ => wpAny (model X.prog X.w) X.A (eval b X.env) (fun u s₂ => wpAny (model X.prog X.w) X.A (f v u) Q X.xe s₂) X.xe s₁) X.xe s := by
  refine thn (ha pins s σ H _ I h) fun v s1 ⟨x, H1, I1, r1, q1⟩ => ?_
  refine thn (hb pins s1 σ H1 _ I1 q1) fun u s2 ⟨y, H2, I2, r2, q2⟩ => ?_
  exact hf v u s2 x y H2 I2 r1 r2 q2

theorem pe_op {op : Operator} {r : R2} (ho : OpR X (binaryOp op) r) (ha : PE X a ta) (hb : PE X b tb) : PE X (.BinOp a op b pos) (tOp r ta tb) := by
  intro pins s σ H Q I h
  exact wpAny_BinOp (binT ha hb I h fun v u s2 x y H2 I2 rx ry q => ho pins s2 σ H2 x y v u Q I2 rx ry q)

/-! ### ints -/
theorem opI {f : Value → Value → Sem Value} {C : Int → Int → Prop} {g : Int → Int → Int}
    (rule : ∀ (i j : Int) (t u : Tok) (s : Shared) (Q : Value → Shared → Prop) (E : Value → Shared → Prop), C i j → Q (.int (g i j) s.toks) { s with toks := s.toks + 1 } → wpAny (model X.prog X.w) X.A (f (.int i t) (.int j u)) Q E s) :
    OpR X f (rI C fun i j => .int (g i j)) := by
  intro pins s σ H x y v u Q I rx ry h
  obtain ⟨i, j, rfl, rfl, hc, q⟩ := h
  obtain ⟨t, rfl⟩ := rx
  obtain ⟨t', rfl⟩ := ry
  exact rule i j t t' s _ _ hc ⟨.int (g i j), H, I.tok _, ⟨_, rfl⟩, q⟩
theorem opI0 {f : Value → Value → Sem Value} {g : Int → Int → Int}
    (rule : ∀ (i j : Int) (t u : Tok) (s : Shared) (Q : Value → Shared → Prop) (E : Value → Shared → Prop), Q (.int (g i j) s.toks) { s with toks := s.toks + 1 } → wpAny (model X.prog X.w) X.A (f (.int i t) (.int j u)) Q E s) :
    OpR X f (rI0 fun i j => .int (g i j)) := by
  intro pins s σ H x y v u Q I rx ry h
  obtain ⟨i, j, rfl, rfl, q⟩ := h
  obtain ⟨t, rfl⟩ := rx
  obtain ⟨t', rfl⟩ := ry
  exact rule i j t t' s _ _ ⟨.int (g i j), H, I.tok _, ⟨_, rfl⟩, q⟩
theorem opB0 {f : Value → Value → Sem Value} {g : Int → Int → Bool}
    (rule : ∀ (i j : Int) (t u : Tok) (s : Shared) (Q : Value → Shared → Prop) (E : Value → Shared → Prop), Q (.bool (g i j)) s → wpAny (model X.prog X.w) X.A (f (.int i t) (.int j u)) Q E s) :
    OpR X f (rI0 fun i j => .bl (g i j)) := by
  intro pins s σ H x y v u Q I rx ry h
  obtain ⟨i, j, rfl, rfl, q⟩ := h
  obtain ⟨t, rfl⟩ := rx
  obtain ⟨t', rfl⟩ := ry
  exact rule i j t t' s _ _ ⟨.bl (g i j), H, I, rfl, q⟩

def CDiv (i j : Int) : Prop := 0 < j ∧ j < 1073741824
def CPow (i j : Int) : Prop := 0 ≤ j ∧ j ≤ 1000000 ∧ i.natAbs < 2 ^ 64
def CMul (i j : Int) : Prop := (-(2 ^ 64) < i ∧ i < 2 ^ 64) ∨ (-(2 ^ 64) < j ∧ j < 2 ^ 64)
theorem CMul.ok {i j : Int} (h : CMul i j) : IntMulOk i j := by
  rcases h with ⟨h1, h2⟩ | ⟨h1, h2⟩
  · exact .of_left (intBits_le_64 h1 h2)
  · exact .of_right (intBits_le_64 h1 h2)

theorem op_add : OpR X (binaryOp .Add) (rI0 fun i j => .int (i + j)) := opI0 fun _ _ _ _ _ _ _ q => add_int q
theorem op_sub : OpR X (binaryOp .Sub) (rI0 fun i j => .int (i - j)) := opI0 fun _ _ _ _ _ _ _ q => sub_int q
theorem op_mul : OpR X (binaryOp .Mult) (rI CMul fun i j => .int (i * j)) := opI fun _ _ _ _ _ _ _ hc q => mul_int q hc.ok
/-- // by a positive divisor -/
theorem op_fdiv : OpR X (binaryOp .FloorDiv) (rI CDiv fun i j => .int (i / j)) := opI fun i j _ _ _ _ _ hc q => by
  have h1 : (0 : Int) < j := hc.1
  have h2 : j < 1073741824 := hc.2
  exact floordiv_int (by omega) (by rw [Int.fdiv_eq_ediv_of_nonneg i (by omega)]; exact q) (.inl (PyProof.noPylong_small (by omega)))
/-- % by a positive divisor of any size -/
theorem op_mod : OpR X (binaryOp .Mod) (rI (fun _ j => 0 < j) fun i j => .int (i % j)) := opI fun i j _ _ _ _ _ hc q => by
  have h1 : (0 : Int) < j := hc
  exact mod_int' (by omega) (by rw [Int.fmod_eq_emod_of_nonneg i (by omega)]; exact q)
theorem op_pow : OpR X (binaryOp .Pow) (rI CPow fun i j => .int (i ^ j.toNat)) := opI fun _ _ _ _ _ _ _ hc q => pow_int_small hc.1 hc.2.1 hc.2.2 q



/-! ### bools among ints: n += (a < b) -/
end

/-! ### comparisons -/
/-- the scalars that == tells apart as data does -/
def scal : V → V → Bool
  | .non, .non => true | .non, .int _ => true | .int _, .non => true | .non, .bl _ => true | .bl _, .non => true | .non, .str _ => true | .str _, .non => true
  | .int _, .int _ => true | .bl _, .bl _ => true | .str _, .str _ => true | .byt _, .byt _ => true
  | .int _, .str _ => true | .str _, .int _ => true | .bl _, .str _ => true | .str _, .bl _ => true
  | _, _ => false
def rEq : R2 := fun x y H Q => scal x y = true ∧ Q (.bl (decide (x = y))) H
def rNe : R2 := fun x y H Q => scal x y = true ∧ Q (.bl (!decide (x = y))) H

theorem dec_int {i j : Int} : decide (V.int i = V.int j) = (i == j) := by
  rw [Bool.eq_iff_iff]
  simp
theorem dec_bl {i j : Bool} : decide (V.bl i = V.bl j) = (i == j) := by
  rw [Bool.eq_iff_iff]
  simp
theorem dec_str {i j : Str} : decide (V.str i = V.str j) = (i == j) := by
  rw [Bool.eq_iff_iff]
  simp
theorem dec_byt {i j : Array UInt8} : decide (V.byt i = V.byt j) = (i.toList == j.toList) := by
  rw [Bool.eq_iff_iff]
  cases i
  cases j
  simp

section
variable {X : Cx} {a b c : Expr} {ta tb tc : TE} {pos : Pos}
theorem fin_bl {pins : List (Addr × Obj)} {σ : St} {H : Hp} {s : Shared} {Q : VK} {k k' : Bool} (I : Inv X pins σ H s) (q : Q (.bl k) H) (e : k = k') : EP X pins σ Q (.bool k') s := by
  subst e
  exact ⟨.bl k, H, I, rfl, q⟩
theorem op_eq : OpR X (compareOp .Eq) rEq := by
  intro pins s σ H x y v u Q I rx ry h
  obtain ⟨hs, q⟩ := h
  cases x with
  | non =>
    cases rx
    cases y with
    | non => cases ry; exact PySem.EqNone.eq_none_none (fin_bl I q (by simp))
    | bl j => cases ry; exact PySem.EqNone.eq_none_bool (fin_bl I q (by simp))
    | int j => obtain ⟨t', rfl⟩ := ry; exact PySem.EqNone.eq_none_int (fin_bl I q (by simp))
    | str j => obtain ⟨t', rfl⟩ := ry; exact PySem.EqNone.eq_none_str (fin_bl I q (by simp))
    | _ => exact absurd (show false = true from hs) Bool.false_ne_true
  | bl i =>
    cases rx
    cases y with
    | non => cases ry; exact PySem.EqNone.eq_bool_none (fin_bl I q (by simp))
    | bl j => cases ry; exact eq_bool (fin_bl I q dec_bl)
    | str j => obtain ⟨t', rfl⟩ := ry; exact PySem.EqMixed.eq_bool_str (fin_bl I q (by simp))
    | _ => exact absurd (show false = true from hs) Bool.false_ne_true
  | int i =>
    obtain ⟨t, rfl⟩ := rx
    cases y with
    | non => cases ry; exact PySem.EqNone.eq_int_none (fin_bl I q (by simp))
    | int j => obtain ⟨t', rfl⟩ := ry; exact eq_int (fin_bl I q dec_int)
    | str j => obtain ⟨t', rfl⟩ := ry; exact PySem.EqMixed.eq_int_str (fin_bl I q (by simp))
    | _ => exact absurd (show false = true from hs) Bool.false_ne_true
  | str i =>
    obtain ⟨t, rfl⟩ := rx
    cases y with
    | non => cases ry; exact PySem.EqNone.eq_str_none (fin_bl I q (by simp))
    | bl j => cases ry; exact PySem.EqMixed.eq_str_bool (fin_bl I q (by simp))
    | int j => obtain ⟨t', rfl⟩ := ry; exact PySem.EqMixed.eq_str_int (fin_bl I q (by simp))
    | str j => obtain ⟨t', rfl⟩ := ry; exact eq_str (fin_bl I q dec_str)
    | _ => exact absurd (show false = true from hs) Bool.false_ne_true
  | byt i =>
    obtain ⟨t, rfl⟩ := rx
    cases y with
    | byt j => obtain ⟨t', rfl⟩ := ry; exact PySem.W.eq_bytes (fin_bl I q dec_byt)
    | _ => exact absurd (show false = true from hs) Bool.false_ne_true
  | _ => cases y <;> exact absurd (show false = true from hs) Bool.false_ne_true
theorem op_ne : OpR X (compareOp .NotEq) rNe := by
  intro pins s σ H x y v u Q I rx ry h
  obtain ⟨hs, q⟩ := h
  cases x with
  | non =>
    cases rx
    cases y with
    | non => cases ry; exact PySem.EqNone.ne_none_none (fin_bl I q (by simp))
    | bl j => cases ry; exact PySem.EqNone.ne_none_bool (fin_bl I q (by simp))
    | int j => obtain ⟨t', rfl⟩ := ry; exact PySem.EqNone.ne_none_int (fin_bl I q (by simp))
    | str j => obtain ⟨t', rfl⟩ := ry; exact PySem.EqNone.ne_none_str (fin_bl I q (by simp))
    | _ => exact absurd (show false = true from hs) Bool.false_ne_true
  | bl i =>
    cases rx
    cases y with
    | non => cases ry; exact PySem.EqNone.ne_bool_none (fin_bl I q (by simp))
    | bl j => cases ry; exact ne_bool (fin_bl I q (congrArg not dec_bl))
    | str j => obtain ⟨t', rfl⟩ := ry; exact PySem.EqMixed.ne_bool_str (fin_bl I q (by simp))
    | _ => exact absurd (show false = true from hs) Bool.false_ne_true
  | int i =>
    obtain ⟨t, rfl⟩ := rx
    cases y with
    | non => cases ry; exact PySem.EqNone.ne_int_none (fin_bl I q (by simp))
    | int j => obtain ⟨t', rfl⟩ := ry; exact ne_int (fin_bl I q (congrArg not dec_int))
    | str j => obtain ⟨t', rfl⟩ := ry; exact PySem.EqMixed.ne_int_str (fin_bl I q (by simp))
    | _ => exact absurd (show false = true from hs) Bool.false_ne_true
  | str i =>
    obtain ⟨t, rfl⟩ := rx
    cases y with
    | non => cases ry; exact PySem.EqNone.ne_str_none (fin_bl I q (by simp))
    | bl j => cases ry; exact PySem.EqMixed.ne_str_bool (fin_bl I q (by simp))
    | int j => obtain ⟨t', rfl⟩ := ry; exact PySem.EqMixed.ne_str_int (fin_bl I q (by simp))
    | str j => obtain ⟨t', rfl⟩ := ry; exact ne_str (fin_bl I q (congrArg not dec_str))
    | _ => exact absurd (show false = true from hs) Bool.false_ne_true
  | byt i =>
    obtain ⟨t, rfl⟩ := rx
    cases y with
    | byt j => obtain ⟨t', rfl⟩ := ry; exact PySem.W.ne_bytes (fin_bl I q (congrArg not dec_byt))
    | _ => exact absurd (show false = true from hs) Bool.false_ne_true
  | _ => cases y <;> exact absurd (show false = true from hs) Bool.false_ne_true

theorem op_lt : OpR X (compareOp .Lt) (rI0 fun i j => .bl (decide (i < j))) := opB0 fun _ _ _ _ _ _ _ q => lt_int q
theorem op_le : OpR X (compareOp .LtE) (rI0 fun i j => .bl (decide (i ≤ j))) := opB0 fun _ _ _ _ _ _ _ q => le_int q
theorem op_gt : OpR X (compareOp .Gt) (rI0 fun i j => .bl (decide (j < i))) := opB0 fun _ _ _ _ _ _ _ q => gt_int q
/-- the one string within the other -/
theorem op_in_str : OpR X (compareOp .In) (fun x y H Q => ∃ i j, x = .str i ∧ y = .str j ∧ Q (.bl (!(Builtin.Str.occurrences j i 0 j.length 1).isEmpty)) H) := by
  intro pins s σ H x y v u Q I rx ry h
  obtain ⟨i, j, rfl, rfl, q⟩ := h
  obtain ⟨t, rfl⟩ := rx
  obtain ⟨t', rfl⟩ := ry
  exact in_str (fin_bl I q rfl)



/-- two rules for one operation: by cases -/
theorem OpR.or {f : Value → Value → Sem Value} {r r' : R2} (h : OpR X f r) (h' : OpR X f r') : OpR X f (fun x y H Q => r x y H Q ∨ r' x y H Q) := by
  intro pins s σ H x y v u Q I rx ry q
  rcases q with q | q
  · exact h pins s σ H x y v u Q I rx ry q
  · exact h' pins s σ H x y v u Q I rx ry q

theorem nomark (b : Expr) {op : CmpOp} (h : op ≠ .In := by decide) (h2 : op ≠ .NotIn := by decide) : behindInMarks op b = false := by
  have e1 : (op == CmpOp.In) = false := by cases op <;> first | rfl | exact absurd rfl h
  have e2 : (op == CmpOp.NotIn) = false := by cases op <;> first | rfl | exact absurd rfl h2
  cases b <;> simp [behindInMarks, e1, e2]
/-- a comparison as a value; hm: nomark b, or (for in, not in) by with_unfolding_all rfl -/
theorem pe_cmpR {op : CmpOp} {r : R2} (ho : OpR X (compareOp op) r) (ha : PE X a ta) (hb : PE X b tb) (hm : behindInMarks op b = false) : PE X (.Compare a [op] [b] pos) (tOp r ta tb) := by
  intro pins s σ H Q I h
  exact wpAny_Compare1 (binT ha hb I h fun v u s2 x y H2 I2 rx ry q => ho pins s2 σ H2 x y v u Q I2 rx ry q) hm
/-- a reading of a value as a test -/
def tTest (t : TE) : TT := fun σ H Q => t σ H fun x H' => ∃ k, x = .bl k ∧ Q k H'
theorem pt_cmpR {op : CmpOp} {r : R2} (ho : OpR X (compareOp op) r) (ha : PE X a ta) (hb : PE X b tb) (hm : behindInMarks op b = false) : PT X (.Compare a [op] [b] pos) (tTest (tOp r ta tb)) := by
  intro pins s σ H Q I h
  refine wpAny_isTrue_Compare1 (thn (ha pins s σ H _ I h) fun v s1 ⟨x, H1, I1, r1, q1⟩ => thn (hb pins s1 σ H1 _ I1 q1) fun u s2 ⟨y, H2, I2, r2, q2⟩ =>
    thn (ho pins s2 σ H2 x y v u _ I2 r1 r2 q2) fun c s3 ⟨z, H3, I3, r3, k, e, q3⟩ => ?_) hm
  subst e
  cases r3
  exact wpAny_truthy_bool ⟨H3, I3, q3⟩
/-- a op1 b op2 c -/
def tChain (r r' : R2) (ta tb tc : TE) : TE := fun σ H Q => ta σ H fun x H1 => tb σ H1 fun y H2 => r x y H2 fun z H3 => ∃ k, z = .bl k ∧
  (if k = true then tc σ H3 fun w' H4 => r' y w' H4 Q else Q (.bl false) H3)
theorem pe_chain {op op' : CmpOp} {r r' : R2} (ho : OpR X (compareOp op) r) (ho' : OpR X (compareOp op') r') (ha : PE X a ta) (hb : PE X b tb) (hc : PE X c tc)
    (hm : lastMarks [op, op'] [b, c] = false := by with_unfolding_all rfl) : PE X (.Compare a [op, op'] [b, c] pos) (tChain r r' ta tb tc) := by
  intro pins s σ H Q I h
  refine Compare_chain (thn (ha pins s σ H _ I h) fun v s1 ⟨x, H1, I1, r1, q1⟩ => chain_link (thn (hb pins s1 σ H1 _ I1 q1) fun u s2 ⟨y, H2, I2, r2, q2⟩ =>
    thn (ho pins s2 σ H2 x y v u _ I2 r1 r2 q2) fun d s3 ⟨z, H3, I3, r3, k, e, q3⟩ => ?_)) hm
  subst e
  cases r3
  refine wpAny_truthy_bool ?_
  cases k with
  | false => exact ite_ff ⟨.bl false, H3, I3, rfl, q3⟩
  | true => exact ite_tt (chain_last (thn (hc pins s3 σ H3 _ I3 q3) fun w' s4 ⟨z', H4, I4, r4, q4⟩ => ho' pins s4 σ H4 y z' u w' Q I4 r2 r4 q4))

/-! ### truth -/
/-- a value's truth by the abstract heap -/
def TruV (K : PySem.W.Frag) (x : V) (H : Hp) (k : Bool) : Prop :=
  match x with
  | .non => k = false
  | .bl b => k = b
  | .int i => k = (i != 0)
  | .str y => y.length ≤ sizeLine ∧ k = ((y.length : Int) != 0)
  | .byt y => y.size ≤ sizeLine ∧ k = ((y.size : Int) != 0)
  | .ref p => (∃ xs, SqL K H p xs ∧ k = !xs.isEmpty) ∨ (∃ xs, SqT K H p xs ∧ k = !xs.isEmpty) ∨ ∃ kvs, H p = some (.dK kvs) ∧ k = !kvs.isEmpty
  | _ => False
theorem isEmpty_kv {κ : Type} {kvs : List (κ × V)} {vs : List (κ × Value)} (r : KV kvs vs) : (!vs.isEmpty) = !kvs.isEmpty := by
  cases r <;> rfl
theorem isEmpty_of {xs : List V} {its : List Value} (r : Vals xs its) : (!its.toArray.isEmpty) = !xs.isEmpty := by
  cases r <;> simp
theorem line63 : (sizeLine : Nat) < 2 ^ 63 := by rw [sizeLine_eq]; decide
theorem tru_ok : TruR X (fun x H Q => ∃ k, TruV X.K x H k ∧ Q k H) := by
  intro pins s σ H x v Q I rx h
  obtain ⟨k, e, q⟩ := h
  have hl := line63
  have hs : sizeLine = 16777216 := sizeLine_eq
  cases x with
  | non =>
    cases rx
    have e' : k = false := e
    subst e'
    exact truthy_none ⟨H, I, q⟩
  | bl b =>
    cases rx
    have e' : k = b := e
    subst e'
    exact wpAny_truthy_bool ⟨H, I, q⟩
  | int i =>
    obtain ⟨t, rfl⟩ := rx
    have e' : k = (i != 0) := e
    subst e'
    exact PySem.P.truthy_int ⟨H, I, q⟩
  | str y =>
    obtain ⟨t, rfl⟩ := rx
    obtain ⟨hy, e'⟩ : y.length ≤ sizeLine ∧ k = ((y.length : Int) != 0) := e
    subst e'
    exact PySem.P.truthy_str (by omega) ⟨H, I.tok _, q⟩
  | byt y =>
    obtain ⟨t, rfl⟩ := rx
    obtain ⟨hy, e'⟩ : y.size ≤ sizeLine ∧ k = ((y.size : Int) != 0) := e
    subst e'
    exact PySem.W.truthy_bytes (by omega) ⟨H, I.tok _, q⟩
  | ref p =>
    cases rx
    have e' : (∃ xs, SqL X.K H p xs ∧ k = !xs.isEmpty) ∨ (∃ xs, SqT X.K H p xs ∧ k = !xs.isEmpty) ∨ ∃ kvs, H p = some (.dK kvs) ∧ k = !kvs.isEmpty := e
    rcases e' with ⟨xs, hx, e'⟩ | ⟨xs, hx, e'⟩ | ⟨kvs, hx, e'⟩
    · subst e'
      obtain ⟨its, r, pl, hz⟩ := I.list hx
      have hlen := r.length
      exact wpAny_truthy_list pl.isList (by simp only [List.size_toArray]; omega) ⟨H, I.tok _, by rw [isEmpty_of r]; exact q⟩
    · subst e'
      obtain ⟨its, r, pl, hz⟩ := I.tuple hx
      have hlen := r.length
      exact truthy_tuple pl (by simp only [List.size_toArray]; omega) ⟨H, I.tok _, by rw [isEmpty_of r]; exact q⟩
    · subst e'
      obtain ⟨hz, hS, vs, r, m⟩ : kvs.length ≤ sizeLine ∧ (p == sysModules) = false ∧ ∃ vs, KV kvs vs ∧ s.heap.DictOf (mixKind X.prog X.w) p vs := I.hok p _ hx
      have hlen : kvs.length = vs.length := Paired.length r
      exact wpAny_truthy_dict hS m (by omega) ⟨H, I.tok _, by rw [isEmpty_kv r]; exact q⟩
  | _ => exact (show False from e).elim

/-! ### strs and bytes -/
theorem op_add_str : OpR X (binaryOp .Add) (fun x y H Q => ∃ i j, x = .str i ∧ y = .str j ∧ i.length + j.length ≤ sizeLine ∧ Q (.str (i ++ j)) H) := by
  intro pins s σ H x y v u Q I rx ry h
  obtain ⟨i, j, rfl, rfl, hz, q⟩ := h
  obtain ⟨t, rfl⟩ := rx
  obtain ⟨t', rfl⟩ := ry
  exact add_str (fun t' tk => ⟨.str (i ++ j), H, I.tok _, ⟨_, rfl⟩, q⟩) hz


/-! ### scalar builtins, by CallR -/
theorem vals1 {x : V} {us : List Value} (r : Vals [x] us) : ∃ u, us = [u] ∧ RelV x u := by
  cases r with
  | cons r1 r2 => cases r2; exact ⟨_, rfl, r1⟩
theorem vals2 {x y : V} {us : List Value} (r : Vals [x, y] us) : ∃ u w', us = [u, w'] ∧ RelV x u ∧ RelV y w' := by
  cases r with
  | cons r1 r2 =>
    cases r2 with
    | cons r3 r4 => cases r4; exact ⟨_, _, rfl, r1, r3⟩
theorem call_int1 : CallR X (.type "int") (fun xs H Q => (∃ i, xs = [.int i] ∧ Q (.int i) H) ∨ ∃ k, xs = [.bl k] ∧ Q (.int (if k then 1 else 0)) H) := by
  intro pins s σ H xs us Q I r h
  rcases h with ⟨i, rfl, q⟩ | ⟨k, rfl, q⟩
  · obtain ⟨u, rfl, t, rfl⟩ := vals1 r
    exact call_int_int ⟨.int i, H, I, ⟨_, rfl⟩, q⟩
  · obtain ⟨u, rfl, r1⟩ := vals1 r
    cases r1
    exact call_int_bool ⟨.int (if k then 1 else 0), H, I.tok _, ⟨_, rfl⟩, q⟩
/-- len of a str, a bytes, a list, a tuple -/
def LenV (K : PySem.W.Frag) (x : V) (H : Hp) (n : Nat) : Prop :=
  match x with
  | .str y => y.length ≤ sizeLine ∧ n = y.length
  | .byt y => y.size ≤ sizeLine ∧ n = y.size
  | .ref p => (∃ xs, SqL K H p xs ∧ n = xs.length) ∨ ∃ xs, SqT K H p xs ∧ n = xs.length
  | _ => False
theorem call_len : CallR X (.builtin "len") (fun xs H Q => ∃ x n, xs = [x] ∧ LenV X.K x H n ∧ Q (.int n) H) := by
  intro pins s σ H xs us Q I r h
  obtain ⟨x, n, rfl, e, q⟩ := h
  obtain ⟨u, rfl, rx⟩ := vals1 r
  have hl := line63
  have hs : sizeLine = 16777216 := sizeLine_eq
  cases x with
  | str y =>
    obtain ⟨t, rfl⟩ := rx
    obtain ⟨hy, e'⟩ : y.length ≤ sizeLine ∧ n = y.length := e
    subst e'
    exact len_str (by omega) ⟨.int _, H, I.tok _, ⟨_, rfl⟩, q⟩
  | byt y =>
    obtain ⟨t, rfl⟩ := rx
    obtain ⟨hy, e'⟩ : y.size ≤ sizeLine ∧ n = y.size := e
    subst e'
    exact PySem.W.len_bytes (by omega) ⟨.int _, H, I.tok _, ⟨_, rfl⟩, q⟩
  | ref p =>
    cases rx
    have e' : (∃ xs, SqL X.K H p xs ∧ n = xs.length) ∨ ∃ xs, SqT X.K H p xs ∧ n = xs.length := e
    rcases e' with ⟨xs, hx, e'⟩ | ⟨xs, hx, e'⟩
    · subst e'
      obtain ⟨its, r', pl, hz⟩ := I.list hx
      have hlen := r'.length
      exact Calls.call_len_list pl.isList (by simp only [List.size_toArray]; omega) ⟨.int xs.length, H, I.tok _, ⟨_, by simp only [List.size_toArray]; rw [hlen]⟩, q⟩
    · subst e'
      obtain ⟨its, r', pl, hz⟩ := I.tuple hx
      have hlen := r'.length
      exact len_tuple pl (by simp only [List.size_toArray]; omega) ⟨.int xs.length, H, I.tok _, ⟨_, by simp only [List.size_toArray]; rw [hlen]⟩, q⟩
  | _ => exact (show False from e).elim
end
end L2

namespace L2
open PySem PySem.Spec PyProof.Rows

/-! ### an instance, its attributes a map -/
structure ObjM (h : Heap) (x dx C : Addr) (mA : Str → Option Value) : Prop where
  obj : h.get? x = some (PySem.W.instObj C dx)
  ns : h.Ns1 dx mA
  ne : dx ≠ x

theorem lookIn_ns {h : Heap} {dx : Addr} {mA : Str → Option Value} (n : h.Ns1 dx mA) : ∃ od, h.get? dx = some od ∧ ∀ name, PySem.W.lookIn name od = some (mA name) := by
  obtain ⟨o, es, ep, ho, hd, hk, _, hm⟩ := n
  refine ⟨o, ho, fun name => ?_⟩
  have e := hm name
  unfold nsFind findBy at e
  rw [← Array.find?_toList] at e
  unfold PySem.W.lookIn
  rw [hd]
  dsimp only
  split
  · rename_i y q
    rw [q] at e
    exact congrArg some e
  · rename_i q
    rw [q] at e
    have a : es.toList.any (·.refKey) = false := by
      rw [List.any_eq_false]
      intro y hy
      obtain ⟨z, t, hkey⟩ := hk y (Array.mem_toList_iff.mp hy)
      simp [DictEntry.refKey, hkey]
    have a' : ¬ es.toList.any (·.refKey) = true := by rw [a]; exact Bool.false_ne_true
    rw [if_neg a']
    exact congrArg some e

theorem ObjM.look {h : Heap} {x dx C : Addr} {mA : Str → Option Value} (I : ObjM h x dx C mA) : ∃ od, PySem.W.InstAt h x (PySem.W.instObj C dx) C (some od) ∧ ∀ name, PySem.W.lookIn name od = some (mA name) :=
  let ⟨od, ho, hl⟩ := lookIn_ns I.ns
  ⟨od, ⟨I.obj, rfl, rfl, ho⟩, hl⟩

section
variable {prog : Program} {w : World} {A : Around} {E : Value → Shared → Prop} {s : Shared} {K : PySem.W.Frag} {x dx C f : Addr} {mA : Str → Option Value} {name : Str} {v : Value}





end

/-! ### the attributes as a list of pairs -/

theorem RelO.some_of {v : V} {o : Option Value} (r : RelO (some v) o) : ∃ u, o = some u ∧ RelV v u := by
  cases o with
  | none => exact (show False from r).elim
  | some u => exact ⟨u, rfl, r⟩

section
variable {P : Program} {w : World} {H H' : Hp} {h h' : Heap} {a C dx : Addr} {fs fs' : List (Str × V)}
theorem ins_get (hok : HOk P w H h) (e : H a = some (.ins C dx fs)) : ∃ mA, ObjM h a dx C mA ∧ (∀ f, RelO (fs.lookup f) (mA f)) ∧ PySem.Within mA (fs.map (·.1)) ∧ fs.length ≤ 1000 ∧ H dx = some (.own a) := by
  obtain ⟨d, z, ne, ob, mA, n, r, q⟩ := (show ObjOk P w H h a (.ins C dx fs) from hok a _ e)
  exact ⟨mA, ⟨ob, n, ne⟩, r, q, z, d⟩
end

/-! ### what of the text a class must have -/
structure Cls (K : PySem.W.Frag) (C : Addr) : Prop where
  pg : PySem.W.plainGet K C Str.empty = true
  hd : PySem.W.hasDictIn K C = true
  po : PySem.W.plainOver K C = true
  sa : PySem.W.findIn K (.ref C) "__setattr__" = some (some (.builtin "object.__setattr__"))
theorem Cls.get {K : PySem.W.Frag} {C : Addr} (c : Cls K C) (f : Str) : PySem.W.plainGet K C f = true := c.pg

section
variable {X : Cx} {pins : List (Addr × Obj)} {σ : St} {H : Hp} {s : Shared} {a C dx : Addr} {fs : List (Str × V)} {f : Str} {v : V} {A : Around} {E : Value → Shared → Prop}






end

/-! ### readings and rules -/

section
variable {X : Cx} {o e value : Expr} {f : Str} {pos pos' tpos : Pos} {ta tv : TE}

end

/-! ### isinstance -/
section
variable {X : Cx} {pins : List (Addr × Obj)} {σ : St} {H : Hp} {s : Shared} {A : Around} {E : Value → Shared → Prop} {Q : Value → Shared → Prop} {c : Value} {b : Bool}
/-- the type of a value, as the fragment's deciders take it; for an instance its class -/
inductive TyOf (K : PySem.W.Frag) (H : Hp) : V → Value → Prop where
  | non : TyOf K H .non (.type "NoneType")
  | bl (x : Bool) : TyOf K H (.bl x) (.type "bool")
  | int (i : Int) : TyOf K H (.int i) (.type "int")
  | str (x : Str) : TyOf K H (.str x) (.type "str")
  | flt (x : UInt64) : TyOf K H (.flt x) (.type "float")
  | lst {a : Addr} {xs : List V} (e : H a = some (.lst xs)) : TyOf K H (.ref a) (.type "list")
  | frz {a : Addr} {o : Obj} {xs : List V} (e : H a = some (.frz o (.lst xs))) : TyOf K H (.ref a) (.type "list")
  | tup {a : Addr} {xs : List V} (e : H a = some (.tup xs)) : TyOf K H (.ref a) (.type "tuple")
  | dK {a : Addr} {kvs : List (Key × V)} (e : H a = some (.dK kvs)) : TyOf K H (.ref a) (.type "dict")
  | dT {a : Addr} {kvs : List (List Key × V)} (e : H a = some (.dT kvs)) : TyOf K H (.ref a) (.type "dict")
  | ins {a C dx : Addr} {fs : List (Str × V)} (e : H a = some (.ins C dx fs)) (cl : Cls K C) (ha : PySem.W.findIn K (.ref C) "__class__" = some (some (.builtin "object.__class__")))
      (hn : PySem.W.specialIn K (.builtin "object.__class__") "__get__" = some (some (.builtin "getset_descriptor.__get__"))) (htk : PySem.W.takesIn K (.builtin "object.__class__") = some true)
      (hm : PySem.W.mroIn K C (.type "object") = some true) : TyOf K H (.ref a) (.ref C)
/-- isinstance(x, c) for one class c, a built-in or an own one: kitOne's answer -/
theorem isinst_ok {x : V} {u t : Value} (I : Inv X pins σ H s) (rx : RelV x u) (ty : TyOf X.K H x t) (e : PySem.W.kitOne X.K t c = some b) (h : ∀ tk, Q (.bool b) { s with toks := tk }) :
    wpAny (model X.prog X.w) A (call (.builtin "isinstance") [u, c]) Q E s := by
  cases ty with
  | non => cases (show u = Value.none from rx); exact PySem.W.kia_one PySem.W.kitx_none I.kIn True.intro e (fun z => nomatch z) h
  | bl y => cases (show u = Value.bool y from rx); exact PySem.W.kia_one PySem.W.kitx_bool I.kIn True.intro e (fun z => nomatch z) h
  | int i => obtain ⟨t, q⟩ := (show ∃ t, u = Value.int i t from rx); cases q; exact PySem.W.kia_one PySem.W.kitx_int I.kIn True.intro e (fun z => nomatch z) h
  | str y => obtain ⟨t, q⟩ := (show ∃ t, u = Value.str y t from rx); cases q; exact PySem.W.kia_one PySem.W.kitx_str I.kIn True.intro e (fun z => nomatch z) h
  | flt y => obtain ⟨t, q⟩ := (show ∃ t, u = Value.float y t from rx); cases q; exact PySem.W.kia_one PySem.W.kitx_float I.kIn True.intro e (fun z => nomatch z) h
  | @lst a xs ea =>
    cases (show u = Value.ref a from rx)
    obtain ⟨_, _, n, _, h1⟩ := (show ObjOk X.prog X.w H s.heap a (.lst xs) from I.hok a _ ea)
    exact PySem.W.kia_one PySem.W.kitx_list I.kIn ⟨_, h1, rfl⟩ e (fun z => nomatch z) h
  | @frz a ob xs ea =>
    cases (show u = Value.ref a from rx)
    obtain ⟨_, _, _, n, _, h1⟩ := (show ObjOk X.prog X.w H s.heap a (.frz ob (.lst xs)) from I.hok a _ ea)
    exact PySem.W.kia_one PySem.W.kitx_list I.kIn ⟨_, h1, rfl⟩ e (fun z => nomatch z) h
  | @tup a xs ea =>
    cases (show u = Value.ref a from rx)
    obtain ⟨_, _, _, p, _⟩ := (show ObjOk X.prog X.w H s.heap a (.tup xs) from I.hok a _ ea)
    obtain ⟨o, h1, h2, _⟩ := p
    exact PySem.W.kia_one PySem.W.kitx_tuple I.kIn ⟨o, h1, h2⟩ e (fun z => nomatch z) h
  | @dK a kvs ea =>
    cases (show u = Value.ref a from rx)
    obtain ⟨_, _, vs, _, p⟩ := (show ObjOk X.prog X.w H s.heap a (.dK kvs) from I.hok a _ ea)
    obtain ⟨o, es, ep, h1, h2, _⟩ := p
    exact PySem.W.kia_one PySem.W.kitx_dict I.kIn ⟨o, h1, h2.1⟩ e (fun z => nomatch z) h
  | @dT a kvs ea =>
    cases (show u = Value.ref a from rx)
    obtain ⟨_, _, xs, _, o, es, ep, h1, h2, _⟩ := (show ObjOk X.prog X.w H s.heap a (.dT kvs) from I.hok a _ ea)
    exact PySem.W.kia_one PySem.W.kitx_dict I.kIn ⟨o, h1, h2.1⟩ e (fun z => nomatch z) h
  | @ins a C dx fs ea cl ha hn htk hm =>
    cases (show u = Value.ref a from rx)
    obtain ⟨mA, O, _⟩ := ins_get I.hok ea
    obtain ⟨od, J, _⟩ := O.look
    exact PySem.W.kia_one (PySem.W.kitx_own (cl.get _) cl.hd ha hn htk hm) I.kIn J e (fun z => nomatch z) h
end
end L2

namespace L2
open PySem PySem.Spec PyProof.Rows

/-! ### room -/
structure Room (k : Nat) (A : Around) : Prop where
  hd : A.handled = none
  dp : A.depth + 3 * k + 5 < recursionLimit
  un : A.units + 16 * k + 200 < cLine
theorem Room.mono {j k : Nat} {A : Around} (r : Room k A) (h : j ≤ k) : Room j A := ⟨r.hd, by have := r.dp; omega, by have := r.un; omega⟩
theorem Room.deeper {k : Nat} {A : Around} (r : Room (k + 1) A) (env : Env) : Room k (A.deeper env) :=
  ⟨r.hd, by have := r.dp; show A.depth + 1 + 3 * k + 5 < _; omega, by have := r.un; show A.units + 3 + 16 * k + 200 < _; omega⟩
theorem Room.depth {k : Nat} {A : Around} (r : Room k A) : A.depth < recursionLimit := by have := r.dp; omega
theorem Room.units {k : Nat} {A : Around} (r : Room k A) : A.units + 64 < cLine := by have := r.un; omega

/-! ### argument lists and displays -/
def tNil : TA := fun _ H Q => Q [] H
def tCons (ta : TE) (tr : TA) : TA := fun σ H Q => ta σ H fun x H1 => tr σ H1 fun xs H2 => Q (x :: xs) H2
section
variable {X : Cx} {e : Expr} {es : List Expr} {te : TE} {t : TA} {pos : Pos}
theorem pa_nil : PA X [] tNil := fun _ _ _ _ H Q I h => Calls.spliced_nil ⟨[], H, I, .nil, h⟩
theorem pa_cons (ha : PE X e te) (hr : PA X es t) (hs : starEach (e :: es) X.env = (false, eval e X.env) :: starEach es X.env := by rfl) : PA X (e :: es) (tCons te t) := by
  intro pos pins s σ H Q I h
  rw [hs]
  show wpAny _ _ (spliced ((false, eval e X.env) :: backTo pos (starEach es X.env))) _ _ s
  refine Calls.spliced_cons (thn (ha pins s σ H _ I h) fun u s1 ⟨x, H1, I1, r1, q1⟩ => ?_)
  exact thn (hr pos pins s1 σ H1 _ I1 q1) fun us s2 ⟨xs, H2, I2, r2, q2⟩ => ⟨x :: xs, H2, I2, .cons r1 r2, q2⟩

/-- a tuple, a list of written items -/
def tTup (t : TA) : TE := fun σ H Q => t σ H fun xs H1 => xs.length ≤ sizeLine ∧ ∀ p, H1 p = none → Q (.ref p) (upd H1 p (.tup xs))
def tLst (t : TA) : TE := fun σ H Q => t σ H fun xs H1 => xs.length ≤ sizeLine ∧ ∀ p, H1 p = none → Q (.ref p) (upd H1 p (.lst xs))
theorem pe_tup {x1} (h : PA X es t) : PE X (.Tuple es x1 pos) (tTup t) := by
  intro pins s σ H Q I hq
  refine wpAny_Tuple_spliced (thn (h pos pins s σ H _ I hq) fun us s1 ⟨xs, H1, I1, r, z, q⟩ => ⟨by rw [← r.length]; exact z, ?_⟩)
  have hf : H1 s1.heap.objs.size = none := I1.hok.fresh (Nat.le_refl _)
  refine ⟨.ref s1.heap.objs.size, upd H1 s1.heap.objs.size (.tup xs), I1.laid (t' := s1.toks) (fun b u e => Heap.get?_push_of_some _ e) (Nat.le_refl _) ?_, rfl, q _ hf⟩
  exact ⟨z, us, r, ⟨_, Heap.get?_push_size _ rfl, rfl, _, rfl⟩, noD_push rfl rfl⟩
theorem pe_lst (h : PA X es t) : PE X (.List es pos) (tLst t) := by
  intro pins s σ H Q I hq
  refine wpAny_List_spliced (thn (h pos pins s σ H _ I hq) fun us s1 ⟨xs, H1, I1, r, z, q⟩ => ⟨by rw [← r.length]; exact z, ?_⟩)
  have hf : H1 s1.heap.objs.size = none := I1.hok.fresh (Nat.le_refl _)
  refine ⟨.ref s1.heap.objs.size, upd H1 s1.heap.objs.size (.lst xs), I1.laid (t' := s1.toks) (fun b u e => Heap.get?_push_of_some _ e) (Nat.le_refl _) ?_, rfl, q _ hf⟩
  exact ⟨z, us, 0, r, Heap.get?_push_size _ rfl⟩
end

/-! ### what a def promises -/
/-- a def's promise: the bound arguments in the parameters' order, the heap, the wanted end, the wanted exception -/
abbrev Sp := List V → Hp → VK → XK → Prop
/-- how an exception lies behind a call (file 08 gives it): the callers' frames, abstract heap and state ahead of the call, the wish, the exception, the state -/
abbrev CXT := List Env → Hp → Shared → XK → Value → Shared → Prop

/-- the state at a call -/
structure Env0 (P : Program) (w : World) (K : PySem.W.Frag) (mg : Str → Option Value) (base : Heap) (A : Around) (outer : List Env) (s : Shared) (H : Hp) : Prop where
  frames : A.frames = some outer
  mod : Mod K mg base
  bs : ∀ b o, base.get? b = some o → s.heap.get? b = some o ∧ H b = none
  bsz : base.objs.size ≤ s.heap.objs.size
  funs : s.heap.FunFrames base outer
  frf : ∀ b ∈ frs outer, H b = none
  hok : HOk P w H s.heap
  bare : AllBare s.gens
/-- a call's end -/
def CE (outer : List Env) (P : Program) (w : World) (H : Hp) (s : Shared) (Q : VK) (u : Value) (s' : Shared) : Prop :=
  ∃ v H', s'.os = s.os ∧ AllBare s'.gens ∧ Un (frs outer) [] H H' s.heap s'.heap ∧ HOk P w H' s'.heap ∧ RelV v u ∧ Q v H'
def CR (CX : CXT) (outer : List Env) (P : Program) (w : World) (H : Hp) (s : Shared) (Q : VK) (E : XK) (r : Result) (s' : Shared) : Prop :=
  match r with
  | .ok (.ret u) => CE outer P w H s Q u s'
  | .ok _ => False
  | .error e => CX outer H s E e s'
structure FnOk (P : Program) (w : World) (K : PySem.W.Frag) (mg : Str → Option Value) (base : Heap) (CX : CXT) (k : Nat) (f : Addr) (fd : FuncData) (ps : List Str) (sp : Sp) : Prop where
  len : ∀ vs H Q E, sp vs H Q E → vs.length = ps.length
  run : ∀ (A : Around) (outer : List Env) (s : Shared) (H : Hp) (args : Args) (us : List Value) (vs : List V) (Q : VK) (E : XK), Room k A → Env0 P w K mg base A outer s H → BindsTo s fd args (ps.zip us) → Vals vs us → sp vs H Q E →
    codeAny (model P w) A (.call (.ref f) args) (CR CX outer P w H s Q E) s
theorem FnOk.mono {P : Program} {w : World} {K : PySem.W.Frag} {mg : Str → Option Value} {base : Heap} {CX : CXT} {j k : Nat} {f : Addr} {fd : FuncData} {ps : List Str} {sp : Sp} (F : FnOk P w K mg base CX j f fd ps sp) (h : j ≤ k) :
    FnOk P w K mg base CX k f fd ps sp := ⟨F.len, fun A outer s H args us vs Q E hr => F.run A outer s H args us vs Q E (hr.mono h)⟩


section
variable {X : Cx} {pins : List (Addr × Obj)} {σ : St} {H : Hp} {s s' : Shared}
/-- from a body: what a callee wants -/
theorem Inv.env0 (I : Inv X pins σ H s) : Env0 X.prog X.w X.K X.mg X.base X.A X.stack s H :=
  ⟨I.ok.frames, I.ok.mod, I.bs, Nat.le_trans I.ok.bsz I.sz, I.stack, I.stkFree, I.hok, I.bare⟩
/-- behind a call -/
theorem Inv.after {Q : VK} {u : Value} (I : Inv X pins σ H s) (h : CE X.stack X.prog X.w H s Q u s') : EP X pins σ Q u s' := by
  obtain ⟨v, H', os, bare, un, hok, r, q⟩ := h
  obtain ⟨hh, g, d, t, os'⟩ := s'
  obtain rfl : os' = s.os := os
  exact ⟨v, H', I.call (h' := hh) (g' := g) (d' := d) (t' := t) (ch := []) un hok bare (fun b z => absurd z (by simp)), r, q⟩
end

/-! ### calls -/
/-- f(..): the written arguments, then the defaults dvs; E: what is wanted of an exception -/
def tCall (sp : Sp) (dvs : List V) (E : XK) (t : TA) : TE := fun σ H Q => t σ H fun vs H1 => sp (vs ++ dvs) H1 Q E

/-- how the parameters are bound: us the positional arguments, kw the keywords' values by name, ds the defaults that fill up -/
def Binds (K : PySem.W.Frag) (fd : FuncData) (ps : List Str) (ds : List Value) : Prop :=
  ∀ (s : Shared) (us : List Value), K.In s.heap → (us ++ ds).length = ps.length → BindsTo s fd ⟨us, []⟩ (ps.zip (us ++ ds))
/-- every parameter is given -/
theorem Binds.all {K : PySem.W.Frag} {fd : FuncData} {ps : List Str} (h : ∀ us : List Value, us.length = ps.length → bindArgs fd ⟨us, []⟩ = pure (ps.zip us)) : Binds K fd ps [] := fun s us _ hl => by
  rw [List.append_nil] at hl ⊢
  exact .of_eq (h us hl)

/-- an exception of a callee reaches what this body wants of exceptions -/
def Passes (CX : CXT) (X : Cx) (E : XK) : Prop := ∀ (pins : List (Addr × Obj)) (σ : St) (H : Hp) (s : Shared) (e : Value) (s' : Shared), Inv X pins σ H s → CX X.stack H s E e s' → X.xe e s'

section
variable {X : Cx} {CX : CXT} {k : Nat} {f C : Addr} {fd : FuncData} {ps : List Str} {sp : Sp} {dvs : List V} {ds : List Value} {E : XK} {x m : Str} {p pos apos : Pos} {e o : Expr} {es : List Expr} {ta : TE} {t : TA}

/-- the callee runs -/
theorem run_fn {pins : List (Addr × Obj)} {σ : St} {H : Hp} {s : Shared} {Q : VK} {us : List Value} {vs : List V} (F : FnOk X.prog X.w X.K X.mg X.base CX k f fd ps sp) (hr : Room k X.A) (hb : Binds X.K fd ps ds) (hd : Vals dvs ds) (hx : Passes CX X E)
    (I : Inv X pins σ H s) (r : Vals vs us) (h : sp (vs ++ dvs) H Q E) : wpAny (model X.prog X.w) X.A (call (.ref f) us) (EP X pins σ Q) X.xe s := by
  have r2 : Vals (vs ++ dvs) (us ++ ds) := r.append hd
  have hl : (us ++ ds).length = ps.length := by rw [← r2.length]; exact F.len _ _ _ _ h
  refine wpAny_call (codeAny_mono (F.run X.A X.stack s H ⟨us, []⟩ (us ++ ds) (vs ++ dvs) Q E hr I.env0 (hb s us I.kIn hl) r2 h) fun r s' hq => ?_)
  cases r with
  | error e => exact hx pins σ H s e s' I hq
  | ok fl =>
    cases fl with
    | ret u => exact I.after hq
    | next => exact False.elim hq
    | brk => exact False.elim hq
    | cont => exact False.elim hq

theorem pe_call (F : FnOk X.prog X.w X.K X.mg X.base CX k f fd ps sp) (hr : Room k X.A) (hg : Gl X x) (hm : X.mg x = some (.ref f)) (hk : PySem.W.keepIn X.K (.ref f) = true) (hb : Binds X.K fd ps ds) (hd : Vals dvs ds) (hx : Passes CX X E)
    (ha : PA X (e :: es) t) (hdb : (x == ("__debug__" : Str)) = false := by decide) (he : starEach (e :: es) X.env = (false, eval e X.env) :: starEach es X.env := by rfl) (hpl : (backTo pos (starEach es X.env)).any (·.1) = false := by rfl) :
    PE X (.Call (.Name x p) (e :: es) [] pos) (tCall sp dvs E t) := by
  intro pins s σ H Q I h
  refine wpAny_Call_Name_kw (ld_glob I hg hm ?_ hdb)
  refine PySem.W.callWith_K (h₀ := X.base) I.ok.mod.kin hk (thn (ha pos pins s σ H _ I h) fun us s1 ⟨vs, H1, I1, r, q⟩ => ⟨I1.kIn, ?_⟩) he hpl
  exact run_fn F hr hb hd hx I1 r q



end

/-! ### keywords -/
section
variable {X : Cx} {CX : CXT} {k : Nat} {f C : Addr} {fd : FuncData} {ps ks : List Str} {sp : Sp} {E : XK} {x m : Str} {p pos apos kpos : Pos} {e o : Expr} {es : List Expr} {kws : List Keyword} {te ta : TE} {t tk : TA} {nm : Option Str}

variable {g : List Value → List Value → List Value} {gV : List V → List V → List V}
end

/-! ### a def's body keeps its promise -/
/-- names: the parameters first -/
structure FnScope (N P : List Str) (sc : Scope) : Prop where
  kind : sc.kind = .function
  co : sc.isCoroutine = false
  gen : sc.isGenerator = false
  nd : N.Nodup
  pre : N.take P.length = P
  par : ∀ x ∈ P, sc.names.lookup x = some .local ∨ sc.names.lookup x = some .cell
  nofree : ∀ y ∈ sc.names, y.2 ≠ .free

theorem bindL_out {kindOf : Str → Option NameKind} {x : Str} : ∀ {binds : List (Str × Value)} {m : Str → Option Value}, (∀ v, (x, v) ∉ binds) → bindL kindOf binds m x = m x
  | [], _, _ => rfl
  | (n, v) :: r, m, h => by
    unfold bindL
    rw [bindL_out fun w hw => h w (List.mem_cons_of_mem _ hw)]
    split
    · have : x ≠ n := by rintro rfl; exact h v List.mem_cons_self
      simp [this]
    · rfl
theorem bindC_out {kindOf : Str → Option NameKind} {x : Str} : ∀ {binds : List (Str × Value)} {m : Str → Option Value}, (∀ v, (x, v) ∉ binds) → bindC kindOf binds m x = m x
  | [], _, _ => rfl
  | (n, v) :: r, m, h => by
    unfold bindC
    rw [bindC_out fun w hw => h w (List.mem_cons_of_mem _ hw)]
    split
    · rfl
    · have : x ≠ n := by rintro rfl; exact h v List.mem_cons_self
      simp [this]
theorem bindL_get {kindOf : Str → Option NameKind} {x : Str} {v : Value} : ∀ {P : List Str} {vs : List Value} {i : Nat} {m : Str → Option Value}, P.Nodup → P[i]? = some x → vs[i]? = some v → kindOf x = some .local →
    bindL kindOf (P.zip vs) m x = some v
  | [], _, _, _, _, h, _, _ => by simp at h
  | _ :: _, [], _, _, _, _, h, _ => by simp at h
  | p :: P, w :: vs, 0, m, nd, h1, h2, hk => by
    simp at h1 h2; subst h1; subst h2
    show bindL kindOf ((p, w) :: P.zip vs) m p = _
    unfold bindL
    rw [bindL_out fun v hv => (List.nodup_cons.mp nd).1 (List.of_mem_zip hv).1, if_pos hk]
    simp
  | p :: P, w :: vs, i + 1, m, nd, h1, h2, hk => by
    show bindL kindOf ((p, w) :: P.zip vs) m x = _
    unfold bindL
    exact bindL_get (i := i) (List.nodup_cons.mp nd).2 (by simpa using h1) (by simpa using h2) hk
theorem bindC_get {kindOf : Str → Option NameKind} {x : Str} {v : Value} : ∀ {P : List Str} {vs : List Value} {i : Nat} {m : Str → Option Value}, P.Nodup → P[i]? = some x → vs[i]? = some v → kindOf x ≠ some .local →
    bindC kindOf (P.zip vs) m x = some v
  | [], _, _, _, _, h, _, _ => by simp at h
  | _ :: _, [], _, _, _, _, h, _ => by simp at h
  | p :: P, w :: vs, 0, m, nd, h1, h2, hk => by
    simp at h1 h2; subst h1; subst h2
    show bindC kindOf ((p, w) :: P.zip vs) m p = _
    unfold bindC
    rw [bindC_out fun v hv => (List.nodup_cons.mp nd).1 (List.of_mem_zip hv).1, if_neg hk]
    simp
  | p :: P, w :: vs, i + 1, m, nd, h1, h2, hk => by
    show bindC kindOf ((p, w) :: P.zip vs) m x = _
    unfold bindC
    exact bindC_get (i := i) (List.nodup_cons.mp nd).2 (by simpa using h1) (by simpa using h2) hk

/-- the names' values at the entry -/
def start (N : List Str) (vs : List V) : St := vs.map some ++ List.replicate (N.length - vs.length) none

/-- the context of a def's body, at its entry; an exception leaves the frame, then lies as CX says -/
def cxOf (CX : CXT) (P : Program) (w : World) (K : PySem.W.Frag) (mg : Str → Option Value) (base : Heap) (N : List Str) (qual : Str) (scope : Scope) (f : Addr) (cd : Value) (A : Around) (outer : List Env) (s : Shared) (H : Hp) (E : XK) : Cx where
  prog := P
  w := w
  K := K
  mg := mg
  base := base
  A := A.deeper (envOfC qual scope s.heap.objs.size f cd)
  N := N
  s₀ := s
  H₀ := H
  env := envOfC qual scope s.heap.objs.size f cd
  outer := outer
  stack := envOfC qual scope s.heap.objs.size f cd :: outer
  ex := []
  calm := true
  fn := fun _ => true
  pn := []
  xe := fun e s' => wpAny (model P w) (A.deeper (envOfC qual scope s.heap.objs.size f cd)) (leaving (envOfC qual scope s.heap.objs.size f cd) e) (fun _ s'' => CX outer H s E e s'') (fun e' s'' => CX outer H s E e' s'') s'

theorem cell_has {sc : Scope} {n : Nat} {x : Str} (h : sc.names.lookup x = some .cell) : ∃ c, (cellsFrom n sc.names []).lookup x = some c := by
  have q := PySem.W.cellsFrom_some sc.names n [] (.inl h)
  exact Option.isSome_iff_exists.mp q

theorem inv_start {CX : CXT} {P : Program} {w : World} {K : PySem.W.Frag} {mg : Str → Option Value} {base : Heap} {N ps : List Str} {qual : Str} {scope : Scope} {f : Addr} {cd : Value} {A : Around} {outer : List Env} {s s1 : Shared} {H : Hp} {E : XK} {us : List Value} {vs : List V}
    (S : FnScope N ps scope) (hd : A.handled = none) (e0 : Env0 P w K mg base A outer s H) (hl : vs.length = ps.length) (r : Vals vs us)
    (x : InCallC s s.heap.objs.size (bindL (envOfC qual scope s.heap.objs.size f cd).kindOf (ps.zip us) fun _ => none) (cellsFrom (s.heap.objs.size + 1) scope.names []) (bindC (envOfC qual scope s.heap.objs.size f cd).kindOf (ps.zip us) fun _ => none) s1) :
    Inv (cxOf CX P w K mg base N qual scope f cd A outer s H E) [] (start N vs) H s1 := by
  have hpl : ps.length ≤ N.length := by have := congrArg List.length S.pre; rw [List.length_take] at this; omega
  obtain ⟨h1, tk, rfl, hk⟩ := x.done
  have noA : ∀ b : Addr, b ∉ (cxOf CX P w K mg base N qual scope f cd A outer s H E).ex := fun b z => absurd (show b ∈ ([] : List Addr) from z) (by simp)
  refine ⟨⟨e0.mod, S.kind, rfl, rfl, Nat.le_refl _, fun y z c h1 h2 => ?_, fun y hy => ?_, fun y c _ h => ?_, fun _ => hd, Around.frames_deeper e0.frames, .inr ⟨rfl, rfl⟩, fun b z => absurd z (noA b), e0.bs, e0.bsz, fun b _ _ => noA b, fun b z => absurd z (noA b), e0.funs, e0.frf⟩,
    rfl, e0.bare, Un.kept hk, ⟨_, x.toInCall.ns, fun i y v h1 h2 h3 => ?_⟩, fun y c h => ⟨_, x.cell y c h⟩, e0.hok.fresh (Nat.le_refl _), fun y c h => ?_, fun p hp => absurd (show p ∈ ([] : List (Addr × Obj)) from hp) (by simp), e0.hok.kept hk, ?_⟩
  · exact name_of_addr x.apart (PySem.mem_of_lookup h1) (PySem.mem_of_lookup h2)
  · have hy : scope.names.lookup y = some .cell ∨ scope.names.lookup y = some .free := hy
    rcases hy with hy | hy
    · exact cell_has hy
    · exact absurd rfl (S.nofree _ (PySem.mem_of_lookup hy))
  · exact Nat.le_of_lt (x.above y c (PySem.mem_of_lookup h))
  · have hi : i < vs.length := by
      unfold start at h2
      by_cases hi : i < vs.length
      · exact hi
      · rw [List.getElem?_append_right (by simpa using hi)] at h2
        rw [List.getElem?_replicate] at h2
        split at h2 <;> cases h2
    have ha : vs[i]? = some v := by
      unfold start at h2
      rw [List.getElem?_append_left (by simpa using hi), List.getElem?_map] at h2
      cases e : vs[i]? with
      | none => rw [e] at h2; cases h2
      | some a => rw [e] at h2; cases h2; rfl
    obtain ⟨u, hu, rv⟩ := r.get ha
    have hp : ps[i]? = some y := by
      rw [← S.pre, List.getElem?_take_of_lt (by omega)]; exact h1
    have ndP : ps.Nodup := by rw [← S.pre]; exact S.nd.sublist (List.take_sublist _ _)
    refine ⟨u, rv, ?_⟩
    rcases S.par y (List.mem_of_getElem? hp) with k | k
    · exact .inl ⟨k, bindL_get ndP hp hu k⟩
    · obtain ⟨c, e⟩ := cell_has (n := s.heap.objs.size + 1) k
      refine .inr ⟨.inl k, c, e, ?_⟩
      have q := x.cell y c e
      rw [bindC_get ndP hp hu (by show scope.names.lookup y ≠ _; rw [k]; decide)] at q
      exact q
  · exact e0.hok.fresh (Nat.le_of_lt (x.above y c (PySem.mem_of_lookup h)))
  · unfold start
    show _ = N.length
    rw [List.length_append, List.length_map, List.length_replicate]
    omega

/-- THE RULE: a def (or a method) of the text, by its body. The body's reading t is chosen for each entry; it is run at the parameters' values -/
theorem fn_of {CX : CXT} {P : Program} {w : World} {K : PySem.W.Frag} {mg : Str → Option Value} {base : Heap} {k : Nat} {f : Addr} {name qual : Str} {params : Arguments} {body : List Stmt} {scope : Scope} {dV kV doc pm cdv ct oc : Value} {an od : Option Addr}
    {osl : Array (Option Value)} {N ps : List Str} {sp : Sp} (lk : K.lookup f = some ⟨oc, od, .func (PySem.W.fnOf name qual params body scope dV kV doc pm an cdv ct), osl⟩) (hcd : PySem.W.codeIn K cdv qual = true) (S : FnScope N ps scope)
    (len : ∀ vs H Q E, sp vs H Q E → vs.length = ps.length)
    (hbody : ∀ (A : Around) (outer : List Env) (s : Shared) (H : Hp) (vs : List V) (Q : VK) (E : XK), Room k (A.deeper (envOfC qual scope s.heap.objs.size f cdv)) → sp vs H Q E →
      ∃ t, PSs (cxOf CX P w K mg base N qual scope f cdv A outer s H E) body t ∧ t { nx := fun _ H' => Q .non H', rt := Q } (start N vs) H) :
    FnOk P w K mg base CX (k + 1) f (PySem.W.fnOf name qual params body scope dV kV doc pm an cdv ct) ps sp := by
  refine ⟨len, fun A outer s H args us vs Q E hr e0 hb r hsp => ?_⟩
  have hl := len _ _ _ _ hsp
  have KX : K.In s.heap := e0.mod.kin.keeps fun b o e => (e0.bs b o e).1
  have lim : s.heap.NoLimit := e0.mod.nolimit.keeps fun b o e => (e0.bs b o e).1
  have hkind : ∀ y ∈ ps.zip us, scope.names.lookup y.1 = some .local ∨ (scope.names.lookup y.1 = some .cell ∧ ((cellsFrom (s.heap.objs.size + 1) scope.names []).lookup y.1).isSome = true) := fun ⟨n, v⟩ hy => by
    rcases S.par n (List.of_mem_zip hy).1 with q | q
    · exact .inl q
    · exact .inr ⟨q, PySem.W.cellsFrom_some _ _ _ (.inl q)⟩
  refine codeAny_call_function hr.depth (KX _ _ lk) rfl S.co S.gen rfl (PySem.W.codeRec_of KX hcd) (hb _ _ _ _ ?_)
  refine wpAny_newFunctionEnv_cells S.kind hkind fun env he s1 x => ?_
  subst he
  refine ⟨lim.keeps x.toInCall.keep, codeAny_func ?_⟩
  obtain ⟨t, ht, hq⟩ := hbody A outer s H vs Q E (hr.deeper _) hsp
  have I : Inv (cxOf CX P w K mg base N qual scope f cdv A outer s H E) [] (start N vs) H s1 := inv_start S hr.hd e0 hl r x
  refine wpAny_mono (ht [] s1 (start N vs) H _ I hq) (fun fl s' hs => ?_) fun e s' hs => hs
  have fin : ∀ {σ' : St} {H' : Hp} {v : V} {u : Value}, Inv (cxOf CX P w K mg base N qual scope f cdv A outer s H E) [] σ' H' s' → RelV v u → Q v H' → CE outer P w H s Q u s' :=
    fun {σ' H' v u} J rv q => ⟨v, H', J.os, J.bare, J.base, J.hok, rv, q⟩
  cases fl with
  | ret u =>
    obtain ⟨v, σ', H', J, rv, q⟩ := hs
    exact fin J rv q
  | next =>
    obtain ⟨σ', H', J, q⟩ := hs
    exact fin (v := V.non) (u := Value.none) J rfl q
  | brk =>
    obtain ⟨_, _, _, q⟩ := hs
    exact False.elim q
  | cont =>
    obtain ⟨_, _, _, q⟩ := hs
    exact False.elim q
end L2

namespace L2
open PySem PySem.Spec PyProof.Rows
section
variable {X : Cx} {x : Str} {p pos : Pos} {e : Expr} {es : List Expr} {t : TA} {id T : String} {r : List V → Hp → VK → Prop}

def tCB (r : List V → Hp → VK → Prop) (t : TA) : TE := fun σ H Q => t σ H fun vs H1 => r vs H1 Q
/-- f(e, ..), f a built-in function -/
theorem pe_callB (hc : CallR X (.builtin id) r) (hg : Gl X x) (hm : X.mg x = none) (hv : bootBuiltins x = some (.builtin id)) (ha : PA X (e :: es) t) (hn : x ≠ "__name__" := by decide) (hdb : (x == ("__debug__" : Str)) = false := by decide)
    (he : starEach (e :: es) X.env = (false, eval e X.env) :: starEach es X.env := by rfl) (hpl : (backTo pos (starEach es X.env)).any (·.1) = false := by rfl) : PE X (.Call (.Name x p) (e :: es) [] pos) (tCB r t) := by
  intro pins s σ H Q I h
  refine wpAny_Call_Name_kw (ld_blt I hg hm hv ?_ hn hdb)
  exact PyProof.Rows.callWith_builtin1 (thn (ha pos pins s σ H _ I h) fun us s1 ⟨vs, H1, I1, r1, q1⟩ => hc pins s1 σ H1 vs us Q I1 r1 q1) he hpl
/-- T(e, ..), T a built-in type -/
theorem pe_callTy (hc : CallR X (.type T) r) (hg : Gl X x) (hm : X.mg x = none) (hv : bootBuiltins x = some (.type T)) (ha : PA X (e :: es) t) (hn : x ≠ "__name__" := by decide) (hdb : (x == ("__debug__" : Str)) = false := by decide)
    (he : starEach (e :: es) X.env = (false, eval e X.env) :: starEach es X.env := by rfl) (hpl : (backTo pos (starEach es X.env)).any (·.1) = false := by rfl) : PE X (.Call (.Name x p) (e :: es) [] pos) (tCB r t) := by
  intro pins s σ H Q I h
  refine wpAny_Call_Name_kw (ld_blt I hg hm hv ?_ hn hdb)
  exact PyProof.Rows.callWith_type1 (thn (ha pos pins s σ H _ I h) fun us s1 ⟨vs, H1, I1, r1, q1⟩ => hc pins s1 σ H1 vs us Q I1 r1 q1) he hpl
end
end L2

namespace L2
open PySem PySem.Spec PyProof.Rows

/-! ### lists of pairs as tables -/
section
variable {κ : Type} [DecidableEq κ]
def valV (kvs : List (κ × V)) (k : κ) : Option V := (kvs.find? fun kv => decide (kv.1 = k)).map (·.2)
/-- in its place, or at the end -/
def putK (kvs : List (κ × V)) (k : κ) (v : V) : List (κ × V) :=
  if (kvs.any fun kv => decide (kv.1 = k)) = true then kvs.map (fun kv => if kv.1 = k then (kv.1, v) else kv) else kvs ++ [(k, v)]
def dropK (kvs : List (κ × V)) (k : κ) : List (κ × V) := kvs.filter fun kv => decide (kv.1 ≠ k)

theorem valV_pos {p : κ × V} {r : List (κ × V)} {k : κ} (e : p.1 = k) : valV (p :: r) k = some p.2 := by simp [valV, List.find?_cons, e]
theorem valV_neg {p : κ × V} {r : List (κ × V)} {k : κ} (e : ¬ p.1 = k) : valV (p :: r) k = valV r k := by simp [valV, List.find?_cons, e]
theorem valV_any (k : κ) : ∀ kvs : List (κ × V), (kvs.any fun kv => decide (kv.1 = k)) = (valV kvs k).isSome
  | [] => rfl
  | p :: r => by
    rw [List.any_cons]
    by_cases e : p.1 = k
    · simp only [valV_pos e, decide_eq_true e, Bool.true_or, Option.isSome_some]
    · rw [valV_neg e, decide_eq_false e, Bool.false_or]; exact valV_any k r
theorem length_putK (kvs : List (κ × V)) (k : κ) (v : V) : (putK kvs k v).length ≤ kvs.length + 1 := by
  unfold putK
  split
  · rw [List.length_map]; omega
  · rw [List.length_append, List.length_cons, List.length_nil]; omega
theorem putK_new {kvs : List (κ × V)} {k : κ} (v : V) (h : valV kvs k = none) : putK kvs k v = kvs ++ [(k, v)] := by
  unfold putK
  rw [valV_any, h]
  exact if_neg (by decide)

theorem RelO.isSome_eq {o : Option V} {u : Option Value} (r : RelO o u) : o.isSome = u.isSome := by
  cases o with
  | none => cases u with
    | none => rfl
    | some _ => exact (show False from r).elim
  | some _ => cases u with
    | none => exact (show False from r).elim
    | some _ => rfl
theorem RelO.getD {o : Option V} {u : Option Value} {d : V} {d' : Value} (r : RelO o u) (rd : RelV d d') : RelV (o.getD d) (u.getD d') := by
  cases o with
  | none => cases u with
    | none => exact rd
    | some _ => exact (show False from r).elim
  | some _ => cases u with
    | none => exact (show False from r).elim
    | some _ => exact r

/-- raw tables of the same keys -/
theorem KV.val {kvs : List (κ × V)} {vs : List (κ × Value)} (r : KV kvs vs) (k : κ) : RelO (valV kvs k) (valueAt vs k) := by
  unfold KV at r
  induction r with
  | nil => exact True.intro
  | @cons p q ps qs h t ih =>
    obtain ⟨h1, h2⟩ := h
    by_cases e : p.1 = k
    · have e' : q.1 = k := h1.symm.trans e
      have b : valueAt (q :: qs) k = some q.2 := by simp [valueAt, List.find?_cons, e']
      rw [valV_pos e, b]; exact h2
    · have e' : ¬ q.1 = k := fun z => e (h1.trans z)
      have b : valueAt (q :: qs) k = valueAt qs k := by simp [valueAt, List.find?_cons, e']
      rw [valV_neg e, b]; exact ih
theorem KV.any {kvs : List (κ × V)} {vs : List (κ × Value)} (r : KV kvs vs) (k : κ) : (kvs.any fun kv => decide (kv.1 = k)) = vs.any fun kv => decide (kv.1 = k) := by
  unfold KV at r
  induction r with
  | nil => rfl
  | cons h t ih => rw [List.any_cons, List.any_cons, ih, h.1]
theorem KV.repl {kvs : List (κ × V)} {vs : List (κ × Value)} (r : KV kvs vs) (k : κ) {y : V} {u : Value} (ry : RelV y u) :
    KV (kvs.map fun kv => if kv.1 = k then (kv.1, y) else kv) (vs.map fun kv => if kv.1 = k then (kv.1, u) else kv) := by
  unfold KV at r ⊢
  induction r with
  | nil => exact .nil
  | @cons p q ps qs h t ih =>
    rw [List.map_cons, List.map_cons]
    refine .cons ?_ ih
    obtain ⟨h1, h2⟩ := h
    by_cases e : p.1 = k
    · rw [if_pos e, if_pos (h1.symm.trans e)]; exact ⟨h1, ry⟩
    · rw [if_neg e, if_neg (fun z => e (h1.trans z))]; exact ⟨h1, h2⟩
theorem KV.put {kvs : List (κ × V)} {vs : List (κ × Value)} (r : KV kvs vs) (k : κ) {y : V} {u : Value} (ry : RelV y u) : KV (putK kvs k y) (stored vs k u) := by
  unfold putK stored
  rw [r.any k]
  by_cases e : (vs.any fun kv => decide (kv.1 = k)) = true
  · rw [if_pos e, if_pos e]; exact r.repl k ry
  · rw [if_neg e, if_neg e]; exact Paired.snoc r ⟨rfl, ry⟩
theorem KV.drop {kvs : List (κ × V)} {vs : List (κ × Value)} (r : KV kvs vs) (k : κ) : KV (dropK kvs k) (without vs k) := by
  unfold KV at r ⊢
  unfold dropK without
  induction r with
  | nil => exact .nil
  | @cons p q ps qs h t ih =>
    obtain ⟨h1, h2⟩ := h
    rw [List.filter_cons, List.filter_cons]
    by_cases e : p.1 = k
    · have a : ¬ decide (p.1 ≠ k) = true := by simp [e]
      have b : ¬ decide (q.1 ≠ k) = true := by simp [h1.symm.trans e]
      rw [if_neg a, if_neg b]; exact ih
    · have e' : ¬ q.1 = k := fun z => e (h1.trans z)
      have a : decide (p.1 ≠ k) = true := by simp [e]
      have b : decide (q.1 ≠ k) = true := by simp [e']
      rw [if_pos a, if_pos b]; exact .cons ⟨h1, h2⟩ ih
theorem KV.keys {kvs : List (κ × V)} {vs : List (κ × Value)} (r : KV kvs vs) : kvs.map (·.1) = vs.map (·.1) := by
  unfold KV at r
  induction r with
  | nil => rfl
  | cons h t ih => rw [List.map_cons, List.map_cons, ih, h.1]
theorem KV.length {kvs : List (κ × V)} {vs : List (κ × Value)} (r : KV kvs vs) : kvs.length = vs.length := Paired.length r
theorem dropK_le (kvs : List (κ × V)) (k : κ) : (dropK kvs k).length ≤ kvs.length := List.length_filter_le _ _
end


/-! ### a tracked dict, its keys ints and texts or tuples of these -/
theorem kV_is {P : Program} {w : World} {k : Key} {u : Value} (r : RelV (kV k) u) : (mixKind P w).is k u = true := by
  cases k with
  | inl i => obtain ⟨t, e⟩ := (show ∃ t, u = Value.int i t from r); subst e; exact mixKind_int P w i t
  | inr x => obtain ⟨t, e⟩ := (show ∃ t, u = Value.str x t from r); subst e; exact mixKind_str P w x t
theorem items_are {P : Program} {w : World} : ∀ {ks : List Key} {us : List Value}, Vals (ks.map kV) us → ItemsAre (mixKind P w) ks us
  | [], _, r => by rw [List.map_nil] at r; cases r; exact .nil
  | k :: ks, _, r => by
    rw [List.map_cons] at r
    cases r with
    | cons h t => exact .cons (kV_is h) (items_are t)

/-- raw entries of a dict with tuple keys -/
abbrev KT (H : Hp) : List (List Key × V) → List (List Key × Addr × Value) → Prop := Paired fun p q => p.1 = q.1 ∧ H q.2.1 = some (.tup (p.1.map kV)) ∧ RelV p.2 q.2.2
theorem KT.val {H : Hp} {kvs : List (List Key × V)} {xs : List (List Key × Addr × Value)} (r : KT H kvs xs) (k : List Key) : RelO (valV kvs k) ((atKey xs k).map (·.2)) := by
  induction r with
  | nil => exact True.intro
  | @cons p q ps qs h t ih =>
    obtain ⟨h1, _, h2⟩ := h
    by_cases e : p.1 = k
    · have e' : q.1 = k := h1.symm.trans e
      have b : atKey (q :: qs) k = some q.2 := by simp [atKey, List.find?_cons, e']
      rw [valV_pos e, b]; exact h2
    · have e' : ¬ q.1 = k := fun z => e (h1.trans z)
      have b : atKey (q :: qs) k = atKey qs k := by simp [atKey, List.find?_cons, e']
      rw [valV_neg e, b]; exact ih
theorem KT.repl {H : Hp} {kvs : List (List Key × V)} {xs : List (List Key × Addr × Value)} (r : KT H kvs xs) (k : List Key) {y : V} {u : Value} (ry : RelV y u) :
    KT H (kvs.map fun kv => if kv.1 = k then (kv.1, y) else kv) (xs.map (putAt k u)) := by
  induction r with
  | nil => exact .nil
  | @cons p q ps qs h t ih =>
    rw [List.map_cons, List.map_cons]
    refine .cons ?_ ih
    obtain ⟨h1, h2, h3⟩ := h
    unfold putAt
    by_cases e : p.1 = k
    · rw [if_pos e, if_pos (h1.symm.trans e)]; exact ⟨h1, h2, ry⟩
    · rw [if_neg e, if_neg (fun z => e (h1.trans z))]; exact ⟨h1, h2, h3⟩
theorem KT.put {H : Hp} {kvs : List (List Key × V)} {xs : List (List Key × Addr × Value)} (r : KT H kvs xs) (k : List Key) {b : Addr} {y : V} {u : Value} (hb : H b = some (.tup (k.map kV))) (ry : RelV y u) :
    KT H (putK kvs k y) (storedH xs k b u) := by
  have e : (kvs.any fun kv => decide (kv.1 = k)) = (atKey xs k).isSome := by
    rw [valV_any, (r.val k).isSome_eq, Option.isSome_map]
  unfold putK storedH
  rw [e]
  by_cases q : (atKey xs k).isSome = true
  · rw [if_pos q, if_pos q]; exact r.repl k ry
  · rw [if_neg q, if_neg q]; exact Paired.snoc r ⟨rfl, hb, ry⟩
theorem KT.keeps {H H' : Hp} {kvs : List (List Key × V)} {xs : List (List Key × Addr × Value)} (r : KT H kvs xs) (ht : ∀ b ys, H b = some (.tup ys) → H' b = some (.tup ys)) : KT H' kvs xs :=
  Paired.mapP r fun _ _ z => ⟨z.1, ht _ _ z.2.1, z.2.2⟩

section
variable {P : Program} {w : World} {H : Hp} {h : Heap} {a : Addr}
theorem rd_of {u : HO} (ok : HOk P w H h) (e : Rd H a u) : ObjOk P w H h a u := e.ok ok
theorem dk_rd {kvs : List (Key × V)} (ok : HOk P w H h) (e : Rd H a (.dK kvs)) : kvs.length ≤ sizeLine ∧ (a == sysModules) = false ∧ ∃ vs, KV kvs vs ∧ h.DictOf (mixKind P w) a vs :=
  show ObjOk P w H h a (.dK kvs) from rd_of ok e
theorem dk_of {kvs : List (Key × V)} (ok : HOk P w H h) (e : H a = some (.dK kvs)) : kvs.length ≤ sizeLine ∧ (a == sysModules) = false ∧ ∃ vs, KV kvs vs ∧ h.DictOf (mixKind P w) a vs := dk_rd ok (.inl e)
/-- a tracked tuple of ints and texts is a key -/
theorem key_of {ks : List Key} (ok : HOk P w H h) (e : H a = some (.tup (ks.map kV))) : (tupleKind (mixKind P w)).is h ks a := by
  obtain ⟨_, its, r, ⟨o, h1, h2, n, h3⟩, _⟩ := (show ObjOk P w H h a (.tup (ks.map kV)) from ok a _ e)
  exact ⟨o, its.toArray, n, h1, h2, h3, by simpa using items_are r⟩
theorem dt_rd {kvs : List (List Key × V)} (ok : HOk P w H h) (e : Rd H a (.dT kvs)) : kvs.length ≤ sizeLine ∧ (a == sysModules) = false ∧
    ∃ xs, KT H kvs xs ∧ h.DictOfH (tupleKind (mixKind P w)) a xs := by
  obtain ⟨z, y, xs, r, o, es, ep, h1, h2, h3, h4, h5⟩ := (show ObjOk P w H h a (.dT kvs) from rd_of ok e)
  refine ⟨z, y, xs, r, o, es, ep, h1, h2, h3, h4, fun x hx => ?_, h5⟩
  have all : ∀ {l : List (List Key × V)} {m : List (List Key × Addr × Value)}, KT H l m → ∀ x ∈ m, (tupleKind (mixKind P w)).is h x.1 x.2.1 := by
    intro l m q
    induction q with
    | nil => intro x hx; exact nomatch hx
    | @cons p q ps qs hq t ih =>
      intro x hx
      rcases List.mem_cons.mp hx with e | hx
      · subst e
        exact key_of ok (by rw [← hq.1]; exact hq.2.1)
      · exact ih x hx
  exact all r x hx
theorem dt_of {kvs : List (List Key × V)} (ok : HOk P w H h) (e : H a = some (.dT kvs)) : kvs.length ≤ sizeLine ∧ (a == sysModules) = false ∧
    ∃ xs, KT H kvs xs ∧ h.DictOfH (tupleKind (mixKind P w)) a xs := dt_rd ok (.inl e)
end

/-- what the dict at a holds at the key y -/
def DGet (H : Hp) (a : Addr) (y : V) (r : Option V) : Prop :=
  (∃ kvs k, Rd H a (.dK kvs) ∧ y = kV k ∧ r = valV kvs k) ∨ ∃ kvs k b, Rd H a (.dT kvs) ∧ y = .ref b ∧ H b = some (.tup (k.map kV)) ∧ r = valV kvs k
/-- the heap behind a[y] = v -/
def DPut (H : Hp) (a : Addr) (y v : V) (H' : Hp) : Prop :=
  (∃ kvs k, H a = some (.dK kvs) ∧ y = kV k ∧ kvs.length < sizeLine ∧ H' = upd H a (.dK (putK kvs k v))) ∨
  ∃ kvs k b, H a = some (.dT kvs) ∧ y = .ref b ∧ H b = some (.tup (k.map kV)) ∧ kvs.length < sizeLine ∧ H' = upd H a (.dT (putK kvs k v))
theorem DGet.k {H : Hp} {a : Addr} {kvs : List (Key × V)} {k : Key} (e : H a = some (.dK kvs)) : DGet H a (kV k) (valV kvs k) := .inl ⟨kvs, k, .inl e, rfl, rfl⟩
theorem DPut.k {H : Hp} {a : Addr} {kvs : List (Key × V)} {k : Key} {v : V} (e : H a = some (.dK kvs)) (hl : kvs.length < sizeLine) : DPut H a (kV k) v (upd H a (.dK (putK kvs k v))) := .inl ⟨kvs, k, e, rfl, hl, rfl⟩


section
variable {X : Cx} {pins : List (Addr × Obj)} {σ : St} {H : Hp} {s : Shared} {a : Addr} {y v : V} {u r : Value} {o : Option V} {A : Around} {E : Value → Shared → Prop}

theorem Inv.big (I : Inv X pins σ H s) : sysModules < s.heap.objs.size := by
  have h : mainGlobals < s.heap.objs.size := (I.mod.glob.keeps I.bk).lt
  exact Nat.lt_trans (by decide) h

/-- d[y], there -/
theorem d_getItem {Q : Value → Shared → Prop} (hu : A.units + 1 < cLine) (I : Inv X pins σ H s) (g : DGet H a y (some v)) (ry : RelV y u) (h : ∀ w' s', Inv X pins σ H s' → RelV v w' → Q w' s') :
    wpAny (model X.prog X.w) A (getItem (.ref a) u) Q E s := by
  rcases g with ⟨kvs, k, e, ey, l⟩ | ⟨kvs, k, b, e, ey, eb, l⟩
  · subst ey
    obtain ⟨z, hd, vs, rel, dd⟩ := dk_rd I.hok e
    obtain ⟨w', hw, rw'⟩ := RelO.some_of (v := v) (o := valueAt vs k) (by rw [l]; exact rel.val k)
    exact wpAny_getItem_of (kV_is ry) dd.mapOf hw (h w' _ (I.tok _) rw')
  · subst ey
    cases (show u = Value.ref b from ry)
    obtain ⟨z, hd, xs, rel, dd⟩ := dt_rd I.hok e
    obtain ⟨w', hw, rw'⟩ := RelO.some_of (v := v) (o := (atKey xs k).map (·.2)) (by rw [l]; exact rel.val k)
    obtain ⟨p, hp, hp2⟩ := Option.map_eq_some_iff.mp hw
    refine wpAny_getItem_heap (tupleKind_room_in1 hu) (key_of I.hok eb) dd hp ?_
    rw [hp2]
    exact h w' _ (I.tok _) rw'
theorem d_notIn {Q : Value → Shared → Prop} (hu : A.units + 1 < cLine) (I : Inv X pins σ H s) (g : DGet H a y o) (ry : RelV y u) (h : ∀ s', Inv X pins σ H s' → Q (.bool (!o.isSome)) s') :
    wpAny (model X.prog X.w) A (compareOp .NotIn u (.ref a)) Q E s := by
  rcases g with ⟨kvs, k, e, ey, l⟩ | ⟨kvs, k, b, e, ey, eb, l⟩
  · subst ey
    obtain ⟨z, hd, vs, rel, dd⟩ := dk_rd I.hok e
    refine wpAny_notIn_of (kV_is ry) hd dd.mapOf ?_
    rw [← (rel.val k).isSome_eq, ← l]
    exact h _ (I.tok _)
  · subst ey
    cases (show u = Value.ref b from ry)
    obtain ⟨z, hd, xs, rel, dd⟩ := dt_rd I.hok e
    refine wpAny_notIn_heap (tupleKind_room_in1 hu) (key_of I.hok eb) hd dd ?_
    have q := (rel.val k).isSome_eq
    rw [Option.isSome_map] at q
    rw [← q, ← l]
    exact h _ (I.tok _)
/-- a dict's object is replaced -/
theorem d_write {h' : Heap} {t' : Nat} {ob : HO} (I : Inv X pins σ H s) (mu : Mut (H a)) (hs : Heap.SameBut a s.heap h') (he : ∃ q, h'.get? a = some q) (new : ObjOk X.prog X.w (upd H a ob) h' a ob) :
    Inv X pins σ (upd H a ob) { s with heap := h', toks := t' } :=
  I.write (x := a) (e := a) mu (.inl rfl) (fun b q hb z => (hs.2 b hb).trans z) he new
theorem dk_new {P : Program} {w : World} {H' : Hp} {h' : Heap} {kvs : List (Key × V)} {vs : List (Key × Value)} (z : kvs.length ≤ sizeLine) (hd : (a == sysModules) = false) (rel : KV kvs vs) (dd : h'.DictOf (mixKind P w) a vs) :
    ObjOk P w H' h' a (.dK kvs) := ⟨z, hd, vs, rel, dd⟩
/-- d[y] = v -/
theorem d_setItem {H' : Hp} {Q : Unit → Shared → Prop} (hu : A.units + 1 < cLine) (I : Inv X pins σ H s) (g : DPut H a y v H') (ry : RelV y u) (rv : RelV v r) (h : ∀ s', Inv X pins σ H' s' → Q () s') :
    wpAny (model X.prog X.w) A (setItem (.ref a) u r) Q E s := by
  rcases g with ⟨kvs, k, e, ey, l, eH⟩ | ⟨kvs, k, b, e, ey, eb, l, eH⟩
  · subst ey eH
    obtain ⟨z, hd, vs, rel, dd⟩ := dk_of I.hok e
    have hz : vs.length ≤ sizeLine := by rw [← rel.length]; exact z
    have hl : (putK kvs k v).length ≤ sizeLine := by have := length_putK kvs k v; omega
    refine wpAny_setItem_pairs (hsz := hz) (kV_is ry) dd fun h' dd' hs => h _ ?_
    have he : ∃ q, h'.get? a = some q := let ⟨q, _, _, hq, _⟩ := dd'; ⟨q, hq⟩
    exact d_write I (by rw [e]; exact True.intro) hs he (dk_new hl hd (rel.put k rv) dd')
  · subst ey eH
    cases (show u = Value.ref b from ry)
    obtain ⟨z, hd, xs, rel, dd⟩ := dt_of I.hok e
    have hz : xs.length ≤ sizeLine := by rw [← Paired.length rel]; exact z
    have hl : (putK kvs k v).length ≤ sizeLine := by have := length_putK kvs k v; omega
    refine wpAny_setItem_heap (hsz := hz) (tupleKind_room_in1 hu) (key_of I.hok eb) dd fun h' dd' hs => h _ ?_
    obtain ⟨q, es, ep, hq, h2, h3, h4, _, h5⟩ := dd'
    refine d_write I (by rw [e]; exact True.intro) hs ⟨q, hq⟩ ⟨hl, hd, _, (rel.put k eb rv).keeps fun c ys ec => ?_, q, es, ep, hq, h2, h3, h4, h5⟩
    rw [upd_ne (ne_of ec e (fun z => nomatch z))]
    exact ec
end

section
variable {X : Cx} {pins : List (Addr × Obj)} {σ : St} {H : Hp} {s : Shared} {a : Addr} {kvs : List (Key × V)} {k : Key} {u : Value} {A : Around} {E : Value → Shared → Prop}
/-- del d[k] -/
theorem d_delItem {Q : Unit → Shared → Prop} (I : Inv X pins σ H s) (e : H a = some (.dK kvs)) (ry : RelV (kV k) u) (l : (valV kvs k).isSome = true) (h : ∀ s', Inv X pins σ (upd H a (.dK (dropK kvs k))) s' → Q () s') :
    wpAny (model X.prog X.w) A (delItem (.ref a) u) Q E s := by
  obtain ⟨z, hd, vs, rel, dd⟩ := dk_of I.hok e
  refine wpAny_delItem_slot dd.typeIs (by decide) PySem.F.slot_dict_delitem
    (call_meetsIn PySem.F.slot_dict_delitem dd.typeIs PySem.F.entry_dict_delitem (PySem.F.args_dict_delitem_2 _ _) (meets_dict_delitem_pairs (mixKind X.prog X.w) a (kV_is ry)) ⟨vs, dd, by rw [← rel.length]; exact z, by rw [← (rel.val k).isSome_eq]; exact l, fun h' dd' hs => h _ ?_⟩)
  have he : ∃ q, h'.get? a = some q := let ⟨q, _, _, hq, _⟩ := dd'; ⟨q, hq⟩
  exact d_write I (by rw [e]; exact True.intro) hs he (dk_new (Nat.le_trans (dropK_le kvs k) z) hd (rel.drop k) dd')
/-- d.pop(k[, x]), there -/
theorem d_pop {v : V} {more : List Value} {Q : Value → Shared → Prop} (I : Inv X pins σ H s) (e : H a = some (.dK kvs)) (ry : RelV (kV k) u) (l : valV kvs k = some v) (hm : more = [] ∨ ∃ x, more = [x])
    (h : ∀ w' s', Inv X pins σ (upd H a (.dK (dropK kvs k))) s' → RelV v w' → Q w' s') : wpAny (model X.prog X.w) A (call (.builtin "dict.pop") (.ref a :: u :: more)) Q E s := by
  obtain ⟨z, hd, vs, rel, dd⟩ := dk_of I.hok e
  obtain ⟨w', hw, rw'⟩ := RelO.some_of (v := v) (o := valueAt vs k) (by rw [← l]; exact rel.val k)
  have hp : (keyPart u).isSome = true := by
    cases k with
    | inl i => obtain ⟨t, q⟩ := (show ∃ t, u = Value.int i t from ry); subst q; rfl
    | inr x => obtain ⟨t, q⟩ := (show ∃ t, u = Value.str x t from ry); subst q; rfl
  have ha : argsOk "dict.pop" ⟨.ref a :: u :: more, []⟩ := by
    rcases hm with q | ⟨x, q⟩
    · subst q; exact PySem.F.args_dict_pop_2 _ _
    · subst q; exact PySem.F.args_dict_pop_3 _ _ _
  refine call_meetsIn PySem.F.slot_dict_pop dd.typeIs PySem.F.entry_dict_pop ha (meets_dict_pop_there (mixKind X.prog X.w) a (kV_is ry) more hm hp)
    ⟨vs, w', dd, by rw [← rel.length]; exact z, hw, fun h' dd' hs => h w' _ ?_ rw'⟩
  have he : ∃ q, h'.get? a = some q := let ⟨q, _, _, hq, _⟩ := dd'; ⟨q, hq⟩
  exact d_write I (by rw [e]; exact True.intro) hs he (dk_new (Nat.le_trans (dropK_le kvs k) z) hd (rel.drop k) dd')
end


/-! ### readings and rules -/
/-- the element of a subscription, not a slice -/
def NoSl (i : Expr) : Prop := ∀ ov iv, subscripted i false ov iv = operate [ov, iv] (getItem ov iv)
theorem subD_of {prog : Program} {w : World} {A : Around} {E : Value → Shared → Prop} {s : Shared} {env : Env} {value slice : Expr} {pos : Pos} {T id : String} {Q : Value → Shared → Prop}
    (hl : typeLookup (.type T) "__getitem__" = pure (some (.builtin id))) (hs : NoSl slice)
    (h : wpAny (model prog w) A (eval value env) (fun o s₁ => wpAny (model prog w) A (eval slice env) (fun i s₂ => s₂.TypeIs o T ∧ wpAny (model prog w) A (getItem o i) Q E s₂) E s₁) E s) :
    wpAny (model prog w) A (eval (.Subscript value slice pos) env) Q E s := by
  refine Subscript_ (wpAny_mono h (fun o s₁ h₁ => wpAny_mono h₁ (fun i s₂ h₂ => ?_) fun _ _ x => x) fun _ _ x => x)
  obtain ⟨hT, h₂⟩ := h₂
  unfold subscriptTail
  refine wpAny_bind ?_
  rw [getitemInPython_of_ne hT.not_modules]
  refine wpAny_bind (wpAny_specialOf hT hl ?_)
  have fin : wpAny (model prog w) A (subscripted slice false o i) (fun r s₃ => wpAny (model prog w) A (letTemporaryGo value o r >>= fun _ => pure r) Q E s₃) E s₂ := by
    rw [hs o i]
    exact wpAny_operating (wpAny_mono h₂ (fun r s₃ h₃ => wpAny_bind (wpAny_letTemporaryGo (wpAny_pure h₃))) fun _ _ x => x)
  first
    | exact wpAny_pure (wpAny_bind fin)
    | exact wpAny_bind (wpAny_pure (wpAny_bind fin))
    | exact wpAny_bind fin

theorem dict_typeIs {X : Cx} {pins : List (Addr × Obj)} {σ : St} {H : Hp} {s : Shared} {a : Addr} {y : V} {o : Option V} (I : Inv X pins σ H s) (g : DGet H a y o) : s.TypeIs (.ref a) "dict" := by
  rcases g with ⟨kvs, k, e, _, _⟩ | ⟨kvs, k, b, e, _, _, _⟩
  · obtain ⟨_, _, vs, _, dd⟩ := dk_rd I.hok e
    exact dd.typeIs
  · obtain ⟨_, _, xs, _, dd⟩ := dt_rd I.hok e
    exact dd.typeIs

/-- d[y] -/
def tDGet (td ty : TE) : TE := fun σ H Q => td σ H fun x H1 => ty σ H1 fun y H2 => ∃ a v, x = .ref a ∧ DGet H2 a y (some v) ∧ Q v H2
def tDNotIn (ty td : TE) : TE := fun σ H Q => ty σ H fun y H1 => td σ H1 fun x H2 => ∃ a o, x = .ref a ∧ DGet H2 a y o ∧ Q (.bl (!o.isSome)) H2
/-- d[y] = v -/
def sDPut (td ty tv : TE) : TS := fun D σ H => tv σ H fun v H1 => td σ H1 fun x H2 => ty σ H2 fun y H3 => ∃ a H4, x = .ref a ∧ DPut H3 a y v H4 ∧ D.nx σ H4

section
variable {X : Cx} {o i e value : Expr} {pos pos' tpos : Pos} {td ty tv : TE}
theorem pe_dget (hu : X.A.units + 1 < cLine) (ho : PE X o td) (hi : PE X i ty) (hs : NoSl i) : PE X (.Subscript o i pos) (tDGet td ty) := by
  intro pins s σ H Q I h
  refine subD_of PySem.F.slot_dict_getitem.lookup hs (thn (ho pins s σ H _ I h) fun u s1 ⟨x, H1, I1, rx, q1⟩ => thn (hi pins s1 σ H1 _ I1 q1) fun iv s2 ⟨y, H2, I2, ry, a, v, ex, g, q2⟩ => ?_)
  subst ex
  obtain rfl : u = Value.ref a := rx
  exact ⟨dict_typeIs I2 g, d_getItem hu I2 g ry fun w' s3 I3 rw' => ⟨v, H2, I3, rw', q2⟩⟩
theorem pc_dnotin (hu : X.A.units + 1 < cLine) (hi : PE X i ty) (ho : PE X o td) : PC X .NotIn i o (tDNotIn ty td) := by
  intro pins s σ H Q I h
  refine thn (hi pins s σ H _ I h) fun iv s1 ⟨y, H1, I1, ry, q1⟩ => thn (ho pins s1 σ H1 _ I1 q1) fun u s2 ⟨x, H2, I2, rx, a, ov, ex, g, q2⟩ => ?_
  subst ex
  obtain rfl : u = Value.ref a := rx
  exact d_notIn hu I2 g ry fun s3 I3 => ⟨.bl (!ov.isSome), H2, I3, rfl, q2⟩
theorem ps_dput (hu : X.A.units + 1 < cLine) (ho : PE X o td) (hi : PE X i ty) (hv : PE X value tv) (hs : swapsWith value (some (.Subscript o i pos')) pos.line X.env = pure false) :
    PS X (.Assign [.Subscript o i pos'] value pos) (sDPut td ty tv) := by
  intro pins s σ H D I h
  refine wpAny_Assign_Subscript (thn (hv pins s σ H _ I h) fun r s1 ⟨v, H1, I1, rv, q1⟩ => thn (ho pins s1 σ H1 _ I1 q1) fun u s2 ⟨x, H2, I2, rx, q2⟩ => thn (hi pins s2 σ H2 _ I2 q2) fun iv s3 ⟨y, H3, I3, ry, a, H4, ex, g, q3⟩ => ?_) hs
  subst ex
  obtain rfl : u = Value.ref a := rx
  exact d_setItem hu I3 g ry rv fun s4 I4 => ⟨σ, H4, I4, q3⟩
end


/-! ### displays -/
theorem dk_empty {P : Program} {w : World} {H : Hp} (h : Heap) (hb : sysModules < h.objs.size) : ObjOk P w H (h.push { cls := .type "dict", data := .dict #[] }) h.objs.size (.dK []) :=
  ⟨Nat.zero_le _, beq_eq_false_iff_ne.mpr (Ne.symm (Nat.ne_of_lt hb)), [], .nil, Heap.DictOf.new h⟩
/-- {}, to be a dict of the kind that is wanted -/
def tDNewK : TE := fun _ H Q => ∀ p, H p = none → Q (.ref p) (upd H p (.dK []))
section
variable {X : Cx} {pos : Pos}
theorem pe_dnewK : PE X (.Dict [] [] pos) tDNewK := fun pins s σ H Q I h =>
  wpAny_Dict_empty ⟨.ref s.heap.objs.size, _, I.laid (a := s.heap.objs.size) (o := .dK []) (t' := s.toks) (fun _ _ q => Heap.get?_push_of_some _ q) (Nat.le_refl _) (dk_empty s.heap I.big), rfl, h _ (I.hok.fresh (Nat.le_refl _))⟩
end

/-- the pairs of a display, from the left -/
def tPairs : List (TE × TE) → St → Hp → (List (V × V) → Hp → Prop) → Prop
  | [], _, H, Q => Q [] H
  | (tk, tv) :: r, σ, H, Q => tk σ H fun x H1 => tv σ H1 fun y H2 => tPairs r σ H2 fun ps H3 => Q ((x, y) :: ps) H3
abbrev VV : List (V × V) → List (Value × Value) → Prop := Paired fun p q => RelV p.1 q.1 ∧ RelV p.2 q.2
def PPs (X : Cx) (pos : Pos) (keys : List (Option Expr)) (values : List Expr) (trs : List (TE × TE)) : Prop :=
  ∀ (pins : List (Addr × Obj)) (s : Shared) (σ : St) (H : Hp) (Q : List (V × V) → Hp → Prop), Inv X pins σ H s → tPairs trs σ H Q →
    wpAny (model X.prog X.w) X.A (evalPairs (pairTrees keys values X.env pos)) (fun vs s' => ∃ ps H', Inv X pins σ H' s' ∧ VV ps vs ∧ Q ps H') X.xe s
theorem pps_nil {X : Cx} {pos : Pos} : PPs X pos [] [] [] := fun pins s σ H Q I h => pairTrees_nil_walk ⟨[], H, I, .nil, h⟩
theorem pps_cons {X : Cx} {pos : Pos} {k v : Expr} {ks : List (Option Expr)} {vs : List Expr} {tk tv : TE} {trs : List (TE × TE)} (hk : PE X k tk) (hv : PE X v tv) (hr : PPs X pos ks vs trs) :
    PPs X pos (some k :: ks) (v :: vs) ((tk, tv) :: trs) := fun pins s σ H Q I h =>
  pairTrees_cons_walk (thn (hk pins s σ H _ I h) fun u s1 ⟨x, H1, I1, rx, q1⟩ => thn (hv pins s1 σ H1 _ I1 q1) fun w2 s2 ⟨y, H2, I2, ry, q2⟩ =>
    thn (hr pins s2 σ H2 _ I2 q2) fun ws s3 ⟨ps, H3, I3, rel, q3⟩ => ⟨(x, y) :: ps, H3, I3, .cons ⟨rx, ry⟩ rel, q3⟩)

def mergeK (kvs more : List (Key × V)) : List (Key × V) := more.foldl (fun acc kv => putK acc kv.1 kv.2) kvs
theorem KV.merge : ∀ {more : List (Key × V)} {rs : List (Key × Value)} {kvs : List (Key × V)} {vs : List (Key × Value)}, KV more rs → KV kvs vs → KV (mergeK kvs more) (merged vs rs) := by
  intro more rs kvs vs r
  unfold KV at r
  induction r generalizing kvs vs with
  | nil => intro q; exact q
  | @cons p q ps qs h t ih =>
    intro r0
    have e : KV (putK kvs p.1 p.2) (stored vs q.1 q.2) := by
      have := r0.put p.1 h.2
      rw [← h.1]; exact this
    exact ih e
theorem length_mergeK : ∀ (more kvs : List (Key × V)), (mergeK kvs more).length ≤ kvs.length + more.length
  | [], kvs => by show kvs.length ≤ kvs.length + 0; omega
  | p :: r, kvs => by
    have h1 := length_mergeK r (putK kvs p.1 p.2)
    have h2 := length_putK kvs p.1 p.2
    show (mergeK (putK kvs p.1 p.2) r).length ≤ _
    rw [List.length_cons]; omega
theorem carries_of {P : Program} {w : World} : ∀ {kvs : List (Key × V)} {ws : List (Value × Value)}, VV (kvs.map fun kv => (kV kv.1, kv.2)) ws → ∃ rs, Carries (mixKind P w) ws rs ∧ KV kvs rs
  | [], _, r => by rw [List.map_nil] at r; cases r; exact ⟨[], True.intro, .nil⟩
  | p :: kvs, _, r => by
    rw [List.map_cons] at r
    cases r with
    | @cons a b as bs h t =>
      obtain ⟨rs, c, q⟩ := carries_of (P := P) (w := w) t
      obtain ⟨b1, b2⟩ := b
      exact ⟨(p.1, b2) :: rs, ⟨kV_is h.1, rfl, c⟩, .cons ⟨rfl, h.2⟩ q⟩
/-- {k: v, ..} with keys ints and texts; the new dict stands empty while the pairs are made -/
def tDisp (trs : List (TE × TE)) : TE := fun σ H Q => ∀ p, H p = none → tPairs trs σ (upd H p (.dK [])) fun ps H2 => H2 p = some (.dK []) ∧ ∃ kvs : List (Key × V), ps = kvs.map (fun kv => (kV kv.1, kv.2)) ∧ kvs.length ≤ 15 ∧ Q (.ref p) (upd H2 p (.dK (mergeK [] kvs)))
theorem pe_disp {X : Cx} {pos : Pos} {keys : List (Option Expr)} {values : List Expr} {trs : List (TE × TE)} (h : PPs X pos keys values trs) (hall : keys.all (·.isSome) = true) (hl : keys.length = values.length) (h0 : keys ≠ [])
    (h15 : keys.length ≤ 15) : PE X (.Dict keys values pos) (tDisp trs) := by
  intro pins s σ H Q I q
  have hn := I.hok.fresh (Nat.le_refl s.heap.objs.size)
  have I1 := I.laid (a := s.heap.objs.size) (o := .dK []) (h' := s.heap.push { cls := .type "dict", data := .dict #[] }) (t' := s.toks) (fun _ _ q => Heap.get?_push_of_some _ q) (Nat.le_refl _) (dk_empty s.heap I.big)
  refine wpAny_Dict_walk (knd := mixKind X.prog X.w) hall hl h0 h15 (thn (h pins _ σ _ _ I1 (q _ hn)) fun ws s2 ⟨ps, H2, I2, rel, e, kvs, ep, lk, q2⟩ => ?_)
  subst ep
  obtain ⟨rs, c, rk⟩ := carries_of (P := X.prog) (w := X.w) rel
  obtain ⟨z, hd, vs0, r0, dd⟩ := dk_of I2.hok e
  cases r0
  refine ⟨rs, c, dd, fun h' dd' hs => ⟨.ref s.heap.objs.size, _, ?_, rfl, q2⟩⟩
  have hz : (mergeK [] kvs).length ≤ sizeLine := by
    have h1 := length_mergeK kvs []
    rw [List.length_nil] at h1
    rw [sizeLine_eq]; omega
  have he : ∃ q, h'.get? s.heap.objs.size = some q := let ⟨q, _, _, hq, _⟩ := dd'; ⟨q, hq⟩
  exact d_write I2 (by rw [e]; exact True.intro) hs he (dk_new hz hd (rk.merge .nil) dd')


/-! ### methods -/
/-- a method call o.m(e) of a built-in, with one argument: what must be seen of the text -/
structure M1 (X : Cx) (o : Expr) (m : Str) (apos : Pos) (e : Expr) (cpos : Pos) : Prop where
  base : attributeBase o m X.env (eval o X.env) = eval o X.env
  few : ((backTo cpos (starEach [e] X.env)).all (fun x => !x.1) && (backToKw cpos (keywordEach [] X.env)).all (fun x => x.1.isSome)
    && decide (([e] : List Expr).length + ([] : List Keyword).length + (if ([] : List Keyword).isEmpty then 0 else 1) < 30)) = true
  line : (apos.endLine == cpos.line) = true
  trees : backTo cpos (starEach [e] X.env) = [(false, eval e X.env)]
structure M2 (X : Cx) (o : Expr) (m : Str) (apos : Pos) (e f : Expr) (cpos : Pos) : Prop where
  base : attributeBase o m X.env (eval o X.env) = eval o X.env
  few : ((backTo cpos (starEach [e, f] X.env)).all (fun x => !x.1) && (backToKw cpos (keywordEach [] X.env)).all (fun x => x.1.isSome)
    && decide (([e, f] : List Expr).length + ([] : List Keyword).length + (if ([] : List Keyword).isEmpty then 0 else 1) < 30)) = true
  line : (apos.endLine == cpos.line) = true
  trees : backTo cpos (starEach [e, f] X.env) = [(false, eval e X.env), (false, eval f X.env)]

/-- a is a dict, whatever its keys -/
def IsD (H : Hp) (a : Addr) : Prop := (∃ kvs, Rd H a (.dK kvs)) ∨ ∃ kvs, Rd H a (.dT kvs)
theorem isD_at {X : Cx} {pins : List (Addr × Obj)} {σ : St} {H : Hp} {s : Shared} {a : Addr} (I : Inv X pins σ H s) (d : IsD H a) :
    s.TypeIs (.ref a) "dict" ∧ (∀ b, Value.ref a = .ref b → ∃ ob, s.heap.get? b = some ob ∧ ob.dict = none) ∧ (a == sysModules) = false := by
  rcases d with ⟨kvs, e⟩ | ⟨kvs, e⟩
  · obtain ⟨_, hd, vs, _, dd⟩ := dk_rd I.hok e
    refine ⟨dd.typeIs, fun b q => ?_, hd⟩
    cases q
    obtain ⟨ob, _, _, h1, h2, _⟩ := dd
    exact ⟨ob, h1, h2.2.1⟩
  · obtain ⟨_, hd, xs, _, dd⟩ := dt_rd I.hok e
    refine ⟨dd.typeIs, fun b q => ?_, hd⟩
    cases q
    obtain ⟨ob, _, _, h1, h2, _⟩ := dd
    exact ⟨ob, h1, h2.2.1⟩

section
variable {X : Cx} {pins : List (Addr × Obj)} {σ : St} {H : Hp} {s : Shared} {a : Addr} {y d : V} {u r : Value} {o : Option V} {A : Around} {E : Value → Shared → Prop}
/-- d.get(y, x) -/
theorem d_get2 {Q : Value → Shared → Prop} (hu : A.units + 1 < cLine) (I : Inv X pins σ H s) (g : DGet H a y o) (ry : RelV y u) (rd : RelV d r) (h : ∀ w' s', Inv X pins σ H s' → RelV (o.getD d) w' → Q w' s') :
    wpAny (model X.prog X.w) A (call (.builtin "dict.get") [.ref a, u, r]) Q E s := by
  rcases g with ⟨kvs, k, e, ey, l⟩ | ⟨kvs, k, b, e, ey, eb, l⟩
  · subst ey
    obtain ⟨z, hd, vs, rel, dd⟩ := dk_rd I.hok e
    refine call_meetsIn PySem.F.slot_dict_get dd.typeIs PySem.F.entry_dict_get (PySem.F.args_dict_get_3 _ _ _) (meets_dict_get_default (mixKind X.prog X.w) a (kV_is ry) hd r) ⟨_, dd.mapOf, h _ _ (I.tok _) ?_⟩
    rw [l]
    exact (rel.val k).getD rd
  · subst ey
    cases (show u = Value.ref b from ry)
    obtain ⟨z, hd, xs, rel, dd⟩ := dt_rd I.hok e
    refine call_meetsIn PySem.F.slot_dict_get dd.typeIs PySem.F.entry_dict_get (PySem.F.args_dict_get_3 _ _ _) (meetsH_dict_get_default (tupleKind (mixKind X.prog X.w)) a b hd r) ⟨tupleKind_room_in1 hu, k, xs, key_of I.hok eb, dd, h _ _ (I.tok _) ?_⟩
    rw [l]
    exact (rel.val k).getD rd
end

def tDGet2 (td ty tx : TE) : TE := fun σ H Q => td σ H fun x H1 => ∃ a, x = .ref a ∧ IsD H1 a ∧ ty σ H1 fun y H2 => tx σ H2 fun z H3 => ∃ o, DGet H3 a y o ∧ Q (o.getD z) H3
/-- d.pop(k): there; d.pop(k, x): there or not -/
def tDPop1 (td ty : TE) : TE := fun σ H Q => td σ H fun x H1 => ∃ a, x = .ref a ∧ IsD H1 a ∧ ty σ H1 fun y H2 => ∃ kvs k v, H2 a = some (.dK kvs) ∧ y = kV k ∧ valV kvs k = some v ∧ Q v (upd H2 a (.dK (dropK kvs k)))
section
variable {X : Cx} {o e f : Expr} {apos cpos : Pos} {td ty tx : TE}
theorem pe_dget2 (hu : X.A.units + 1 < cLine) (ho : PE X o td) (he : PE X e ty) (hf : PE X f tx) (m : M2 X o "get" apos e f cpos) : PE X (.Call (.Attribute o "get" apos) [e, f] [] cpos) (tDGet2 td ty tx) := by
  intro pins s σ H Q I h
  refine wpAny_Call_method m.base m.few m.line PySem.F.plainAttrs_dict PySem.F.slot_dict_get PySem.F.type_dict_get (thn (ho pins s σ H _ I h) fun u s1 ⟨x, H1, I1, rx, a, ex, d, q1⟩ => ?_)
  subst ex
  obtain rfl : u = Value.ref a := rx
  obtain ⟨t1, t2, _⟩ := isD_at I1 d
  refine ⟨t1, t2, ?_⟩
  rw [m.trees]
  refine Calls.callWith_builtin rfl (Calls.evalArgs_plain (Calls.spliced_cons (thn (he pins s1 σ H1 _ I1 q1) fun iv s2 ⟨y, H2, I2, ry, q2⟩ =>
    Calls.spliced_cons (thn (hf pins s2 σ H2 _ I2 q2) fun fv s3 ⟨z, H3, I3, rz, ov, g, q3⟩ => Calls.spliced_nil ?_))))
  exact d_get2 hu I3 g ry rz fun w' s4 I4 rw' => ⟨_, H3, I4, rw', q3⟩
theorem pe_dpop1 (ho : PE X o td) (he : PE X e ty) (m : M1 X o "pop" apos e cpos) : PE X (.Call (.Attribute o "pop" apos) [e] [] cpos) (tDPop1 td ty) := by
  intro pins s σ H Q I h
  refine wpAny_Call_method m.base m.few m.line PySem.F.plainAttrs_dict PySem.F.slot_dict_pop PySem.F.type_dict_pop (thn (ho pins s σ H _ I h) fun u s1 ⟨x, H1, I1, rx, a, ex, d, q1⟩ => ?_)
  subst ex
  obtain rfl : u = Value.ref a := rx
  obtain ⟨t1, t2, _⟩ := isD_at I1 d
  refine ⟨t1, t2, ?_⟩
  rw [m.trees]
  refine Calls.callWith_builtin rfl (Calls.evalArgs_plain (Calls.spliced_cons (thn (he pins s1 σ H1 _ I1 q1) fun iv s2 ⟨y, H2, I2, ry, kvs, k, v, ea, ey, l, q2⟩ => Calls.spliced_nil ?_)))
  subst ey
  exact d_pop I2 ea ry l (.inl rfl) fun w' s3 I3 rw' => ⟨v, _, I3, rw', q2⟩
end

/-! ### dict(d): a copy -/
section
variable {X : Cx} {pins : List (Addr × Obj)} {σ : St} {H : Hp} {s : Shared} {a : Addr} {kvs : List (Key × V)} {A : Around} {E : Value → Shared → Prop}
end


section
variable {X : Cx} {pins : List (Addr × Obj)} {σ : St} {H : Hp} {s : Shared} {a : Addr} {y : V} {u : Value} {A : Around} {E : Value → Shared → Prop}
end
end L2

namespace HT
open PySem PyProof.Rows



section
open PySem.SeqAt
open PySem.AutoSeq1 (wpAny_loadPart')
open PySem.MeetsSeq PySem.MeetsSeq2 PySem.MeetsSeq3

end

section
variable {prog : Program} {w : World} {A : Around} {E : Value → Shared → Prop} {s : Shared}



/-! ### t[a:b], not the whole -/
/-- a slice's bound as a place among n (d where it is left out) -/
def sIx (n d : Nat) : Option Int → Nat
  | none => d
  | some v => if v < 0 then (v + (n : Int)).toNat else min v.toNat n

end
end HT

namespace L2
open PySem PySem.Spec PyProof.Rows

/-! ### the parts of a slice -/
abbrev TO := St → Hp → (Option Int → Hp → Prop) → Prop
/-- a slice's part (left out, or an int) -/
def PO (X : Cx) (e : Option Expr) (t : TO) : Prop :=
  ∀ (pins : List (Addr × Obj)) (s : Shared) (σ : St) (H : Hp) (Q : Option Int → Hp → Prop), Inv X pins σ H s → t σ H Q →
    wpAny (model X.prog X.w) X.A (evalPart e X.env) (fun u s' => ∃ o H', Inv X pins σ H' s' ∧ IsPart u o ∧ Q o H') X.xe s
def tNoPart : TO := fun _ H Q => Q none H
def tPart (t : TE) : TO := fun σ H Q => t σ H fun x H1 => ∃ i, x = .int i ∧ Q (some i) H1


section
variable {X : Cx} {e : Expr} {te : TE} {lo hi : Option Expr} {tl th : TO} {pos p2 : Pos}

theorem po_none : PO X none tNoPart := by
  intro pins s σ H Q I h
  rw [evalPart_none]
  exact wpAny_pure ⟨none, H, I, .none, h⟩
theorem po_some (h : PE X e te) : PO X (some e) (tPart te) := by
  intro pins s σ H Q I hw
  rw [evalPart_some]
  refine thn (h pins s σ H _ I hw) fun u s1 ⟨x, H1, I1, r1, q1⟩ => ?_
  obtain ⟨i, rfl, q⟩ := q1
  obtain ⟨t, rfl⟩ := r1
  exact ⟨some i, H1, I1, .int i t, q⟩

/-- what a slice of a value is, by values: the slice object stands at sl -/
def SlR (X : Cx) (r : V → Option Int → Option Int → Hp → VK → Prop) : Prop :=
  ∀ (pins : List (Addr × Obj)) (s : Shared) (σ : St) (H : Hp) (x : V) (v vl vu : Value) (lo hi : Option Int) (sl : Addr) (Q : VK), Inv X pins σ H s → RelV x v → s.heap.IsSliceOf sl vl vu .none → IsPart vl lo → IsPart vu hi → r x lo hi H Q →
    ∃ T id, typeLookup (.type T) "__getitem__" = pure (some (.builtin id)) ∧ s.TypeIs v T ∧ wpAny (model X.prog X.w) X.A (getItem v (.ref sl)) (EP X pins σ Q) X.xe s
theorem SlR.or {r r' : V → Option Int → Option Int → Hp → VK → Prop} (h : SlR X r) (h' : SlR X r') : SlR X (fun x lo hi H Q => r x lo hi H Q ∨ r' x lo hi H Q) := by
  intro pins s σ H x v vl vu lo hi sl Q I rx hs pl pu q
  rcases q with q | q
  · exact h pins s σ H x v vl vu lo hi sl Q I rx hs pl pu q
  · exact h' pins s σ H x v vl vu lo hi sl Q I rx hs pl pu q
def tSl (r : V → Option Int → Option Int → Hp → VK → Prop) (te : TE) (tl th : TO) : TE := fun σ H Q => te σ H fun x H1 => tl σ H1 fun l H2 => th σ H2 fun u H3 => r x l u H3 Q
/-- a[lo:hi], any a -/
theorem pe_slice {r : V → Option Int → Option Int → Hp → VK → Prop} (hr : SlR X r) (he : PE X e te) (hl : PO X lo tl) (hu : PO X hi th) : PE X (.Subscript e (.Slice lo hi none p2) pos) (tSl r te tl th) := by
  intro pins s σ H Q I h
  refine Subscript_ (thn (he pins s σ H _ I h) fun v s1 ⟨x, H1, I1, r1, q1⟩ => ?_)
  refine wpAny_Slice (thn (hl pins s1 σ H1 _ I1 q1) fun vl s2 ⟨l, H2, I2, pl, q2⟩ => thn (hu pins s2 σ H2 _ I2 q2) fun vu s3 ⟨u, H3, I3, pu, q3⟩ => ?_)
  rw [evalPart_none]
  refine wpAny_pure ?_
  have I4 : Inv X pins σ H3 { s3 with heap := s3.heap.push { cls := .type "slice", data := .fields #[vl, vu, .none] } } := I3.kept (t' := s3.toks) fun b ob q => Heap.get?_push_of_some _ q
  obtain ⟨T, id, hT, ht, hg⟩ := hr pins { s3 with heap := s3.heap.push { cls := .type "slice", data := .fields #[vl, vu, .none] } } σ H3 x v vl vu l u s3.heap.objs.size Q I4 r1 (Heap.IsSliceOf.new ..) pl pu q3
  show wpAny (model X.prog X.w) X.A (subscriptTail e (.Slice lo hi none p2) v (.ref s3.heap.objs.size)) (EP X pins σ Q) X.xe { s3 with heap := s3.heap.push { cls := .type "slice", data := .fields #[vl, vu, .none] } }
  exact tail_any (ops := [.ref s3.heap.objs.size, v]) ht hT hg (by with_unfolding_all rfl)

/-- the items of xs[lo:hi] -/
def cutV (xs : List V) (lo hi : Option Int) : List V := (xs.drop (HT.sIx xs.length 0 lo)).take (HT.sIx xs.length xs.length hi - HT.sIx xs.length 0 lo)
theorem cutV_length (xs : List V) (lo hi : Option Int) : (cutV xs lo hi).length ≤ xs.length := by
  unfold cutV
  rw [List.length_take, List.length_drop]
  omega

/-! ### t < u, t + u -/
end
end L2

namespace L2
open PySem PySem.Spec PyProof.Rows

/-! ### places -/
/-- the place that an index of any sign means -/
def ixN (n : Nat) (i : Int) : Option Nat := if 0 ≤ i then (if i < n then some i.toNat else none) else if -(n : Int) ≤ i then some (i + n).toNat else none
def atI {α : Type} (xs : List α) (i : Int) : Option α := (ixN xs.length i).bind fun j => xs[j]?
theorem ixN_seq {n : Nat} {i : Int} {j : Nat} (h : ixN n i = some j) : seqIndex? i n = some j ∧ j < n ∧ -(n : Int) ≤ i ∧ i < n := by
  unfold ixN at h
  by_cases h0 : 0 ≤ i
  · rw [if_pos h0] at h
    by_cases h1 : i < n
    · rw [if_pos h1] at h
      have e : i.toNat = j := Option.some.inj h
      exact ⟨by rw [seqIndex_of h0 h1, e], by omega, by omega, h1⟩
    · rw [if_neg h1] at h; cases h
  · rw [if_neg h0] at h
    by_cases h1 : -(n : Int) ≤ i
    · rw [if_pos h1] at h
      have e : (i + n).toNat = j := Option.some.inj h
      exact ⟨by rw [seqIndex_neg (by omega) h1, e], by omega, h1, by omega⟩
    · rw [if_neg h1] at h; cases h
theorem atI_get {α : Type} {xs : List α} {i : Int} {v : α} (h : atI xs i = some v) : ∃ j, seqIndex? i xs.length = some j ∧ xs[j]? = some v ∧ j < xs.length ∧ -(xs.length : Int) ≤ i ∧ i < xs.length := by
  unfold atI at h
  cases e : ixN xs.length i with
  | none => rw [e] at h; cases h
  | some j =>
    rw [e] at h
    obtain ⟨h1, h2, h3, h4⟩ := ixN_seq e
    exact ⟨j, h1, h, h2, h3, h4⟩
theorem atI_nat {α : Type} {xs : List α} {j : Nat} {v : α} (h : xs[j]? = some v) : atI xs (j : Int) = some v := by
  have hj : j < xs.length := (List.getElem?_eq_some_iff.mp h).1
  have e : ixN xs.length (j : Int) = some j := by
    unfold ixN
    rw [if_pos (by omega), if_pos (by omega)]; simp
  unfold atI; rw [e]; exact h

/-! ### what may be subscripted -/
/-- what stands as an index of a plain subscript -/
def PlainIx (b : Expr) : Prop := ∀ o i, subscripted b false o i = operate [o, i] (getItem o i)
/-- a subscript by values -/
def IxR (X : Cx) (r : R2) : Prop :=
  ∀ (value slice : Expr) (pins : List (Addr × Obj)) (s : Shared) (σ : St) (H : Hp) (x y : V) (v u : Value) (Q : VK), Inv X pins σ H s → RelV x v → RelV y u → r x y H Q →
    subscripted slice false v u = operate [v, u] (getItem v u) → wpAny (model X.prog X.w) X.A (subscriptTail value slice v u) (EP X pins σ Q) X.xe s
/-- a call of a builtin's method by values: the receiver, the arguments -/
def MtR (X : Cx) (id : String) (r : V → List V → Hp → VK → Prop) : Prop :=
  ∀ (pins : List (Addr × Obj)) (s : Shared) (σ : St) (H : Hp) (x : V) (xs : List V) (v : Value) (us : List Value) (Q : VK), Inv X pins σ H s → RelV x v → Vals xs us → r x xs H Q →
    wpAny (model X.prog X.w) X.A (call (.builtin id) (v :: us)) (EP X pins σ Q) X.xe s
section
variable {X : Cx} {a b : Expr} {ta tb : TE} {pos : Pos}
theorem IxR.or {r r' : R2} (h : IxR X r) (h' : IxR X r') : IxR X (fun x y H Q => r x y H Q ∨ r' x y H Q) := by
  intro value slice pins s σ H x y v u Q I rx ry q hs
  rcases q with q | q
  · exact h value slice pins s σ H x y v u Q I rx ry q hs
  · exact h' value slice pins s σ H x y v u Q I rx ry q hs
theorem MtR.or {id : String} {r r' : V → List V → Hp → VK → Prop} (h : MtR X id r) (h' : MtR X id r') : MtR X id (fun x xs H Q => r x xs H Q ∨ r' x xs H Q) := by
  intro pins s σ H x xs v us Q I rx rs q
  rcases q with q | q
  · exact h pins s σ H x xs v us Q I rx rs q
  · exact h' pins s σ H x xs v us Q I rx rs q
/-- a[b] -/
theorem pe_ix {r : R2} (hr : IxR X r) (ha : PE X a ta) (hb : PE X b tb) (hs : PlainIx b) : PE X (.Subscript a b pos) (tOp r ta tb) := by
  intro pins s σ H Q I h
  exact Subscript_ (binT ha hb I h fun v u s2 x y H2 I2 rx ry q => hr a b pins s2 σ H2 x y v u Q I2 rx ry q (hs _ _))

def rIxL (K : PySem.W.Frag) : R2 := fun x y H Q => ∃ p xs i v, x = .ref p ∧ y = .int i ∧ SqL K H p xs ∧ atI xs i = some v ∧ Q v H
def rIxT (K : PySem.W.Frag) : R2 := fun x y H Q => ∃ p xs i v, x = .ref p ∧ y = .int i ∧ SqT K H p xs ∧ atI xs i = some v ∧ Q v H
def rIxS : R2 := fun x y H Q => ∃ z i c, x = .str z ∧ y = .int i ∧ z.length ≤ sizeLine ∧ atI z.cps.toList i = some c ∧ Q (.str ⟨#[c]⟩) H
theorem ix_list : IxR X (rIxL X.K) := by
  intro value slice pins s σ H x y v u Q I rx ry h hs
  obtain ⟨p, xs, i, z, rfl, rfl, hq, he, q⟩ := h
  cases rx
  obtain ⟨t, rfl⟩ := ry
  obtain ⟨its, r, pl, hz⟩ := I.list hq
  obtain ⟨j, h1, h2, h3, h4, h5⟩ := atI_get he
  obtain ⟨w, ew, rw'⟩ := r.get h2
  have hl := r.length
  have hn := line63
  have fin : EP X pins σ Q w s := ⟨z, H, I, rw', q⟩
  by_cases h0 : 0 ≤ i
  · have hj : i.toNat = j := by
      rw [seqIndex_of h0 h5] at h1
      exact Option.some.inj h1
    exact item_listR pl.isList h0 (by omega) (by rw [hj]; simpa using ew) fin hs
  · have hj : (i + (its.toArray.size : Int)).toNat = j := by
      rw [seqIndex_neg (by omega) h4] at h1
      rw [List.size_toArray, ← hl]
      exact Option.some.inj h1
    exact subscriptTail_builtinR (x := w) pl.isList.typeIs slot_list_getitem.lookup
      (wpAny_getItem_list_neg (Q := fun r s' => r = w ∧ EP X pins σ Q r s') pl.isList (by omega) (by rw [List.size_toArray] <;> omega) (by omega) (by rw [hj]; simpa using ew) ⟨rfl, fin⟩) hs
theorem ix_tup : IxR X (rIxT X.K) := by
  intro value slice pins s σ H x y v u Q I rx ry h hs
  obtain ⟨p, xs, i, z, rfl, rfl, hq, he, q⟩ := h
  cases rx
  obtain ⟨t, rfl⟩ := ry
  obtain ⟨its, r, pl, hz⟩ := I.tuple hq
  obtain ⟨j, h1, h2, h3, h4, h5⟩ := atI_get he
  obtain ⟨w, ew, rw'⟩ := r.get h2
  have hl := r.length
  have hn := line63
  have fin : EP X pins σ Q w s := ⟨z, H, I, rw', q⟩
  exact subscriptTail_builtinR (x := w) pl.typeIs slot_tuple_getitem.lookup
    (getItem_tuple (j := j) (Q := fun r s' => r = w ∧ EP X pins σ Q r s') pl (by omega) (by omega) (by rw [List.size_toArray, ← hl]; exact h1) (by simpa using ew) ⟨rfl, fin⟩) hs
theorem ix_str : IxR X rIxS := by
  intro value slice pins s σ H x y v u Q I rx ry h hs
  obtain ⟨z, i, c, rfl, rfl, hz, he, q⟩ := h
  obtain ⟨t, rfl⟩ := rx
  obtain ⟨t', rfl⟩ := ry
  obtain ⟨j, h1, h2, h3, h4, h5⟩ := atI_get he
  have hl : z.cps.toList.length = z.length := by simp [Str.length]
  rw [hl] at h1 h4 h5
  have hn := line63
  exact tail_any (typeIs_str s z t) slot_str_getitem.lookup (getItem_str (c := c) (by
    have e1 : decide (i < -(2 ^ 63 : Int)) = false := decide_eq_false (by omega)
    have e2 : decide (i ≥ 2 ^ 63) = false := decide_eq_false (by omega)
    rw [e1, e2, Bool.or_false]) (by rw [h1]; simpa using h2) ⟨.str ⟨#[c]⟩, H, I.tok _, ⟨_, rfl⟩, q⟩) hs
/-- list, tuple or str -/
def rIx (K : PySem.W.Frag) : R2 := fun x y H Q => rIxL K x y H Q ∨ rIxT K x y H Q ∨ rIxS x y H Q
theorem ix_seq : IxR X (rIx X.K) := ix_list.or (ix_tup.or ix_str)

/-! ### xs[i] = v, any sign -/
theorem Inv.lst {pins : List (Addr × Obj)} {σ : St} {H : Hp} {s : Shared} {p : Addr} {xs : List V} (I : Inv X pins σ H s) (h : H p = some (.lst xs)) :
    ∃ (its : List Value) (n : Nat), Vals xs its ∧ s.heap.get? p = some { cls := .type "list", data := .seq its.toArray n } ∧ xs.length ≤ sizeLine := by
  obtain ⟨z, its, n, r, e⟩ := I.hok p _ h
  exact ⟨its, n, r, e, z⟩

/-! ### slices -/
theorem slice_bounds (lo hi : Option Int) (n : Nat) : (sliceBounds lo hi none n).1 = ((HT.sIx n 0 lo : Nat) : Int) ∧ (sliceBounds lo hi none n).2.1 = ((HT.sIx n n hi : Nat) : Int) ∧ (sliceBounds lo hi none n).2.2 = 1 := by
  refine ⟨?_, ?_, rfl⟩
  · cases lo with
    | none => simp [sliceBounds, HT.sIx]
    | some i =>
      simp only [sliceBounds, HT.sIx, Option.getD_none, show (1 : Int) > 0 by decide, if_true]
      by_cases h : i < 0
      · simp only [h, if_true] <;> omega
      · simp only [h, if_false] <;> omega
  · cases hi with
    | none => simp [sliceBounds, HT.sIx]
    | some i =>
      simp only [sliceBounds, HT.sIx, Option.getD_none, show (1 : Int) > 0 by decide, if_true]
      by_cases h : i < 0
      · simp only [h, if_true] <;> omega
      · simp only [h, if_false] <;> omega
theorem slicePick_cut (its : List Value) (lo hi : Option Int) : slicePick its.toArray lo hi none = ((its.drop (HT.sIx its.length 0 lo)).take (HT.sIx its.length its.length hi - HT.sIx its.length 0 lo)).toArray := by
  obtain ⟨h1, h2, h3⟩ := slice_bounds lo hi its.toArray.size
  unfold slicePick
  rw [h1, h2, h3]
  simp only [sliceRange_one, pick_run, List.size_toArray] <;> rfl
/-- xs[lo:hi] of a list: a new list -/
def rSlL (K : PySem.W.Frag) : V → Option Int → Option Int → Hp → VK → Prop := fun x lo hi H Q => ∃ a xs, x = .ref a ∧ SqL K H a xs ∧ ∀ p, H p = none → Q (.ref p) (upd H p (.lst (cutV xs lo hi)))
theorem sl_list : SlR X (rSlL X.K) := by
  intro pins s σ H x v vl vu lo hi sl Q I rx hs pl pu h
  obtain ⟨a, xs, rfl, hx, q⟩ := h
  cases rx
  obtain ⟨its, r, ht, hz⟩ := I.list hx
  have hlen := r.length
  refine ⟨"list", _, slot_list_getitem.lookup, ht.isList.typeIs, ?_⟩
  refine wpAny_getItem_list_slice ht.isList hs pl pu .none (by simp) ?_ (by rw [List.size_toArray] <;> omega)
  rw [slicePick_cut, ← hlen]
  refine ⟨.ref s.heap.objs.size, _, I.laid (t' := s.toks) (o := .lst (cutV xs lo hi)) (fun b ob q => Heap.get?_push_of_some _ q) (Nat.le_refl _) ?_, rfl, q _ (I.hok.fresh (Nat.le_refl _))⟩
  exact ⟨Nat.le_trans (cutV_length xs lo hi) hz, _, 0, (r.drop (HT.sIx xs.length 0 lo)).take (HT.sIx xs.length xs.length hi - HT.sIx xs.length 0 lo), Heap.get?_push_size _ rfl⟩

/-! ### in, not in: flat items -/
def flatV : V → Bool
  | .non => true
  | .bl _ => true
  | .int _ => true
  | .str _ => true
  | _ => false
/-- == of flat values -/
def eqV : V → V → Bool
  | .non, .non => true
  | .bl a, .bl b => a == b
  | .bl a, .int b => (if a then 1 else 0) == b
  | .int a, .bl b => a == (if b then 1 else 0)
  | .int a, .int b => a == b
  | .str a, .str b => a == b
  | _, _ => false
theorem eqAt_V {A : Around} {s : Shared} {y x : V} {u v : Value} (ry : RelV y u) (rx : RelV x v) (fy : flatV y = true) (fx : flatV x = true) : SeqAt.EqAt A s u v (eqV y x) := by
  cases y with
  | non =>
    cases ry
    cases x with
    | non => cases rx; exact SeqAt.EqAt.same _
    | bl b => cases rx; exact SeqAt.EqAt.none_bool b
    | int b => obtain ⟨t, rfl⟩ := rx; exact SeqAt.EqAt.none_int b t
    | str b => obtain ⟨t, rfl⟩ := rx; exact SeqAt.EqAt.none_str b t
    | _ => exact absurd (show false = true from fx) Bool.false_ne_true
  | bl a =>
    cases ry
    cases x with
    | non => cases rx; exact SeqAt.EqAt.bool_none a
    | bl b => cases rx; exact SeqAt.EqAt.bool_bool a b
    | int b => obtain ⟨t, rfl⟩ := rx; exact SeqAt.EqAt.bool_int a b t
    | str b => obtain ⟨t, rfl⟩ := rx; exact SeqAt.EqAt.bool_str a b t
    | _ => exact absurd (show false = true from fx) Bool.false_ne_true
  | int a =>
    obtain ⟨t', rfl⟩ := ry
    cases x with
    | non => cases rx; exact SeqAt.EqAt.int_none a t'
    | bl b => cases rx; exact SeqAt.EqAt.int_bool a t' b
    | int b => obtain ⟨t, rfl⟩ := rx; exact SeqAt.EqAt.int_int a t' b t
    | str b => obtain ⟨t, rfl⟩ := rx; exact SeqAt.EqAt.int_str a t' b t
    | _ => exact absurd (show false = true from fx) Bool.false_ne_true
  | str a =>
    obtain ⟨t', rfl⟩ := ry
    cases x with
    | non => cases rx; exact SeqAt.EqAt.str_none a t'
    | bl b => cases rx; exact SeqAt.EqAt.str_bool a t' b
    | int b => obtain ⟨t, rfl⟩ := rx; exact SeqAt.EqAt.str_int a t' b t
    | str b => obtain ⟨t, rfl⟩ := rx; exact SeqAt.EqAt.str_str a t' b t
    | _ => exact absurd (show false = true from fx) Bool.false_ne_true
  | _ => exact absurd (show false = true from fy) Bool.false_ne_true
/-- the items' answers, read off the values (a value's own answer does not lean on its token) -/
def eqU (x : V) (u : Value) : Bool := match u with
  | .none => eqV .non x
  | .bool b => eqV (.bl b) x
  | .int i _ => eqV (.int i) x
  | .str z _ => eqV (.str z) x
  | _ => false
theorem eqU_of {x y : V} {u : Value} (r : RelV y u) (f : flatV y = true) : eqU x u = eqV y x := by
  cases y with
  | non => cases r; rfl
  | bl b => cases r; rfl
  | int i => obtain ⟨t, rfl⟩ := r; rfl
  | str z => obtain ⟨t, rfl⟩ := r; rfl
  | _ => exact absurd (show false = true from f) Bool.false_ne_true
theorem any_eqU {x : V} : ∀ {xs : List V} {us : List Value}, Vals xs us → xs.all flatV = true → us.any (eqU x) = xs.any fun y => eqV y x
  | _, _, .nil, _ => rfl
  | y :: xs, u :: us, .cons r t, f => by
    rw [List.all_cons, Bool.and_eq_true] at f
    rw [List.any_cons, List.any_cons, eqU_of r f.1, any_eqU t f.2]
theorem mem_eqAt {A : Around} {s : Shared} {x : V} {v : Value} (rx : RelV x v) (fx : flatV x = true) : ∀ {xs : List V} {us : List Value}, Vals xs us → xs.all flatV = true → ∀ u ∈ us, SeqAt.EqAt A s u v (eqU x u)
  | _, _, .nil, _ => fun u hu => by cases hu
  | y :: xs, u :: us, .cons r t, f => fun u' hu => by
    rw [List.all_cons, Bool.and_eq_true] at f
    rcases List.mem_cons.mp hu with rfl | hu
    · rw [eqU_of r f.1]; exact eqAt_V r rx f.1 fx
    · exact mem_eqAt rx fx t f.2 u' hu
def inV (x : V) (xs : List V) : Bool := xs.any fun y => eqV y x
/-- x in a list or tuple of flat items -/
def rIn (K : PySem.W.Frag) (neg : Bool) : R2 := fun x y H Q => ∃ p xs, y = .ref p ∧ (SqL K H p xs ∨ SqT K H p xs) ∧ flatV x = true ∧ xs.all flatV = true ∧ Q (.bl (if neg then !inV x xs else inV x xs)) H
theorem op_notIn_seq : OpR X (compareOp .NotIn) (rIn X.K true) := by
  intro pins s σ H x y v u Q I rx ry h
  obtain ⟨p, xs, rfl, hq, fx, fs, q⟩ := h
  cases ry
  rcases hq with hq | hq
  · obtain ⟨its, r, pl, hz⟩ := I.list hq
    refine SeqAt.notIn_listAt (eqU x) pl.isList (fun w hw => mem_eqAt rx fx r fs w (by simpa using hw)) ⟨.bl _, H, I, rfl, ?_⟩
    rw [show its.toArray.any (eqU x) = its.any (eqU x) by simp, any_eqU r fs]
    exact q
  · obtain ⟨its, r, pl, hz⟩ := I.tuple hq
    refine SeqAt.notIn_tupleAt (eqU x) pl (fun w hw => mem_eqAt rx fx r fs w (by simpa using hw)) ⟨.bl _, H, I, rfl, ?_⟩
    rw [show its.toArray.any (eqU x) = its.any (eqU x) by simp, any_eqU r fs]
    exact q

/-! ### len, list(x), tuple(x) of any list or tuple that is read -/
theorem CallR.or {f : Value} {r r' : List V → Hp → VK → Prop} (h : CallR X f r) (h' : CallR X f r') : CallR X f (fun xs H Q => r xs H Q ∨ r' xs H Q) := by
  intro pins s σ H xs us Q I rs q
  rcases q with q | q
  · exact h pins s σ H xs us Q I rs q
  · exact h' pins s σ H xs us Q I rs q
theorem call_list_of : CallR X (.type "list") (fun xs H Q => ∃ p ys, xs = [.ref p] ∧ (SqL X.K H p ys ∨ SqT X.K H p ys) ∧ ∀ l, H l = none → Q (.ref l) (upd H l (.lst ys))) := by
  intro pins s σ H xs us Q I r h
  obtain ⟨p, ys, rfl, hq, q⟩ := h
  obtain ⟨u, rfl, rx⟩ := vals1 r
  cases rx
  have fin : ∀ (its : List Value), Vals ys its → ys.length ≤ sizeLine → ∀ (h' : Heap) (c' : Nat), (∀ b o', s.heap.get? b = some o' → h'.get? b = some o') →
      h'.get? s.heap.objs.size = some { cls := .type "list", dict := none, data := .seq its.toArray c', slots := #[] } → EP X pins σ Q (.ref s.heap.objs.size) { s with heap := h' } := fun its r' hz h' c' kp e =>
    ⟨.ref s.heap.objs.size, _, I.laid (t' := s.toks) kp (Nat.le_refl _) (show ObjOk X.prog X.w _ h' _ (.lst ys) from ⟨hz, its, c', r', e⟩), rfl, q _ (I.hok.fresh (Nat.le_refl _))⟩
  rcases hq with hq | hq
  · obtain ⟨its, r', pl, hz⟩ := I.list hq
    have hlen := r'.length
    obtain ⟨o, ho, hc, n, hd⟩ := pl.isList
    exact call_list_seq p (.inl rfl) ho hc hd (fun h' c' kp e => fin its r' hz h' c' kp e) (by simp only [List.size_toArray] <;> omega)
  · obtain ⟨its, r', pl, hz⟩ := I.tuple hq
    have hlen := r'.length
    obtain ⟨o, ho, hc, n, hd⟩ := pl
    exact call_list_seq p (.inr rfl) ho hc hd (fun h' c' kp e => fin its r' hz h' c' kp e) (by simp only [List.size_toArray] <;> omega)
theorem call_tuple_of : CallR X (.type "tuple") (fun xs H Q => ∃ p ys, xs = [.ref p] ∧ ((SqL X.K H p ys ∧ ∀ l, H l = none → Q (.ref l) (upd H l (.tup ys))) ∨ (SqT X.K H p ys ∧ Q (.ref p) H))) := by
  intro pins s σ H xs us Q I r h
  obtain ⟨p, ys, rfl, h⟩ := h
  obtain ⟨u, rfl, rx⟩ := vals1 r
  cases rx
  rcases h with ⟨hq, q⟩ | ⟨hq, q⟩
  · obtain ⟨its, r', pl, hz⟩ := I.list hq
    have hlen := r'.length
    refine call_tuple_list pl.isList (fun h' kp => ?_) (by simp only [List.size_toArray] <;> omega)
    have I1 : Inv X pins σ H { s with heap := h' } := I.kept (t' := s.toks) kp
    have I2 : Inv X pins σ (upd H h'.objs.size (.tup ys)) { s with heap := h'.push { cls := .type "tuple", data := .seq its.toArray } } :=
      I1.laid (t' := s.toks) (fun b o e => Heap.get?_push_of_some _ e) (Nat.le_refl _) (show ObjOk X.prog X.w _ _ _ (.tup ys) from ⟨hz, its, r', IsTup.new _ _, noD_push rfl rfl⟩)
    exact ⟨.ref h'.objs.size, _, I2, rfl, q _ (I1.hok.fresh (Nat.le_refl _))⟩
  · obtain ⟨its, r', pl, hz⟩ := I.tuple hq
    exact call_tuple_same pl ⟨.ref p, H, I, rfl, q⟩

/-! ### the call of a builtin's method: o.m(..) -/
/-- the value is of that builtin type -/
def tyV (K : PySem.W.Frag) (T : String) (x : V) (H : Hp) : Prop := match x with
  | .str _ => T = "str"
  | .int _ => T = "int"
  | .ref p => (T = "list" ∧ ∃ xs, SqL K H p xs) ∨ (T = "tuple" ∧ ∃ o, K.lookup p = some o ∧ o.cls = .type "tuple" ∧ o.dict = none) ∨
      (T = "dict" ∧ ((∃ kvs, H p = some (.dK kvs)) ∨ ∃ kvs, H p = some (.dT kvs))) ∨ (T = "set" ∧ ∃ S n, H p = some (.set S n))
  | _ => False
theorem tyV_is {pins : List (Addr × Obj)} {σ : St} {H : Hp} {s : Shared} {T : String} {x : V} {v : Value} (I : Inv X pins σ H s) (r : RelV x v) (ty : tyV X.K T x H) :
    s.TypeIs v T ∧ ∀ a, v = .ref a → ∃ ob, s.heap.get? a = some ob ∧ ob.dict = none := by
  cases x with
  | str z =>
    obtain ⟨t, rfl⟩ := r
    cases (show T = "str" from ty)
    exact ⟨typeIs_str s z t, fun _ e => nomatch e⟩
  | int i =>
    obtain ⟨t, rfl⟩ := r
    cases (show T = "int" from ty)
    exact ⟨typeIs_int s i t, fun _ e => nomatch e⟩
  | ref p =>
    cases r
    rcases ty with ⟨rfl, xs, hq⟩ | ⟨rfl, o, hk, hc, hd⟩ | ⟨rfl, hk⟩ | ⟨rfl, S, n, hk⟩
    · obtain ⟨its, _, pl, _⟩ := I.list hq
      refine ⟨pl.isList.typeIs, fun a e => ?_⟩
      cases e
      obtain ⟨o, n, e, c, hd, _⟩ := pl
      exact ⟨o, e, hd⟩
    · refine ⟨⟨o, I.kIn p o hk, hc⟩, fun a e => ?_⟩
      cases e
      exact ⟨o, I.kIn _ o hk, hd⟩
    · have z : ∃ o, s.heap.get? p = some o ∧ o.ExactDict := by
        rcases hk with ⟨kvs, hk⟩ | ⟨kvs, hk⟩
        · obtain ⟨_, _, _, _, o, _, _, e, ex, _⟩ := I.hok p _ hk
          exact ⟨o, e, ex⟩
        · obtain ⟨_, _, _, _, o, _, _, e, ex, _⟩ := I.hok p _ hk
          exact ⟨o, e, ex⟩
      obtain ⟨o, e, ex⟩ := z
      refine ⟨⟨o, e, ex.1⟩, fun a e2 => ?_⟩
      cases e2
      exact ⟨o, e, ex.2.1⟩
    · obtain ⟨o, _, _, _, e, ex, _⟩ := I.hok p _ hk
      refine ⟨⟨o, e, ex.1⟩, fun a e2 => ?_⟩
      cases e2
      exact ⟨o, e, ex.2.1⟩
  | _ => exact False.elim ty
def tBM (K : PySem.W.Frag) (T : String) (r : V → List V → Hp → VK → Prop) (to : TE) (t : TA) : TE := fun σ H Q => to σ H fun x H1 => tyV K T x H1 ∧ t σ H1 fun xs H2 => r x xs H2 Q
variable {o e : Expr} {es : List Expr} {to : TE} {t : TA} {name : Str} {apos cpos : Pos} {T id : String} {r : V → List V → Hp → VK → Prop}
theorem pe_bm (pa : PlainAttrs T) (slot : Slot T name id) (hty : typeOf (.builtin id) = pure (.type "method_descriptor")) (hm : MtR X id r) (ho : PE X o to) (ha : PA X (e :: es) t)
    (hbase : attributeBase o name X.env (eval o X.env) = eval o X.env := by rfl)
    (hfew : ((backTo cpos (starEach (e :: es) X.env)).all (fun x => !x.1) && (backToKw cpos (keywordEach [] X.env)).all (fun x => x.1.isSome)
      && decide ((e :: es).length + ([] : List Keyword).length + (if ([] : List Keyword).isEmpty then 0 else 1) < 30)) = true := by rfl)
    (hline : (apos.endLine == cpos.line) = true := by rfl) (hs : starEach (e :: es) X.env = (false, eval e X.env) :: starEach es X.env := by rfl) (hplain : (backTo cpos (starEach es X.env)).any (·.1) = false := by rfl) :
    PE X (.Call (.Attribute o name apos) (e :: es) [] cpos) (tBM X.K T r to t) := by
  intro pins s σ H Q I h
  refine wpAny_Call_method_late hbase hfew hline rfl (thn (ho pins s σ H _ I h) fun v s1 ⟨x, H1, I1, r1, ty, q1⟩ => ?_)
  obtain ⟨h1, h2⟩ := tyV_is I1 r1 ty
  refine ⟨T, id, pa, slot, hty, h1, h2, ?_⟩
  have hA := ha cpos pins s1 σ H1 _ I1 q1
  rw [hs] at hA ⊢
  refine Calls.callWith_builtin (by show (false || (backTo cpos (starEach es X.env)).any (·.1)) = false; rw [hplain] <;> rfl) (Calls.evalArgs_plain ?_)
  exact thn hA fun us s2 ⟨vs, H2, I2, r2, q2⟩ => hm pins s2 σ H2 x vs v us Q I2 r1 r2 q2
/- xs.append(e), list.index on a module's tuple .. are MtR facts of 06m -/
end
end L2

namespace L2
open PySem PySem.Spec PyProof.Rows

def MtM (X : Cx) (id : String) (r : V → List V → Hp → VK → Prop) : Prop :=
  ∀ (pins : List (Addr × Obj)) (s : Shared) (σ : St) (H : Hp) (x : V) (xs : List V) (v : Value) (us : List Value) (Q : VK), Inv X pins σ H s → RelV x v → Vals xs us → r x xs H Q →
    wpAny (model X.prog X.w) X.A (call (.builtin id) (v :: us)) (EP X pins σ Q) X.xe s

/-! ### lists of values -/
theorem Vals.one : ∀ {x : V} {us : List Value}, Vals [x] us → ∃ u, us = [u] ∧ RelV x u
  | _, _, .cons r .nil => ⟨_, rfl, r⟩
theorem Vals.eraseIdx : ∀ {xs : List V} {us : List Value} (i : Nat), Vals xs us → Vals (xs.eraseIdx i) (us.eraseIdx i)
  | _, _, _, .nil => .nil
  | _, _, 0, .cons _ t => t
  | _, _, i + 1, .cons r t => .cons r (Vals.eraseIdx i t)
theorem Vals.rep {xs : List V} {us : List Value} (h : Vals xs us) : ∀ k : Nat, Vals (List.replicate k xs).flatten (List.replicate k us).flatten
  | 0 => .nil
  | k + 1 => by
    rw [List.replicate_succ, List.replicate_succ, List.flatten_cons, List.flatten_cons]
    exact Vals.append h (Vals.rep h k)
theorem len_erase {α : Type} : ∀ (l : List α) (i : Nat), (l.eraseIdx i).length ≤ l.length
  | [], _ => Nat.le_refl _
  | _ :: _, 0 => Nat.le_succ _
  | _ :: r, i + 1 => Nat.succ_le_succ (len_erase r i)
theorem foldl_rep (its : List Value) : ∀ (k : Nat) (acc : List Value),
    List.foldl (fun x1 x2 => x1 ++ x2) acc.toArray (List.replicate k its.toArray) = (acc ++ (List.replicate k its).flatten).toArray
  | 0, acc => by simp
  | k + 1, acc => by
    have e : acc.toArray ++ its.toArray = (acc ++ its).toArray := by simp
    have e2 : (acc ++ its) ++ (List.replicate k its).flatten = acc ++ (List.replicate (k + 1) its).flatten := by
      rw [List.replicate_succ, List.flatten_cons, List.append_assoc]
    rw [← e2, ← foldl_rep its k (acc ++ its), ← e, List.replicate_succ, List.foldl_cons]

section
variable {X : Cx} {pins : List (Addr × Obj)} {σ : St} {H : Hp} {s : Shared} {l b : Addr} {xs ys zs : List V}

/-! ### the two steps: a tracked list is rewritten, a new list is laid -/
theorem Inv.lset {its its' : List Value} {n : Nat} {f : Array Value → Array Value} {t' : Nat} (I : Inv X pins σ H s) (hH : H l = some (.lst xs))
    (e : s.heap.get? l = some { cls := .type "list", data := .seq its.toArray n }) (hf : f its.toArray = its'.toArray) (hv : Vals ys its') (hz : ys.length ≤ sizeLine) :
    Inv X pins σ (upd H l (.lst ys)) { s with heap := s.heap.update l (Obj.mapSeq f), toks := t' } := by
  have q := PySem.IsL.update e f
  rw [hf] at q
  refine I.write (x := l) (e := l) (by rw [hH]; exact trivial) (.inl rfl) (fun b' u hb hu => (Heap.get?_update_other s.heap (Obj.mapSeq f) (Ne.symm hb)).trans hu) ⟨_, q⟩ ?_
  exact ⟨hz, its', _, hv, q⟩
theorem Inv.lnew {its : List Value} {t' : Nat} (I : Inv X pins σ H s) (hv : Vals ys its) (hz : ys.length ≤ sizeLine) :
    Inv X pins σ (upd H s.heap.objs.size (.lst ys)) { s with heap := s.heap.push { cls := .type "list", data := .seq its.toArray }, toks := t' } :=
  I.laid (fun _ _ q => Heap.get?_push_of_some _ q) (Nat.le_refl _) ⟨hz, its, 0, hv, Heap.get?_push_size _ rfl⟩
theorem Inv.fresh (I : Inv X pins σ H s) : H s.heap.objs.size = none := I.hok.fresh (Nat.le_refl _)
theorem Inv.lstM (I : Inv X pins σ H s) (hH : H l = some (.lst xs)) : xs.length ≤ sizeLine ∧ ∃ (its : List Value) (n : Nat), Vals xs its ∧ xs.length = its.length ∧ s.heap.get? l = some { cls := .type "list", data := .seq its.toArray n } := by
  obtain ⟨z, its, n, r, e⟩ := I.hok l _ hH
  exact ⟨z, its, n, r, r.length, e⟩

theorem notLongL {n : Nat} (h : n ≤ sizeLine) : Builtin.List.listTooLong n = false := by
  unfold Builtin.List.listTooLong
  exact decide_eq_false (by omega)
end

section
variable {X : Cx}

/-! ### methods -/
def rAppend : V → List V → Hp → VK → Prop := fun x vs H Q => ∃ l xs y, x = .ref l ∧ vs = [y] ∧ H l = some (.lst xs) ∧ xs.length < sizeLine ∧ Q .non (upd H l (.lst (xs ++ [y])))
theorem mt_append : MtM X "list.append" rAppend := by
  intro pins s σ H x vs v us Q I rx rv h
  obtain ⟨l, xs, y, rfl, rfl, hH, hz, q⟩ := h
  cases rx
  obtain ⟨u, rfl, ru⟩ := rv.one
  obtain ⟨z, its, n, r, hl, e⟩ := I.lstM hH
  refine call_meets F.slot_list_append ⟨_, e, rfl⟩ F.entry_list_append (F.args_list_append_2 _ _) (PySem.list_append l its.toArray n u (by rw [List.size_toArray]; omega)) ⟨e, ?_⟩
  refine ⟨.non, _, I.lset (its' := its ++ [u]) hH e (by simp) (r.append (.cons ru .nil)) ?_, rfl, q⟩
  rw [List.length_append, List.length_singleton]
  omega

def rExtend : V → List V → Hp → VK → Prop := fun x vs H Q => ∃ l b xs zs, x = .ref l ∧ vs = [.ref b] ∧ H l = some (.lst xs) ∧ H b = some (.lst zs) ∧ xs.length + zs.length ≤ sizeLine ∧ Q .non (upd H l (.lst (xs ++ zs)))
theorem mt_extend : MtM X "list.extend" rExtend := by
  intro pins s σ H x vs v us Q I rx rv h
  obtain ⟨l, b, xs, zs, rfl, rfl, hH, hB, hz, q⟩ := h
  cases rx
  obtain ⟨u, rfl, ru⟩ := rv.one
  cases ru
  obtain ⟨z, its, n, r, hl, e⟩ := I.lstM hH
  obtain ⟨z2, its2, n2, r2, hl2, e2⟩ := I.lstM hB
  have hsz : its.toArray.size + its2.toArray.size ≤ sizeLine := by rw [List.size_toArray, List.size_toArray]; omega
  have hlong : ¬ (!its.toArray.isEmpty && Builtin.List.listTooLong (its.toArray.size + its2.toArray.size)) = true := by
    rw [notLongL hsz, Bool.and_false]
    exact Bool.false_ne_true
  refine call_meets F.slot_list_extend ⟨_, e, rfl⟩ F.entry_list_extend (F.args_list_extend_2 _ _)
    (AutoSeq1.list_extend_list_list_0 l its.toArray n b its2.toArray n2 hlong (by rw [List.size_toArray]; omega) (by omega)) ⟨e, e2, ?_⟩
  refine ⟨.non, _, I.lset (its' := its ++ its2) hH e (by simp) (r.append r2) ?_, rfl, q⟩
  rw [List.length_append]
  omega


def rPopAt : V → List V → Hp → VK → Prop := fun x vs H Q => ∃ l xs i k y, x = .ref l ∧ vs = [.int i] ∧ H l = some (.lst xs) ∧ -(2 ^ 63) ≤ i ∧ i < 2 ^ 63 ∧ seqIndex? i xs.length = some k ∧ xs[k]? = some y ∧ Q y (upd H l (.lst (xs.eraseIdx k)))
theorem mt_popAt : MtM X "list.pop" rPopAt := by
  intro pins s σ H x vs v us Q I rx rv h
  obtain ⟨l, xs, i, k, y, rfl, rfl, hH, h1, h2, hk, hy, q⟩ := h
  cases rx
  obtain ⟨u, rfl, ru⟩ := rv.one
  obtain ⟨t, rfl⟩ := ru
  obtain ⟨z, its, n, r, hl, e⟩ := I.lstM hH
  obtain ⟨w, hw, rw'⟩ := r.get hy
  refine call_meets F.slot_list_pop ⟨_, e, rfl⟩ F.entry_list_pop (F.args_list_pop_2 _ _)
    (MeetsSeq.list_pop_at l its.toArray n i t k w (fitsIndex_both h1 h2) (by rw [List.size_toArray, ← hl]; exact hk) (by rw [← Array.getElem?_toList]; exact hw) (by rw [List.size_toArray]; omega)) ⟨e, ?_⟩
  refine ⟨y, _, I.lset (its' := its.eraseIdx k) hH e ?_ (r.eraseIdx k) ?_, rw', q⟩
  · show its.toArray.eraseIdxIfInBounds k = (its.eraseIdx k).toArray
    rw [List.eraseIdxIfInBounds_toArray]
  · have := len_erase xs k
    omega



/-! ### list + list, list += list, list * int -/
def rCat : R2 := fun x y H Q => ∃ l b xs zs, x = .ref l ∧ y = .ref b ∧ H l = some (.lst xs) ∧ H b = some (.lst zs) ∧ xs.length + zs.length ≤ sizeLine ∧ ∀ p, H p = none → Q (.ref p) (upd H p (.lst (xs ++ zs)))
theorem op_cat : OpR X (binaryOp .Add) rCat := by
  intro pins s σ H x y v u Q I rx ry h
  obtain ⟨l, b, xs, zs, rfl, rfl, hH, hB, hz, q⟩ := h
  cases rx
  cases ry
  obtain ⟨z, its, n, r, hl, e⟩ := I.lstM hH
  obtain ⟨z2, its2, n2, r2, hl2, e2⟩ := I.lstM hB
  refine PySem.P.add_list e e2 ?_ (by rw [List.size_toArray, List.size_toArray]; omega)
  have ea : its.toArray ++ its2.toArray = (its ++ its2).toArray := by simp
  rw [ea]
  exact ⟨.ref _, _, I.lnew (t' := s.toks) (r.append r2) (by rw [List.length_append]; omega), rfl, q _ I.fresh⟩
/-- a list times an int (a negative one is nothing) -/
def rRep : R2 := fun x y H Q => ∃ l k xs, x = .ref l ∧ y = .int k ∧ H l = some (.lst xs) ∧ -(2 ^ 63) ≤ k ∧ k < 2 ^ 63 ∧ xs.length * k.toNat ≤ sizeLine ∧
  ∀ p, H p = none → Q (.ref p) (upd H p (.lst (List.replicate k.toNat xs).flatten))
theorem len_rep {α : Type} (xs : List α) (k : Nat) : (List.replicate k xs).flatten.length = k * xs.length := by
  induction k with
  | zero => simp
  | succ k ih => rw [List.replicate_succ, List.flatten_cons, List.length_append, ih, Nat.succ_mul, Nat.add_comm]
theorem op_rep : OpR X (binaryOp .Mult) rRep := by
  intro pins s σ H x y v u Q I rx ry h
  obtain ⟨l, k, xs, rfl, rfl, hH, h1, h2, hz, q⟩ := h
  cases rx
  obtain ⟨t, rfl⟩ := ry
  obtain ⟨z, its, n, r, hl, e⟩ := I.lstM hH
  have hlen : its.toArray.size * k.toNat ≤ sizeLine := by rw [List.size_toArray, ← hl]; exact hz
  have hcap : ¬ its.toArray.size * k.toNat > (2 ^ 63 - 1) / 8 := by
    have : (sizeLine : Nat) ≤ (2 ^ 63 - 1) / 8 := by decide
    omega
  have hfit : ¬ (!Builtin.List.listFitsIndex k) = true := by
    rw [fitsIndex_both h1 h2]
    exact Bool.false_ne_true
  have hlong : ¬ Builtin.List.listTooLong (its.toArray.size * k.toNat) = true := by
    rw [notLongL hlen]
    exact Bool.false_ne_true
  have hnew : List.foldl (fun x1 x2 => x1 ++ x2) #[] (List.replicate (if its.toArray.isEmpty = true then 0 else k.toNat) its.toArray) = (List.replicate k.toNat its).flatten.toArray := by
    have f0 : ∀ m : Nat, List.foldl (fun x1 x2 => x1 ++ x2) #[] (List.replicate m its.toArray) = (List.replicate m its).flatten.toArray := fun m => by
      have := foldl_rep its m []
      rw [List.nil_append] at this
      exact this
    rw [f0]
    cases its with
    | nil => simp
    | cons a r' => rw [if_neg (by simp)]
  refine wpAny_binaryOp_repeat_ref (T := "list") (U := "int") (by decide) ⟨_, e, rfl⟩ (fun s' => typeIs_int s' k t) noFill_list_mul F.fills_int_mul F.slot_int_rmul repeat_list F.slot_int_index.lookup
    (call_meets F.slot_int_rmul (typeIs_int s k t) F.entry_int_rmul (F.args_int_rmul_2 _ _) (int___rmul___int_list k t l its.toArray n)
      ⟨e, rfl, ⟨_, e, rfl⟩, call_meets F.slot_list_mul ⟨_, e, rfl⟩ F.entry_list_mul (F.args_list_mul_2 _ _) (AutoListH.list___mul___list_int_3 l its.toArray n k t hfit hcap hlong) ⟨e, ?_⟩⟩)
  rw [hnew]
  exact ⟨.ref _, _, I.lnew (t' := s.toks) (r.rep k.toNat) (by rw [len_rep, Nat.mul_comm]; exact hz), rfl, q _ I.fresh⟩

/-! ### del xs[i] -/
end

/-! ### xs[a:b] = ys -/
section
variable {prog : Program} {w : World} {A : Around} {E : Value → Shared → Prop} {s : Shared}
end

section
variable {X : Cx}
end
end L2

namespace Att
open PySem PySem.W PySem.Calls PyProof.Rows

/-! ### the script -/
theorem ints_of_wellAll {P : Params} {h : Heap} : ∀ (ns : List Int) (vs : List Value), WellAll P h vs (ns.map WData.int) → IntsAre vs ns := by
  intro ns
  induction ns with
  | nil =>
    intro vs w
    rw [List.map_nil] at w
    cases w
    exact .nil
  | cons n ns ih =>
    intro vs w
    rw [List.map_cons] at w
    cases w with
    | cons a b =>
      cases a
      exact .cons _ _ (ih _ b)

theorem script_of {l : OpenLaw} {n : Nat} (hn : l.most = some n) {P : Params} {h : Heap} {args : List WData} {vals : List Value}
    (hpre : l.row.toRowW.claim.pre args = true) (hwl : WellAll P h vals args) :
    ∃ a vs ns, vals = [Value.ref a] ∧ args = [WData.list (ns.map WData.int)] ∧ h.get? a = some { cls := .type "list", data := .seq vs.toArray } ∧ IntsAre vs ns ∧ ns.length ≤ n := by
  have hsh : WShape.hasAll [] args [.list .int] = true := (pre_splitW hpre).1
  have hc : l.pre.holds [] { args := args } = true := (pre_splitW hpre).2
  obtain ⟨d, r, rfl, h1, h2⟩ := hasAllW_cons hsh
  obtain rfl := hasAllW_nil h2
  obtain ⟨xs, rfl, h3⟩ := hasW_list h1
  obtain ⟨ns, rfl⟩ := items_int h3
  have hlen : ns.length ≤ n := by
    unfold OpenLaw.pre at hc
    have h4 : (WTm.not (.lt (.lit (.int (n : Int))) (.len (.arg 0)))).holds [] { args := [.list (ns.map .int)] } = true := by
      have h4 := (holds_andW hc).1
      rw [hn] at h4
      exact h4
    have h5 := condW_of h4 (w_not (w_lt w_lit (w_len_list (w_arg rfl))))
    rw [List.length_map] at h5
    refine Nat.le_of_not_lt fun q => ?_
    have q' : (n : Int) < ((ns.length : Nat) : Int) := by omega
    first
      | (rw [decide_eq_true q'] at h5; exact absurd h5 (by decide))
      | (simp at h5; omega)
  cases hwl with
  | cons w1 w2 =>
    cases w2
    cases w1 with
    | list ho hall => exact ⟨_, _, ns, rfl, rfl, ho, ints_of_wellAll ns _ hall, hlen⟩

theorem post_true (l : OpenLaw) (args : List WData) : l.row.toRowW.claim.post args (.bool true) args = true :=
  postW_of (r := l.row.toRowW) (X := (true == true))
    (show WShape.has [] (.bool true) .bool = true by first | rfl | decide | simp [WShape.has, WShape.arms, WShape.armsAll])
    (show (WTm.eq .res (.lit (.bool true))).value [] { args := args, res := some (.bool true), after := args } = some (.bool (true == true)) from w_eq_bool (w_res rfl) w_lit) rfl

/-! ### the attachment: holds_open's last premise (the goal 'hc' behind k_head) from a wpAny of the law's body -/

/-- the same from a codeAny of the CALL (for a layer whose function contracts speak of calls) -/
theorem attach_call {l : OpenLaw} {n : Nat} {q : Program} {loose : List Str} {XP : (Str → Option Value) → Heap → Prop} {YP : World → Heap → Prop} {d : DefRec}
    (hn : l.most = some n) (hdf : d.params.defaults = [])
    (call : ∀ (w : World) (s₀ s₁ : Shared) (mg mb : Str → Option Value) (fa : Addr) (o : Obj) (pm cd doc : Value) (a : Addr) (vs : List Value) (ns : List Int),
      Ground q loose [] XP w s₀ mg mb s₁.heap → YP w s₁.heap →
      s₁.heap.get? fa = some o → o.data = .func (docDef d.name d.params d.body d.scope pm cd doc) → s₁.heap.CodeRec cd d.name → mg d.name = some (.ref fa) →
      s₁.heap.get? a = some { cls := .type "list", data := .seq vs.toArray } → IntsAre vs ns → ns.length ≤ n → s₁.gens = #[] →
      codeAny (model l.prog w) callerA (.call (.ref fa) ⟨[.ref a], []⟩) (fun r s' => r = .ok (.ret (.bool true)) ∧ OldK s₁.heap s'.heap ∧ s'.os = s₁.os ∧ AllBare s'.gens) s₁) :
    WalkO q loose XP YP l.row.toRowW d [] (fun f vs => PySem.call f vs) := by
  intro w s₀ s₁ mg mb G Y fa o pm cd doc dV kV ho hd hcd hD hmg hg args vals as hpre hlay hrd hwl hlo
  obtain rfl : dV = .none := Dflts.none hD hdf
  obtain rfl : kV = .none := Dflts.noKw hD
  obtain ⟨a, vs, ns, rfl, rfl, hobj, hints, hlen⟩ := script_of hn hpre hwl
  refine enter_call (codeAny_mono (call w s₀ s₁ mg mb fa o pm cd doc a vs ns G Y ho (fd_plain hd) hcd hmg hobj hints hlen hg) fun r s' hq => ?_)
  obtain ⟨rfl, h2, h3, h4⟩ := hq
  exact ⟨.inl ⟨.bool true, .bool true, [], rfl, fun _ => rfl, .bool true, post_true l _, fun _ => ⟨List.Pairwise.nil, fun _ hm => (nomatch hm)⟩⟩, h2, h3, h4⟩


/-! ### rules over ANY heap (no ledger) from facts about the written part K: the library's own take a ledger (News) for what they write -/
section
variable {prog : Program} {w : World} {A : Around} {E : Value → Shared → Prop} {s : Shared} {K : Frag}





/-! the whole heap as the ledger: makes every rule that writes through a ledger a rule over any heap -/
def ledger (h : Heap) (L d : Addr) : List (Addr × Obj) := (List.range h.objs.size).filterMap fun a => if a = L ∨ a = d then none else (h.get? a).map fun o => (a, o)

end
end Att

namespace L2
open PySem PySem.Spec PyProof.Rows

theorem vals_ints : ∀ {vs : List Value} {ns : List Int}, IntsAre vs ns → Vals (ns.map V.int) vs
  | _, _, .nil => .nil
  | _, _, .cons n t h => .cons ⟨t, rfl⟩ (vals_ints h)

/-- nothing is tracked but the script, known to the object (or it is an object of the module) -/
def Only (H : Hp) : Prop := ∀ b, H b = none ∨ ∃ o xs, H b = some (.frz o (.lst xs))

/-- THE HEAD: the law's promise, at the heap behind the top. F, the promise of the law's def, may use that base is part of the heap (so K.In base, base.Ns mainGlobals mg stand in Mod) -/
theorem law_call {P : Program} {w : World} {K : PySem.W.Frag} {mg mb : Str → Option Value} {CX : CXT} {k : Nat} {fa a : Addr} {fd : FuncData} {x : Str} {sp : Sp} {s₁ : Shared} {vs : List Value} {ns : List Int}
    (KX : K.In s₁.heap) (hns : s₁.heap.Ns mainGlobals mg) (hb : s₁.heap.Ns builtinsNs mb) (hbb : ∀ x : Str, x ≠ "__name__" → mb x = bootBuiltins x) (hlim : s₁.heap.NoLimit) (hg : s₁.gens = #[])
    (ha : s₁.heap.get? a = some { cls := .type "list", data := .seq vs.toArray }) (hi : IntsAre vs ns) (hl : ns.length ≤ sizeLine) (hr : Room k callerA)
    (F : ∀ base : Heap, K.In base → base.Ns mainGlobals mg → FnOk P w K mg base CX k fa fd [x] sp) (hbind : ∀ (s : Shared) (u : Value), BindsTo s fd ⟨[u], []⟩ [(x, u)])
    (hsp : ∀ H : Hp, Only H → SqL K H a (ns.map V.int) → sp [.ref a] H (fun v _ => v = .bl true) fun _ _ _ => False)
    (hCX : ∀ H e s', CX [] H s₁ (fun _ _ _ => False) e s' → False) :
    codeAny (model P w) callerA (.call (.ref fa) ⟨[.ref a], []⟩) (fun r s' => r = .ok (.ret (.bool true)) ∧ OldK s₁.heap s'.heap ∧ s'.os = s₁.os ∧ AllBare s'.gens) s₁ := by
  have rv := vals_ints hi
  have lenV := hi.length
  -- from an abstract heap in which nothing but the script may be tracked
  have core : ∀ H : Hp, Only H → SqL K H a (ns.map V.int) → HOk P w H s₁.heap → (∀ b, H b ≠ none → b = a) → (H a ≠ none → K.lookup a = none) →
      codeAny (model P w) callerA (.call (.ref fa) ⟨[.ref a], []⟩) (fun r s' => r = .ok (.ret (.bool true)) ∧ OldK s₁.heap s'.heap ∧ s'.os = s₁.os ∧ AllBare s'.gens) s₁ := by
    intro H hO hS hok hA hK
    have base_of : ∀ {b : Addr} {o : Obj}, s₁.heap.get? b = some o → H b = none → (hidT s₁.heap H).get? b = some o := fun e n => hidT_get e n
    have noA : ∀ {b : Addr} {o : Obj} {es : Array DictEntry} {ep : Nat}, s₁.heap.get? b = some o → o.data = .dict es ep → H b = none := fun {b o es ep} e d => by
      cases q : H b with
      | none => rfl
      | some u =>
        have e' : b = a := hA b (by rw [q]; simp)
        subst e'
        rw [ha] at e; cases e
        have d' : Data.seq vs.toArray _ = Data.dict es ep := d
        cases d'
    have nsK : ∀ {b : Addr} {m : Str → Option Value}, s₁.heap.Ns b m → (hidT s₁.heap H).Ns b m := fun {b m} ⟨o, es, ep, e, d, r⟩ => ⟨o, es, ep, base_of e (noA e d), d, r⟩
    have hKb : K.In (hidT s₁.heap H) := fun b o e => base_of (KX b o e) (by
      cases q : H b with
      | none => rfl
      | some u =>
        have e' : b = a := hA b (by rw [q]; simp)
        subst e'
        rw [hK (by rw [q]; simp)] at e; cases e)
    have hM : Mod K mg (hidT s₁.heap H) := ⟨hKb, nsK hns, ⟨mb, nsK hb, hbb⟩, let ⟨mc, h1, h2⟩ := hlim; ⟨mc, nsK h1, h2⟩⟩
    have e0 : Env0 P w K mg (hidT s₁.heap H) callerA [] s₁ H := ⟨rfl, hM, fun b o e => of_hidT e, Nat.le_of_eq (hidT_size _ _), trivial, fun b hb => absurd (show b ∈ ([] : List Addr) from hb) (by simp), hok, .of_eq hg⟩
    refine codeAny_mono ((F _ hKb (nsK hns)).run callerA [] s₁ H ⟨[.ref a], []⟩ [.ref a] [.ref a] _ _ hr e0 (hbind s₁ (.ref a)) (.cons rfl .nil) (hsp H hO hS)) fun r s' h => ?_
    cases r with
    | error e => exact (hCX H e s' h).elim
    | ok fl =>
      cases fl with
      | next => exact False.elim h
      | brk => exact False.elim h
      | cont => exact False.elim h
      | ret u =>
        obtain ⟨v, H', os, bare, un, hok', r', q⟩ := h
        have q' : v = .bl true := q
        subst q'
        obtain rfl : u = Value.bool true := r'
        refine ⟨rfl, OldK.of_keep fun b o e => ?_, os, bare⟩
        cases q : H b with
        | none => exact un.keep b o e q (by intro z; exact absurd (show b ∈ ([] : List Addr) from z) (by simp)) (by simp)
        | some u =>
          rcases hO b with z | ⟨ob, xs, z⟩
          · rw [q] at z; cases z
          · have z2 := un.frzs b ob _ z
            obtain ⟨e1, _⟩ := hok b _ z
            obtain ⟨e2, _⟩ := hok' b _ z2
            rw [e] at e1; cases e1
            exact e2
  cases hk : K.lookup a with
  | some o =>
    -- the script is one of the module's own objects
    have e := KX a o hk
    rw [ha] at e
    cases e
    refine core (fun _ => none) (fun _ => .inl rfl) (.inr ⟨_, vs.toArray, _, hk, rfl, rfl, rfl, by rw [List.size_toArray, lenV]; exact hl, by simpa using rv⟩) (fun b u z => by have z' : (none : Option HO) = some u := z; cases z') (fun b z => absurd rfl z) fun z => absurd rfl z
  | none =>
    refine core (fun b => if b = a then some (.frz { cls := .type "list", data := .seq vs.toArray } (.lst (ns.map V.int))) else none) (fun b => ?_) (.inl (.inr ⟨{ cls := .type "list", data := .seq vs.toArray }, if_pos rfl⟩)) (fun b u z => ?_) (fun b z => ?_) fun _ => hk
    · by_cases hb : b = a
      · exact .inr ⟨_, _, if_pos hb⟩
      · exact .inl (if_neg hb)
    · by_cases hb : b = a
      · have z' := (if_pos hb).symm.trans z
        cases z'
        subst hb
        exact ⟨ha, by rw [List.length_map]; exact hl, vs, _, rv, ha⟩
      · have z' := (if_neg hb).symm.trans z
        cases z'
    · by_cases hb : b = a
      · exact hb
      · exact absurd (if_neg hb) z
end L2

namespace L2
open PySem PySem.Spec PyProof.Rows


/-- the goal that k_head leaves (case hc), from the law's promise. F gives the function object fd (K's own) once, then the promise over every base -/
theorem walk_of {l : PySem.W.OpenLaw} {n k : Nat} {q : Program} {loose : List Str} {XP : (Str → Option Value) → Heap → Prop} {YP : World → Heap → Prop} {d : DefRec} {K : Params → PySem.W.Frag} {CX : World → CXT} {sp : World → Sp} {x : Str}
    (hn : l.most = some n) (hn2 : n ≤ sizeLine) (hdf : d.params.defaults = []) (hr : Room k callerA)
    (hY : ∀ (w : World) (h : Heap), YP w h → (K w.params).In h)
    (F : ∀ (w : World) (mg : Str → Option Value) (fa : Addr) (h : Heap), (K w.params).In h → h.Ns mainGlobals mg → mg d.name = some (.ref fa) →
      ∃ fd : FuncData, (∀ (s : Shared) (u : Value), BindsTo s fd ⟨[u], []⟩ [(x, u)]) ∧
        ∀ base : Heap, (K w.params).In base → base.Ns mainGlobals mg → FnOk l.prog w (K w.params) mg base (CX w) k fa fd [x] (sp w))
    (hsp : ∀ (w : World) (H : Hp) (a : Addr) (ns : List Int), ns.length ≤ n → Only H → SqL (K w.params) H a (ns.map V.int) → sp w [.ref a] H (fun v _ => v = .bl true) fun _ _ _ => False)
    (hCX : ∀ (w : World) (H : Hp) (s : Shared) (e : Value) (s' : Shared), CX w [] H s (fun _ _ _ => False) e s' → False) :
    PySem.W.WalkO q loose XP YP l.row.toRowW d [] (fun f vs => PySem.call f vs) := by
  refine Att.attach_call hn hdf fun w s₀ s₁ mg mb fa o pm cd doc a vs ns G Y ho hd hcd hmg hobj hints hlen hg => ?_
  have KX := hY w _ Y
  obtain ⟨fd, hb, hF⟩ := F w mg fa _ KX G.T.g hmg
  exact law_call KX G.T.g G.T.b G.T.builtins G.T.nolimit hg hobj hints (Nat.le_trans hlen hn2) hr hF hb (fun H hO hS => hsp w H a ns hlen hO hS) fun H e s' => hCX w H s₁ e s'
end L2

/- THE LAST THEOREM (shape; LID, My.* are yours):
   My.Adr: a structure of the addresses that your layer names (classes, functions); My.Txt K t: a structure (Prop) of the equations over K;
   My.txt_mk : {K} {implicit addresses ..} (e1 : nsIn K mainGlobals "law" = some (some (.ref f))) (e2 : K.lookup f = some ⟨oc, od, .func (fnOf "law" "law" params body scope dV kV doc pm an cdv ct), sl⟩) (e3 : codeIn K cdv "law" = true) .. : ∃ t, My.Txt K t

(the tactic k_is has no namespace: write k_is) -/

/-! SHORT WORDS over the layer: a def of the text, its body, what a loop and a test want. -/
namespace L2
open PySem PySem.Spec PyProof.Rows

/-! ### the text by places -/
def defArgs (s : Stmt) : Arguments := match s with
  | .FunctionDef _ a _ _ _ _ _ _ _ _ => a
  | _ => { posonlyargs := [], args := [], vararg := none, kwonlyargs := [], kw_defaults := [], kwarg := none, defaults := [] }
def defBody (s : Stmt) : List Stmt := match s with
  | .FunctionDef _ _ b _ _ _ _ _ _ _ => b
  | _ => []
def defScope (s : Stmt) : Scope := match s with
  | .FunctionDef _ _ _ _ _ _ sc _ _ _ => sc
  | _ => { kind := .function, names := [], isGenerator := false, isCoroutine := false }

/-! ### no exception leaves a def -/
abbrev CX0 : CXT := fun _ _ _ _ _ _ => False
abbrev E0 : XK := fun _ _ _ => False
theorem pass0 {X : Cx} : Passes CX0 X E0 := fun _ _ _ _ _ _ _ h => h.elim

/-! ### a def (or method) of the text as it stands behind the top -/
structure Fun (K : PySem.W.Frag) (x qual : Str) (st : Stmt) (f : Addr) (fd : FuncData) : Prop where
  ex : ∃ (oc : Value) (od : Option Addr) (kV doc pm : Value) (an : Option Addr) (cdv ct : Value) (osl : Array (Option Value)),
    fd = PySem.W.fnOf x qual (defArgs st) (defBody st) (defScope st) .none kV doc pm an cdv ct ∧ K.lookup f = some ⟨oc, od, .func fd, osl⟩ ∧ PySem.W.codeIn K cdv qual = true
  kp : PySem.W.keepIn K (.ref f) = true
section
variable {P : Program} {w : World} {K : PySem.W.Frag} {mg : Str → Option Value} {base : Heap}
/-- THE RULE for a def: its body as a term of rules, and the reading of that term -/
theorem Fun.ok {x qual : Str} {st : Stmt} {f : Addr} {fd : FuncData} {N ps : List Str} {k : Nat} {sp : Sp} (F : Fun K x qual st f fd) (S : FnScope N ps (defScope st)) (len : ∀ vs H Q E, sp vs H Q E → vs.length = ps.length)
    (hbody : ∀ (cdv : Value) (A : Around) (outer : List Env) (s : Shared) (H : Hp) (vs : List V) (Q : VK) (E : XK), Room k (A.deeper (envOfC qual (defScope st) s.heap.objs.size f cdv)) → sp vs H Q E →
      ∃ t, PSs (cxOf CX0 P w K mg base N qual (defScope st) f cdv A outer s H E).nox (defBody st) t ∧ t { nx := fun _ H' => Q .non H', rt := Q } (start N vs) H) : FnOk P w K mg base CX0 (k + 1) f fd ps sp := by
  obtain ⟨oc, od, kV, doc, pm, an, cdv, ct, osl, rfl, lk, hcd⟩ := F.ex
  refine fn_of lk hcd S len fun A outer s H vs Q E hr hsp => ?_
  obtain ⟨t, h, q⟩ := hbody cdv A outer s H vs Q E hr hsp
  exact ⟨t, h.nox, q⟩
/-- how its arguments bind (no defaults): h is «fun _ _ _ _ _ _ us hl => match us, hl with | [_, _], _ => rfl», one _ a parameter -/
theorem Fun.binds {x qual : Str} {st : Stmt} {f : Addr} {fd : FuncData} {ps : List Str} (F : Fun K x qual st f fd)
    (h : ∀ (kV doc pm : Value) (an : Option Addr) (cdv ct : Value) (us : List Value), us.length = ps.length → bindArgs (PySem.W.fnOf x qual (defArgs st) (defBody st) (defScope st) .none kV doc pm an cdv ct) ⟨us, []⟩ = pure (ps.zip us)) : Binds K fd ps [] := by
  obtain ⟨oc, od, kV, doc, pm, an, cdv, ct, osl, rfl, lk, hcd⟩ := F.ex
  exact .all (h kV doc pm an cdv ct)
theorem fun_mk {x qual : Str} {st : Stmt} {f : Addr} {oc : Value} {od an : Option Addr} {osl : Array (Option Value)} {kV doc pm cdv ct : Value} (l : K.lookup f = some ⟨oc, od, .func (PySem.W.fnOf x qual (defArgs st) (defBody st) (defScope st) .none kV doc pm an cdv ct), osl⟩)
    (c : PySem.W.codeIn K cdv qual = true) (k : PySem.W.keepIn K (.ref f) = true) : Fun K x qual st f (PySem.W.fnOf x qual (defArgs st) (defBody st) (defScope st) .none kV doc pm an cdv ct) := ⟨⟨oc, od, kV, doc, pm, an, cdv, ct, osl, rfl, l, c⟩, k⟩
end
theorem hu_of {A : Around} {k : Nat} (hr : Room k A) : A.units + 1 < cLine := Nat.lt_of_le_of_lt (Nat.add_le_add_left (by decide : 1 ≤ 64) _) hr.units
theorem small1000 {n : Nat} (h : n ≤ 1000) : n < sizeLine := Nat.lt_of_le_of_lt h (by decide)

/-! ### expressions in short: the name that stands in the i-th slot -/
section
variable {X : Cx}
theorem pv (i : Nat) {x : Str} {pos : Pos} (hN : X.N[i]? = some x := by rfl) (hv : Vis X.env.scope x := by first | exact Or.inl rfl | exact Or.inr (Or.inl rfl) | exact Or.inr (Or.inr rfl)) (hd : (x == ("__debug__" : Str)) = false := by decide)
    (hcd : (x == ("__classdict__" : Str)) = false := by decide) : PE X (.Name x pos) (tVar i) := pe_var hN hv hd hcd
end

/-! ### tests -/
theorem iteF {A B : Prop} (h : B) : if false = true then A else B := by
  rw [if_neg Bool.false_ne_true]
  exact h
theorem iteT {A B : Prop} (h : A) : if true = true then A else B := by
  rw [if_pos rfl]
  exact h
theorem ite2 {c A B : Prop} [Decidable c] (h1 : c → A) (h2 : ¬ c → B) : if c then A else B := by
  by_cases h : c
  · rw [if_pos h]
    exact h1 h
  · rw [if_neg h]
    exact h2 h
theorem iteNS {c A B : Prop} [Decidable c] (hc : c) (h : B) : if (!decide c) = true then A else B := by
  rw [decide_eq_true hc]
  exact iteF h

/-! ### heaps -/
/-- all that was tracked is as it was -/
def Same (H H' : Hp) : Prop := ∀ b o, H b = some o → H' b = some o
theorem Same.refl (H : Hp) : Same H H := fun _ _ h => h
theorem Same.trans {H H1 H2 : Hp} (a : Same H H1) (b : Same H1 H2) : Same H H2 := fun c o h => b c o (a c o h)
theorem Same.free {H H' : Hp} (e : Same H H') {l : Addr} (h : H' l = Option.none) : H l = Option.none := by
  cases q : H l with
  | none => rfl
  | some o =>
    rw [e l o q] at h
    cases h
theorem Same.seq {K : PySem.W.Frag} {H H' : Hp} {a : Addr} {xs : List V} (e : Same H H') (h : SqL K H a xs) : SqL K H' a xs := by
  rcases h with (h | ⟨o, h⟩) | h
  · exact .inl (.inl (e _ _ h))
  · exact .inl (.inr ⟨o, e _ _ h⟩)
  · exact .inr h

/-! ### a dict's pairs: keys that differ -/
section
variable {κ : Type} [DecidableEq κ]
theorem nd_snoc : ∀ {l : List κ} {k : κ}, l.Nodup → ¬ k ∈ l → (l ++ [k]).Nodup
  | [], k, _, _ => by simp
  | a :: r, k, h, hk => by
    obtain ⟨h1, h2⟩ := List.nodup_cons.mp h
    show (a :: (r ++ [k])).Nodup
    refine List.nodup_cons.mpr ⟨fun m => ?_, nd_snoc h2 fun m => hk (List.mem_cons.mpr (Or.inr m))⟩
    rcases List.mem_append.mp m with q | q
    · exact h1 q
    · exact hk (List.mem_cons.mpr (Or.inl (List.mem_singleton.mp q).symm))
end
end L2

set_option Elab.async false
set_option linter.all false
set_option maxRecDepth 100000
/-! own work over the hand layer: list comprehensions, texts walked sign by sign -/
namespace L2
open PySem PySem.Spec PyProof.Rows

/-! ### what a comprehension's block takes from around it -/
def closL (env : Env) : List (Str × NameKind) → List (Str × Addr) → List (Str × Addr)
  | [], cs => cs
  | y :: r, cs => closL env r (if y.2 == NameKind.free then (y.1, (env.cells.lookup y.1).getD 0) :: cs else cs)
theorem forIn_closL {env : Env} (f : Str × NameKind → List (Str × Addr) → Sem (ForInStep (List (Str × Addr)))) :
    ∀ (ns : List (Str × NameKind)) (cs : List (Str × Addr)), (∀ y ∈ ns, ∀ c, f y c = pure (.yield (if y.2 == NameKind.free then (y.1, (env.cells.lookup y.1).getD 0) :: c else c))) →
      forIn ns cs f = pure (closL env ns cs)
  | [], cs, _ => rfl
  | y :: r, cs, h => by
    rw [List.forIn_cons, h y List.mem_cons_self, pure_bind]
    exact forIn_closL f r _ fun z hz => h z (List.mem_cons_of_mem _ hz)
theorem closureFor_of {env : Env} {scope : Scope} (h : ∀ y ∈ scope.names, y.2 = .free → ∃ c, env.cells.lookup y.1 = some c) :
    closureFor scope env = pure (closL env scope.names []) := by
  simp only [closureFor]
  rw [forIn_closL (env := env) _ _ _ (fun y hy c => ?_)]
  · rfl
  · obtain ⟨n, k⟩ := y
    cases hk : (k == NameKind.free) with
    | true =>
      obtain ⟨a, ha⟩ := h (n, k) hy (by simpa using hk)
      have ha' : env.cells.lookup n = some a := ha
      simp only [if_true, cellOf, ha', Option.getD_some, pure_bind]
    | false => simp only [Bool.false_eq_true, if_false]
theorem closL_sub {env : Env} : ∀ (ns : List (Str × NameKind)) (cs : List (Str × Addr)), (∀ y ∈ ns, y.2 = .free → ∃ c, env.cells.lookup y.1 = some c) →
    (∀ n c, cs.lookup n = some c → env.cells.lookup n = some c) → ∀ n c, (closL env ns cs).lookup n = some c → env.cells.lookup n = some c
  | [], cs, _, h, n, c, e => h n c e
  | y :: r, cs, hf, h, n, c, e => by
    refine closL_sub r _ (fun z hz => hf z (List.mem_cons_of_mem _ hz)) (fun n c e => ?_) n c e
    split at e
    · rename_i hk
      obtain ⟨a, ha⟩ := hf y List.mem_cons_self (by simpa using hk)
      rw [ha, Option.getD_some] at e
      cases hn : n == y.1 with
      | true =>
        simp only [List.lookup_cons, hn] at e
        cases e
        rw [eq_of_beq hn]
        exact ha
      | false =>
        simp only [List.lookup_cons, hn] at e
        exact h n c e
    · exact h n c e
theorem closL_has {env : Env} : ∀ (ns : List (Str × NameKind)) (cs : List (Str × Addr)) (n : Str), ((n, NameKind.free) ∈ ns ∨ (cs.lookup n).isSome = true) →
    ((closL env ns cs).lookup n).isSome = true
  | [], cs, n, h => by
    rcases h with h | h
    · cases h
    · exact h
  | y :: r, cs, n, h => by
    refine closL_has r _ n ?_
    rcases h with h | h
    · rcases List.mem_cons.mp h with h | h
      · right
        subst h
        simp
      · exact .inl h
    · right
      split
      · cases hn : n == y.1 with
        | true => simp only [List.lookup_cons, hn]; rfl
        | false => simp only [List.lookup_cons, hn]; exact h
      · exact h

/-- a name's kind within the block -/
def rlab (env : Env) (n : Str) (k : NameKind) : NameKind := if (k == NameKind.free && env.scope.kind == .function && env.kindOf n == some .cell) = true then .cell else k
theorem relab_look (env : Env) (x : Str) : ∀ names : List (Str × NameKind),
    (names.map fun (n, k) => if (k == NameKind.free && env.scope.kind == .function && env.kindOf n == some .cell) then (n, NameKind.cell) else (n, k)).lookup x = (names.lookup x).map (rlab env x)
  | [] => rfl
  | (n, k) :: r => by
    have ih := relab_look env x r
    have e1 : (if (k == NameKind.free && env.scope.kind == .function && env.kindOf n == some .cell) = true then (n, NameKind.cell) else (n, k)) = (n, rlab env n k) := by
      unfold rlab
      split <;> rfl
    rw [List.map_cons]
    show List.lookup x ((if (k == NameKind.free && env.scope.kind == .function && env.kindOf n == some .cell) = true then (n, NameKind.cell) else (n, k)) :: _) = _
    rw [e1]
    cases hx : x == n with
    | true =>
      simp only [List.lookup_cons, hx]
      rw [eq_of_beq hx]
      rfl
    | false =>
      simp only [List.lookup_cons, hx]
      exact ih
theorem relabel_look (scope : Scope) (env : Env) (x : Str) : (relabel scope env).names.lookup x = (scope.names.lookup x).map (rlab env x) := relab_look env x scope.names

/-! ### the block's context -/
/-- its names: the targets, then the outer names at the places mp -/
def lcN (N xs : List Str) (mp : List Nat) : List Str := xs ++ mp.map fun j => N.getD j ""
def lcS (k : Nat) (mp : List Nat) (σ : St) : St := List.replicate k none ++ mp.map fun j => (σ[j]?).getD none
structure LcOk (sc scope : Scope) (N xs : List Str) (mp : List Nat) : Prop where
  kind : scope.kind = .function
  nocell : ∀ y ∈ scope.names, y.2 ≠ .cell
  names : ∀ y ∈ scope.names, y.2 = .local → scope.names.lookup y.1 = some .local
  tg : ∀ x ∈ xs, scope.names.lookup x = some .local
  fr : ∀ y ∈ scope.names, y.2 = .free → sc.names.lookup y.1 = some .cell ∨ sc.names.lookup y.1 = some .free
  out : ∀ j ∈ mp, scope.names.lookup (N.getD j "") = some .free
  nd : (lcN N xs mp).Nodup
def lcChk (sc scope : Scope) (N xs : List Str) (mp : List Nat) : Bool :=
  decide (scope.kind = .function) && scope.names.all (fun y => decide (y.2 ≠ .cell)) && scope.names.all (fun y => decide (y.2 = .local → scope.names.lookup y.1 = some .local)) &&
    xs.all (fun x => decide (scope.names.lookup x = some .local)) && scope.names.all (fun y => decide (y.2 = .free → sc.names.lookup y.1 = some .cell ∨ sc.names.lookup y.1 = some .free)) &&
    mp.all (fun j => decide (scope.names.lookup (N.getD j "") = some .free)) && decide (lcN N xs mp).Nodup
theorem lcChk_ok {sc scope : Scope} {N xs : List Str} {mp : List Nat} (h : lcChk sc scope N xs mp = true) : LcOk sc scope N xs mp := by
  simp only [lcChk, Bool.and_eq_true, List.all_eq_true, decide_eq_true_eq] at h
  obtain ⟨⟨⟨⟨⟨⟨h1, h2⟩, h3⟩, h4⟩, h5⟩, h6⟩, h7⟩ := h
  exact ⟨h1, h2, h3, h4, h5, h6, h7⟩

abbrev lcx (X : Cx) (M : List Str) (scope : Scope) (cl : List (Str × Addr)) (C : Addr) (s₀ : Shared) (H₀ : Hp) (fp : List Addr) : Cx where
  prog := X.prog
  w := X.w
  K := X.K
  mg := X.mg
  base := X.base
  A := X.A
  N := M
  s₀ := s₀
  H₀ := H₀
  env := compEnvC scope cl C X.env
  outer := X.stack
  stack := X.stack
  ex := fp
  fn := fun _ => false
  calm := X.calm
  pn := []
  xe := fun _ _ => False

section
variable {X : Cx} {pins : List (Addr × Obj)} {σ : St} {H₀ : Hp} {s₀ : Shared} {scope sc : Scope} {N xs : List Str} {mp : List Nat} {fp : List Addr}

theorem lc_cells (I : Inv X pins σ H₀ s₀) (hsc : X.env.scope = sc) (S : LcOk sc scope N xs mp) : ∀ y ∈ scope.names, y.2 = .free → ∃ c, X.env.cells.lookup y.1 = some c := fun y hy e => by
  refine I.ok.has y.1 ?_
  have q := S.fr y hy e
  rw [← hsc] at q
  exact q
theorem lc_sub (I : Inv X pins σ H₀ s₀) (hsc : X.env.scope = sc) (S : LcOk sc scope N xs mp) {n : Str} {c : Addr} (e : (closL X.env scope.names []).lookup n = some c) : X.env.cells.lookup n = some c :=
  closL_sub scope.names [] (lc_cells I hsc S) (fun _ _ z => nomatch z) n c e

theorem lc_inv {h₁ : Heap} {o : Obj} {m : Str → Option Value} {tk : Nat} (I : Inv X pins σ H₀ s₀) (hsc : X.env.scope = sc) (S : LcOk sc scope N xs mp) (hf : ∀ b ∈ fp, FpOk X pins H₀ b)
    (hx : ∀ b ∈ fp, ∃ ob, s₀.heap.get? b = some ob) (hns : h₁.Ns s₀.heap.objs.size m) (hsb : Heap.SameBut s₀.heap.objs.size (s₀.heap.push o) h₁) :
    Inv (lcx X (lcN N xs mp) scope (closL X.env scope.names []) s₀.heap.objs.size s₀ H₀ fp) [] (List.replicate (xs.length + mp.length) none) H₀ { s₀ with heap := h₁, toks := tk } := by
  have kp : ∀ b u, s₀.heap.get? b = some u → h₁.get? b = some u := fun b u e => hsb.extBut b u (Nat.ne_of_lt (Heap.lt_size e)) (Heap.get?_push_of_some _ e)
  have sub := @lc_sub X pins σ H₀ s₀ scope sc N xs mp I hsc S
  refine ⟨⟨I.ok.mod, S.kind, I.ok.glob, I.ok.blt, Nat.le_refl _, fun x y c e1 e2 => I.ok.inj x y c (sub e1) (sub e2), fun x hk => ?_, fun x c h _ => (Bool.false_ne_true h).elim, I.ok.hd, I.ok.frames, .inl rfl,
    fun b hb => ⟨?_, fun x c e => (hf b hb).2.2.2.2.1 x c (sub e)⟩, fun b o e => I.bs b o e, Nat.le_trans I.ok.bsz I.sz, fun b o e hb => ?_, fun b hb z => ?_, I.stack, I.stkFree⟩,
    rfl, I.bare, Un.kept kp, ⟨m, hns, fun i x v _ e2 _ => ?_⟩, fun x c e => ?_, I.hok.fresh (Nat.le_refl _), fun x c e => I.freeC x c (sub e), fun p hp => absurd (show p ∈ ([] : List (Addr × Obj)) from hp) (by simp), I.hok.kept kp, ?_⟩
  · have hk' : (relabel scope X.env).names.lookup x = some .cell ∨ (relabel scope X.env).names.lookup x = some .free := hk
    rw [relabel_look] at hk'
    cases e : scope.names.lookup x with
    | none => rw [e] at hk'; rcases hk' with z | z <;> cases z
    | some k =>
      have mem : (x, k) ∈ scope.names := PySem.mem_of_lookup e
      have hkf : k = .free := by
        rw [e] at hk'
        have n1 := S.nocell _ mem
        simp only [Option.map_some, Option.some.injEq] at hk'
        unfold rlab at hk'
        split at hk'
        · rename_i hc
          simp only [Bool.and_eq_true] at hc
          simpa using hc.1.1
        · rcases hk' with z | z
          · exact absurd z n1
          · exact z
      subst hkf
      exact Option.isSome_iff_exists.mp (closL_has scope.names [] x (.inl mem))
  · obtain ⟨ob, e⟩ := hx b hb
    exact Nat.ne_of_lt (Heap.lt_size e)
  · rcases (hf b hb).2.2.2.1 with z | z
    · exact I.ok.noex b o e z
    · exact absurd (Nat.lt_of_lt_of_le (Heap.lt_size (I.ok.bs b o e).1) z) (Nat.lt_irrefl _)
  · rcases List.mem_cons.mp (I.stkSub b z) with e | e
    · exact (hf b hb).2.1 e
    · exact (hf b hb).2.2.1 e
  · rw [List.getElem?_replicate] at e2
    split at e2 <;> cases e2
  · obtain ⟨v, ob, ho, hd⟩ := I.cell x c (sub e)
    exact ⟨v, ob, kp c ob ho, hd⟩
  · show (List.replicate (xs.length + mp.length) none : St).length = (lcN N xs mp).length
    simp [lcN]

/-- between two turns: the targets forgotten, the outer names as they were -/
theorem lc_reset {pY : List (Addr × Obj)} {σ' : St} {H : Hp} {s' : Shared} {C : Addr} (I : Inv X pins σ H₀ s₀) (hsc : X.env.scope = sc) (hN : X.N = N) (S : LcOk sc scope N xs mp) (hf : ∀ b ∈ fp, FpOk X pins H₀ b)
    (J : Inv (lcx X (lcN N xs mp) scope (closL X.env scope.names []) C s₀ H₀ fp) pY σ' H s') : Inv (lcx X (lcN N xs mp) scope (closL X.env scope.names []) C s₀ H₀ fp) pY (lcS xs.length mp σ) H s' := by
  obtain ⟨m, hn, _⟩ := J.loc
  refine ⟨J.ok, J.os, J.bare, J.base, ⟨m, hn, fun i x v e1 e2 e3 => ?_⟩, J.cell, J.free, J.freeC, J.pin, J.hok, ?_⟩
  · have e1' : (lcN N xs mp)[i]? = some x := e1
    unfold lcN at e1'
    unfold lcS at e2
    by_cases hi : i < xs.length
    · rw [List.getElem?_append_left (by simpa using hi), List.getElem?_replicate, if_pos hi] at e2
      cases e2
    · rw [List.getElem?_append_right (by simpa using hi), List.length_replicate, List.getElem?_map] at e2
      rw [List.getElem?_append_right (by simpa using hi), List.getElem?_map] at e1'
      cases ej : mp[i - xs.length]? with
      | none => rw [ej] at e2; cases e2
      | some j =>
        rw [ej] at e1' e2
        have e1'' : N.getD j "" = x := Option.some.inj e1'
        have e2' : (σ[j]?).getD none = some v := Option.some.inj e2
        have e2'' : σ[j]? = some (some v) := by
          cases q : σ[j]? with
          | none => rw [q] at e2'; cases e2'
          | some z => rw [q] at e2'; exact congrArg some e2'
        have hj : j < N.length := by
          have h1 := (List.getElem?_eq_some_iff.mp e2'').1
          rw [I.len, hN] at h1
          exact h1
        have eN : N[j]? = some x := by
          rw [← e1'', List.getD_eq_getElem?_getD]
          cases q : N[j]? with
          | none => exact absurd (List.getElem?_eq_none_iff.mp q) (by omega)
          | some z => rfl
        have fr : scope.names.lookup x = some .free := by rw [← e1'']; exact S.out j (List.mem_of_getElem? ej)
        have mem : (x, NameKind.free) ∈ scope.names := PySem.mem_of_lookup fr
        have kX : X.env.scope.names.lookup x = some .cell ∨ X.env.scope.names.lookup x = some .free := by
          rw [hsc]
          exact S.fr _ mem rfl
        obtain ⟨mX, hnX, hl⟩ := I.loc
        obtain ⟨u, r, lk⟩ := hl j x v (by rw [hN]; exact eN) e2'' (.inr kX)
        rcases lk with ⟨k, _⟩ | ⟨k, c, hc, hcell⟩
        · have k' : X.env.scope.names.lookup x = some .local := k
          rw [k'] at kX
          rcases kX with z | z <;> cases z
        · refine ⟨u, r, .inr ⟨?_, c, ?_, ?_⟩⟩
          · show (relabel scope X.env).names.lookup x = some .cell ∨ (relabel scope X.env).names.lookup x = some .free
            rw [relabel_look, fr]
            simp only [Option.map_some]
            unfold rlab
            split
            · exact .inl rfl
            · exact .inr rfl
          · obtain ⟨c', e'⟩ := Option.isSome_iff_exists.mp (closL_has (env := X.env) scope.names [] x (.inl mem))
            have e'' := lc_sub I hsc S e'
            rw [hc] at e''
            cases e''
            exact e'
          · obtain ⟨ob, ho, hd⟩ := hcell
            obtain ⟨sl, q⟩ := J.base.any ho (I.freeC x c hc) fun z => (hf c z).2.2.2.2.1 x c hc rfl
            exact ⟨_, q, hd⟩
  · show (lcS xs.length mp σ).length = (lcN N xs mp).length
    simp [lcS, lcN]

theorem lc_back {pY : List (Addr × Obj)} {σ' : St} {H : Hp} {s' : Shared} {C : Addr} {M : List Str} {cl : List (Str × Addr)} (I : Inv X pins σ H₀ s₀) (hf : ∀ b ∈ fp, FpOk X pins H₀ b)
    (J : Inv (lcx X M scope cl C s₀ H₀ fp) pY σ' H s') : Inv X pins σ H s' :=
  I.call' (ch := fp) J.os J.base J.hok J.bare fun b hb => ⟨(hf b hb).2.2.2.1, (hf b hb).2.1, (hf b hb).2.2.2.2.1, (hf b hb).2.2.2.2.2⟩
end

/-! ### the loop -/
theorem compLoop_of {prog : Program} {w : World} {A : Around} {R : Result → Shared → Prop} {s : Shared} {elt target iter : Expr} {ifs : List Expr} {scope : Scope} {pos : Pos} {it acc : Value} {env : Env} (I : Nat → Shared → Prop)
    (turn : ∀ n s, I n s → wpAny (model prog w) A (pyNext it) (fun r s1 => match r with
      | none => R (.ok .next) s1
      | some v => wpAny (model prog w) A (letOwnedTupleGo target it v) (fun _ s1' => wpAny (model prog w) A (assign target env v) (fun _ s2 =>
          wpAny (model prog w) A (forIn ifs true fun c r => if r = true then do let ok ← isTrue c env (eval c env); pure (ForInStep.yield ok) else pure (ForInStep.yield r)) (fun ok s3 =>
            if ok = true then wpAny (model prog w) A (eval elt env) (fun x s4 => wpAny (model prog w) A (call (.builtin "list.append") [acc, x]) (fun _ s5 => ∃ m, m < n ∧ I m s5) (fun _ _ => False) s4) (fun _ _ => False) s3
            else ∃ m, m < n ∧ I m s3) (fun _ _ => False) s2) (fun _ _ => False) s1') (fun _ _ => False) s1) (fun _ _ => False) s)
    (n : Nat) (h : I n s) : codeAny (model prog w) A (.compLoop (.ListComp elt [⟨target, iter, ifs, 0⟩] scope pos) 0 it acc env) R s := by
  refine codeAny_loop rfl I (fun n s hI => ?_) n h
  show wpAny (model prog w) A ((compTurn (.ListComp elt [⟨target, iter, ifs, 0⟩] scope pos) 0 it acc env).onRaise (fun x => do noteFrame x env; theTreesLotGoes x)) _ _ s
  refine wpAny_noted ?_
  rw [compTurn_list]
  refine wpAny_bind (wpAny_standAt (wpAny_bind (wpAny_mono (turn n s hI) (fun r s1 h1 => ?_) fun _ _ z => z.elim)))
  cases r with
  | none => exact wpAny_pure h1
  | some v =>
    refine wpAny_bind (wpAny_mono h1 (fun _ s1' h1' => ?_) fun _ _ z => z.elim)
    refine wpAny_bind (wpAny_mono h1' (fun _ s2 h2 => wpAny_bind (wpAny_mono h2 (fun ok s3 h3 => ?_) fun _ _ z => z.elim)) fun _ _ z => z.elim)
    cases ok with
    | false => exact wpAny_pure ⟨rfl, h3⟩
    | true => exact wpAny_bind (wpAny_bind (wpAny_mono h3 (fun x s4 h4 => wpAny_bind (wpAny_mono h4 (fun _ s5 h5 => wpAny_pure (wpAny_pure ⟨rfl, h5⟩)) fun _ _ z => z.elim)) fun _ _ z => z.elim))

/-- the tests of a clause -/
def PCs (X : Cx) (ifs : List Expr) (t : TT) : Prop :=
  ∀ (pins : List (Addr × Obj)) (s : Shared) (σ : St) (H : Hp) (Q : Bool → Hp → Prop), Inv X pins σ H s → t σ H Q →
    wpAny (model X.prog X.w) X.A (forIn ifs true fun c r => if r = true then do let ok ← isTrue c X.env (eval c X.env); pure (ForInStep.yield ok) else pure (ForInStep.yield r)) (TP X pins σ Q) X.xe s
def tYes : TT := fun _ H Q => Q true H
theorem pcs_nil {X : Cx} : PCs X [] tYes := fun _ _ _ H _ I h => wpAny_tests_nil ⟨H, I, h⟩

/-- what a comprehension asks, behind its iterator: W by the turn, a measure, the items so far -/
def lcPost (k : Nat) (mp : List Nat) (σ : St) (g : TG) (tc : TT) (te : TE) (J : It) (H1 : Hp) (Q : VK) : Prop :=
  ∀ D, H1 D = none → ∃ W : Nat → Nat → List V → Hp → Prop, (∃ m, W 0 m [] (upd H1 D (.lst []))) ∧ ∀ i m acc H2, W i m acc H2 →
    (J.stop i H2 ∧ Q (.ref D) H2) ∨ (J.go i H2 ∧ ∀ x H3, J.yld i H2 x H3 → g x (lcS k mp σ) H3 fun σ4 H4 => tc σ4 H4 fun b H5 =>
      if b = true then te σ4 H5 fun v H6 => H6 D = some (.lst acc) ∧ acc.length < sizeLine ∧ ∃ m', m' < m ∧ W (i + 1) m' (acc ++ [v]) (upd H6 D (.lst (acc ++ [v])))
      else ∃ m', m' < m ∧ W (i + 1) m' acc H5)
def tLc (k : Nat) (mp : List Nat) (wi : TI) (g : TG) (tc : TT) (te : TE) : TE := fun σ H Q => wi σ H fun J H1 => lcPost k mp σ g tc te J H1 Q

section
variable {X : Cx} {pins : List (Addr × Obj)} {σ : St} {elt tgt iter : Expr} {ifs : List Expr} {scope sc : Scope} {pos : Pos} {N xs : List Str} {mp : List Nat} {wi : TI} {g : TG} {tc : TT} {te : TE}

theorem lc_run {H2 : Hp} {s2 : Shared} {it : Addr} {fp : List Addr} {tn : Nat → Heap → Prop} {J : It} {Qv : VK} {E : Value → Shared → Prop} {RR : Value → Addr → Result → Shared → Prop}
    (hsc : X.env.scope = sc) (hN : X.N = N) (S : LcOk sc scope N xs mp) (hcalm : X.calm = true)
    (hg : ∀ cl C s₀ H₀ fp, PG (lcx X (lcN N xs mp) scope cl C s₀ H₀ fp) tgt g) (hc : ∀ cl C s₀ H₀ fp, PCs (lcx X (lcN N xs mp) scope cl C s₀ H₀ fp) ifs tc) (he : ∀ cl C s₀ H₀ fp, PE (lcx X (lcN N xs mp) scope cl C s₀ H₀ fp) elt te)
    (I2 : Inv X pins σ H2 s2) (T : Turn X.prog X.w X.K tgt J fp it tn) (st2 : tn 0 s2.heap) (f2 : ∀ b ∈ fp, FpOk X pins H2 b) (h : lcPost xs.length mp σ g tc te J H2 Qv)
    (hRR : ∀ (D C : Addr) (s' : Shared) (H' : Hp) (m : Str → Option Value), s'.heap.Ns C m → Inv X pins σ H' s' → FpOk X pins H' C → Qv (.ref D) H' → RR (.ref D) C (.ok .next) s') :
    wpAny (model X.prog X.w) X.A (newList []) (fun acc s3 => wpAny (model X.prog X.w) X.A (newFunctionEnv scope X.env.globals (closL X.env scope.names []) [] X.env.qual none .none (some X.env)) (fun cenv s4 =>
      codeAny (model X.prog X.w) X.A (.compStart (.ListComp elt [⟨tgt, iter, ifs, 0⟩] scope pos) 0 (.ref it) acc { cenv with scope := relabel scope X.env }) (RR acc cenv.locals) s4) E s3) E s2 := by
  have hD : H2 s2.heap.objs.size = none := I2.hok.fresh (Nat.le_refl _)
  obtain ⟨W, ⟨m0, w0⟩, turn⟩ := h s2.heap.objs.size hD
  refine wpAny_newObj_type (wpAny_newFunctionEnv S.nocell (by intro y hy; simp at hy) (fun h1 hns1 hsb1 => ?_) S.kind)
  dsimp only at hns1 hsb1 ⊢
  have fpD : ∀ b ∈ fp, b ≠ s2.heap.objs.size := fun b hb => by
    obtain ⟨o, e, _⟩ := T.obj _ _ st2 b hb
    exact Nat.ne_of_lt (Heap.lt_size e)
  have I3 : Inv X pins σ (upd H2 s2.heap.objs.size (.lst [])) { s2 with heap := s2.heap.push { cls := .type "list", dict := none, data := .seq ([] : List Value).toArray } } :=
    I2.laid (t' := s2.toks) (fun b u e => Heap.get?_push_of_some _ e) (Nat.le_refl _) ⟨Nat.zero_le _, [], 0, .nil, Heap.get?_push_size _ rfl⟩
  have f3 : ∀ b ∈ fp, FpOk X pins (upd H2 s2.heap.objs.size (.lst [])) b := fun b hb => ⟨by rw [upd_ne (fpD b hb)]; exact (f2 b hb).1, (f2 b hb).2⟩
  generalize hs3 : ({ s2 with heap := s2.heap.push { cls := .type "list", dict := none, data := .seq ([] : List Value).toArray } } : Shared) = s3 at I3
  have hh3 : s2.heap.push { cls := .type "list", dict := none, data := .seq ([] : List Value).toArray } = s3.heap := by rw [← hs3]
  have kp3 : ∀ b o, s2.heap.get? b = some o → s3.heap.get? b = some o := fun b o e => by rw [← hh3]; exact Heap.get?_push_of_some _ e
  rw [hh3] at hns1 hsb1 ⊢
  have st3 : tn 0 s3.heap := T.keep _ _ _ st2 fun b _ o e => kp3 b o e
  have x3 : ∀ b ∈ fp, ∃ o, s3.heap.get? b = some o := fun b hb => by
    obtain ⟨o, e, _⟩ := T.obj _ _ st3 b hb
    exact ⟨o, e⟩
  have st4 : tn 0 h1 := T.keep _ _ _ st3 fun b _ o e => hsb1.extBut b o (Nat.ne_of_lt (Heap.lt_size e)) (Heap.get?_push_of_some _ e)
  have I4 := fun tk => lc_reset I3 hsc hN S f3 (lc_inv (tk := tk) I3 hsc S f3 x3 hns1 hsb1)
  have key : ∀ s4 : Shared, s4 = { s3 with heap := h1, toks := s4.toks } → codeAny (model X.prog X.w) X.A (.compLoop (.ListComp elt [⟨tgt, iter, ifs, 0⟩] scope pos) 0 (.ref it) (.ref s2.heap.objs.size) (compEnvC scope (closL X.env scope.names []) s3.heap.objs.size X.env))
      (RR (.ref s2.heap.objs.size) s3.heap.objs.size) s4 := by
    intro s4 hs4
    have stat : ∀ {H' : Hp}, (∀ b ∈ fp, H' b = none) → ∀ b ∈ fp, FpOk (lcx X (lcN N xs mp) scope (closL X.env scope.names []) s3.heap.objs.size s3 (upd H2 s2.heap.objs.size (.lst [])) fp) [] H' b := fun hn b hb =>
      ⟨hn b hb, ((I4 0).ok.exf b hb).1, (I4 0).ok.exfs b hb, .inl hb, ((I4 0).ok.exf b hb).2, fun p hp => absurd (show p ∈ ([] : List (Addr × Obj)) from hp) (by simp)⟩
    refine compLoop_of (fun n s' => ∃ i acc H', Inv (lcx X (lcN N xs mp) scope (closL X.env scope.names []) s3.heap.objs.size s3 (upd H2 s2.heap.objs.size (.lst [])) fp) [] (lcS xs.length mp σ) H' s' ∧ tn i s'.heap ∧ (∀ b ∈ fp, H' b = none) ∧ W i n acc H') ?_ m0
      ⟨0, [], _, (by rw [hs4]; exact I4 _), (by rw [hs4]; exact st4), fun b hb => (f3 b hb).1, w0⟩
    rintro n s6 ⟨i, acc, H6, I6, st6, fr6, w6⟩
    rcases turn i n acc H6 w6 with ⟨stop, q⟩ | ⟨go, step⟩
    · refine thn (T.done (lcx X (lcN N xs mp) scope (closL X.env scope.names []) s3.heap.objs.size s3 (upd H2 s2.heap.objs.size (.lst [])) fp) rfl rfl rfl hcalm i [] s6 _ H6 _ I6 (stat fr6) st6 stop) fun r s7 ⟨hr, I7⟩ => ?_
      subst hr
      obtain ⟨m7, hn7, _⟩ := I7.loc
      exact hRR _ _ s7 H6 m7 hn7 (lc_back I3 f3 I7) (I3.fpOk (Nat.le_refl _) I7.free) q
    · refine thn (T.item (lcx X (lcN N xs mp) scope (closL X.env scope.names []) s3.heap.objs.size s3 (upd H2 s2.heap.objs.size (.lst [])) fp) rfl rfl rfl hcalm i [] s6 _ H6 _ I6 (stat fr6) st6 go) fun r s7 ⟨u, hr, h7⟩ => ?_
      subst hr
      refine thn h7 fun _ s8 ⟨x, H8, I8, r8, y8, st8, fr8⟩ => ?_
      have I8' := I8.pinned (stat fr8) (T.obj _ _ st8)
      have again : ∀ {σ' : St} {H' : Hp} {s' : Shared}, Inv (lcx X (lcN N xs mp) scope (closL X.env scope.names []) s3.heap.objs.size s3 (upd H2 s2.heap.objs.size (.lst [])) fp) ([] ++ pinsAt fp s8.heap) σ' H' s' → (∃ m acc', m < n ∧ W (i + 1) m acc' H') →
          ∃ m, m < n ∧ ∃ i acc H', Inv (lcx X (lcN N xs mp) scope (closL X.env scope.names []) s3.heap.objs.size s3 (upd H2 s2.heap.objs.size (.lst [])) fp) [] (lcS xs.length mp σ) H' s' ∧ tn i s'.heap ∧ (∀ b ∈ fp, H' b = none) ∧ W i m acc H' := by
        intro σ' H' s' J ⟨m, acc', hm, w'⟩
        refine ⟨m, hm, i + 1, acc', H', lc_reset I3 hsc hN S f3 J.unpinned, T.keep _ _ _ st8 fun b hb o e => (J.pin (b, o) (List.mem_append_right _ (List.mem_append_right _ (mem_pinsAt hb e)))).1, fun b hb => ?_, w'⟩
        obtain ⟨o, e, _⟩ := T.obj _ _ st8 b hb
        exact (J.pin (b, o) (List.mem_append_right _ (List.mem_append_right _ (mem_pinsAt hb e)))).2.1
      refine thn (hg _ _ _ _ _ _ s8 _ H8 x u _ I8' r8 (step x H8 y8)) fun _ s9 ⟨σ9, H9, I9, q9⟩ => ?_
      refine thn (hc _ _ _ _ _ _ s9 σ9 H9 _ I9 q9) fun b s10 ⟨H10, I10, q10⟩ => ?_
      cases b with
      | false =>
        obtain ⟨m', hm, w'⟩ := q10
        exact again I10 ⟨m', acc, hm, w'⟩
      | true =>
        refine thn (he _ _ _ _ _ _ s10 σ9 H10 _ I10 q10) fun yv s11 ⟨v, H11, I11, r11, hDa, hz, m', hm, w'⟩ => ?_
        refine thn (mt_append _ s11 σ9 H11 (.ref s2.heap.objs.size) [v] (.ref s2.heap.objs.size) [yv] (fun _ H12 => H12 = upd H11 s2.heap.objs.size (.lst (acc ++ [v]))) I11 rfl (.cons r11 .nil) ⟨_, acc, v, rfl, rfl, hDa, hz, rfl⟩) fun _ s12 ⟨_, H12, I12, _, e12⟩ => ?_
        subst e12
        exact again I12 ⟨m', _, hm, w'⟩
  subst hs3
  exact codeAny_compStart_list (key _ rfl) (T.self X.A 0 _ _ _ st4 (key _ rfl))

/-- [elt for tgt in iter if ..] -/
theorem pe_lcomp (sc : Scope) (N xs : List Str) (mp : List Nat) (hcalm : X.calm = true) (hi : PI X tgt iter wi) (hg : ∀ cl C s₀ H₀ fp, PG (lcx X (lcN N xs mp) scope cl C s₀ H₀ fp) tgt g)
    (hc : ∀ cl C s₀ H₀ fp, PCs (lcx X (lcN N xs mp) scope cl C s₀ H₀ fp) ifs tc) (he : ∀ cl C s₀ H₀ fp, PE (lcx X (lcN N xs mp) scope cl C s₀ H₀ fp) elt te)
    (S : lcChk sc scope N xs mp = true := by decide +kernel) (hsc : X.env.scope = sc := by rfl) (hN : X.N = N := by rfl) (hs : ∀ x, foldedSetIterable iter X.env x = pure x := by intro _; rfl) :
    PE X (.ListComp elt [⟨tgt, iter, ifs, 0⟩] scope pos) (tLc xs.length mp wi g tc te) := by
  intro pins s σ H Q I h
  have S' := lcChk_ok S
  rw [eval_ListComp]
  refine wpAny_comprehension_free (use := none) rfl hs (closureFor_of (lc_cells I hsc S')) S'.kind S'.names (thn (hi pins s σ H _ I h) fun v s1 h1 => thn h1 fun itv s2 h2 => ?_)
  obtain ⟨it, fp, tn, J, H2, e, I2, T, st2, f2, h3⟩ := h2
  subst e
  refine lc_run (RR := fun acc C => compPost (model X.prog X.w) X.A X.xe none (EP X pins σ Q) acc C) hsc hN S' hcalm hg hc he I2 T st2 f2 h3 ?_
  intro D C s' H' m hn I' fC q
  exact ⟨m, hn, fun h' hs' => ⟨.ref D, H', I'.turned (t' := s'.toks) (fun b o hb e => hs'.extBut b o hb e) fC.1 fC.2.1 fC.2.2.2.1 fC.2.2.2.2.1 fC.2.2.2.2.2, rfl, q⟩⟩

end

/-! ### the forms one uses -/
def TSame (H H' : Hp) : Prop := ∀ b xs, H b = some (.tup xs) → H' b = some (.tup xs)
theorem Same.tup {H H' : Hp} (h : Same H H') : TSame H H' := fun b xs e => h b _ e
theorem TSame.trans {H H1 H2 : Hp} (a : TSame H H1) (b : TSame H1 H2) : TSame H H2 := fun c xs e => b c xs (a c xs e)
theorem tsame_upd_lst {H : Hp} {D : Addr} {xs ys : List V} (h : H D = some (.lst xs)) : TSame H (upd H D (.lst ys)) := fun b zs e => by
  rw [upd_ne (fun z => by rw [z, h] at e; cases e)]
  exact e
theorem same_upd_new {H : Hp} {D : Addr} {o : HO} (h : H D = none) : Same H (upd H D o) := fun b u e => by
  rw [upd_ne (ne_of_none e h)]
  exact e
/-- no test; the items by R, which speaks of tuples alone -/
theorem lc_map {k : Nat} {mp : List Nat} {σ : St} {g : TG} {te : TE} {J : It} {H1 : Hp} {Q : VK} (n : Nat) (xs : Nat → V) (R : Nat → V → Hp → Prop) (hn : n ≤ sizeLine)
    (hR : ∀ i v H H', TSame H H' → R i v H → R i v H')
    (hJ : ∀ H, Same H1 H → (∀ i, i < n → J.go i H ∧ ∀ x H', J.yld i H x H' → H' = H ∧ x = xs i) ∧ J.stop n H)
    (step : ∀ i H (Qe : VK), i < n → Same H1 H → (∀ v H6, Same H H6 → R i v H6 → Qe v H6) → g (xs i) (lcS k mp σ) H fun σ4 H4 => te σ4 H4 Qe)
    (done : ∀ D vs H', vs.length = n → (∀ i v, vs[i]? = some v → R i v H') → Same H1 H' → H1 D = none → H' D = some (.lst vs) → Q (.ref D) H') : lcPost k mp σ g tYes te J H1 Q := by
  intro D hD
  refine ⟨fun i m acc H => m = n - i ∧ i ≤ n ∧ acc.length = i ∧ Same H1 H ∧ H D = some (.lst acc) ∧ ∀ j v, acc[j]? = some v → R j v H, ⟨n, by simp, Nat.zero_le _, rfl, same_upd_new hD, upd_same, fun j v e => by simp at e⟩, ?_⟩
  rintro i m acc H ⟨rfl, hi, hl, hs, hDa, hr⟩
  obtain ⟨j1, j2⟩ := hJ H hs
  by_cases hlt : i < n
  · refine .inr ⟨(j1 i hlt).1, fun x H3 y => ?_⟩
    obtain ⟨e1, e2⟩ := (j1 i hlt).2 x H3 y
    subst e1 e2
    refine step i H3 _ hlt hs fun v H6 s6 r6 => ⟨s6 _ _ hDa, by omega, n - (i + 1), by omega, rfl, hlt, by rw [List.length_append, hl]; rfl, fun b o e => ?_, upd_same, fun j u e => ?_⟩
    · rw [upd_ne (ne_of_none e hD)]
      exact s6 _ _ (hs b o e)
    · have ts : TSame H6 (upd H6 D (.lst (acc ++ [v]))) := tsame_upd_lst (s6 _ _ hDa)
      rcases Nat.lt_trichotomy j acc.length with h | h | h
      · rw [List.getElem?_append_left h] at e
        exact hR _ _ _ _ (s6.tup.trans ts) (hr j u e)
      · subst h
        rw [List.getElem?_append_right (Nat.le_refl _), Nat.sub_self] at e
        cases e
        rw [hl]
        exact hR _ _ _ _ ts r6
      · rw [List.getElem?_eq_none (by rw [List.length_append, List.length_singleton]; omega)] at e
        cases e
  · have e : i = n := by omega
    subst e
    exact .inl ⟨j2, done D acc H hl hr hs hD hDa⟩

theorem jt_list {K : PySem.W.Frag} {a : Addr} {ys : List V} {H1 : Hp} (h : SqL K H1 a ys) : ∀ H, Same H1 H → (∀ i, i < ys.length → (Itl K a).go i H ∧ ∀ x H', (Itl K a).yld i H x H' → H' = H ∧ x = ys.getD i .non) ∧ (Itl K a).stop ys.length H := fun H s => by
  have q := s.seq h
  refine ⟨fun i hi => ⟨⟨ys, ys[i], q, by simp [hi]⟩, fun x H' y => ⟨y.1, ?_⟩⟩, ⟨ys, q, Nat.le_refl _⟩⟩
  have e := y.2 ys q
  rw [List.getD_eq_getElem?_getD, e]
  rfl
theorem Same.tupS {K : PySem.W.Frag} {H H' : Hp} {a : Addr} {xs : List V} (e : Same H H') (h : SqT K H a xs) : SqT K H' a xs := by
  rcases h with (h | ⟨o, h⟩) | h
  · exact .inl (.inl (e _ _ h))
  · exact .inl (.inr ⟨o, e _ _ h⟩)
  · exact .inr h
theorem jt_tup {K : PySem.W.Frag} {a : Addr} {ys : List V} {H1 : Hp} (h : SqT K H1 a ys) : ∀ H, Same H1 H → (∀ i, i < ys.length → (Itt K a).go i H ∧ ∀ x H', (Itt K a).yld i H x H' → H' = H ∧ x = ys.getD i .non) ∧ (Itt K a).stop ys.length H := fun H s => by
  have q := s.tupS h
  refine ⟨fun i hi => ⟨⟨ys, ys[i], q, by simp [hi]⟩, fun x H' y => ⟨y.1, ?_⟩⟩, ⟨ys, q, Nat.le_refl _⟩⟩
  have e := y.2 ys q
  rw [List.getD_eq_getElem?_getD, e]
  rfl
theorem jt_range {lo : Int} {n : Nat} {H1 : Hp} : ∀ H, Same H1 H → (∀ i, i < n → (Itr lo n).go i H ∧ ∀ x H', (Itr lo n).yld i H x H' → H' = H ∧ x = .int (lo + i)) ∧ (Itr lo n).stop n H := fun H _ =>
  ⟨fun i hi => ⟨hi, fun x H' y => y⟩, Nat.le_refl _⟩

/-! ### a text's signs -/
def Its (x : Str) : It := ⟨fun i _ => i < x.cps.size, fun i H v H' => H' = H ∧ v = .str ⟨#[x.cps.getD i 0]⟩, fun i _ => x.cps.size ≤ i⟩
theorem jt_str {x : Str} {H1 : Hp} : ∀ H, Same H1 H → (∀ i, i < x.cps.size → (Its x).go i H ∧ ∀ v H', (Its x).yld i H v H' → H' = H ∧ v = .str ⟨#[x.cps.getD i 0]⟩) ∧ (Its x).stop x.cps.size H := fun H _ =>
  ⟨fun i hi => ⟨hi, fun v H' y => y⟩, Nat.le_refl _⟩
theorem turn_str {P : Program} {w : World} {K : PySem.W.Frag} {tg : Expr} (it : Addr) (x : Str) (t : Tok) (T : String) (hT : T = "str_ascii_iterator" ∨ T = "str_iterator") : Turn P w K tg (Its x) [it] it (fun i h => h.IsStrIter it T x t i) where
  mem := by simp
  obj := fun i h st b hb => by
    have e : b = it := by simpa using hb
    subst e
    obtain ⟨o, e, c, d⟩ := st
    exact ⟨o, e, fun v z => by rw [d] at z; cases z⟩
  keep := fun i h h' st k => by
    obtain ⟨o, e, c, d⟩ := st
    exact ⟨o, k it (by simp) o e, c, d⟩
  item := by
    intro X hP hw hK hc i pins s σ H E I hf st hg
    subst hP hw hK
    obtain ⟨f0, f1, f2, f3, f4, f5⟩ := hf it (by simp)
    have hd := I.ok.hd hc
    have fin : ∀ (v : Value) (h' : Heap) (tk : Nat), SignAt x i v → h'.IsStrIter it T x t (i + 1) → (∀ b o, b ∉ [it] → s.heap.get? b = some o → h'.get? b = some o) →
        ∃ u, some v = some u ∧ wpAny (model X.prog X.w) X.A (letOwnedTupleGo tg (.ref it) u) (fun _ s2 => ∃ y H', Inv X pins σ H' s2 ∧ RelV y u ∧ (Its x).yld i H y H' ∧ s2.heap.IsStrIter it T x t (i + 1) ∧ ∀ b ∈ [it], H' b = none) E { s with heap := h', toks := tk } := by
      intro v h' tk hv st' kk
      obtain ⟨c, u, hc', rfl⟩ := hv
      have I1 : Inv X pins σ H { s with heap := h', toks := tk } := I.turned (fun b o hb e => kk b o (by simpa using hb) e) f0 f1 f3 f4 f5
      obtain ⟨o, e, c1, d1⟩ := id st'
      refine ⟨_, rfl, go_of (s := { s with heap := h', toks := tk }) e c1 d1 (by rcases hT with z | z <;> rw [z] <;> decide) ⟨.str ⟨#[x.cps.getD i 0]⟩, H, I1, ⟨u, ?_⟩, ⟨rfl, rfl⟩, st', fun b hb => (hf b hb).1⟩⟩
      rw [Array.getD_eq_getD_getElem?, hc']
      rfl
    rcases hT with z | z
    · subst z
      exact (Walks.strAscii (prog := X.prog) (w := X.w) hd it x t).item i s _ _ hg st fun v h' tk hv st' kk => fin v h' tk hv st' kk
    · subst z
      exact (Walks.strWide (prog := X.prog) (w := X.w) hd it x t).item i s _ _ hg st fun v h' tk hv st' kk => fin v h' tk hv st' kk
  done := by
    intro X hP hw hK hc i pins s σ H E I hf st hg
    subst hP hw hK
    obtain ⟨f0, f1, f2, f3, f4, f5⟩ := hf it (by simp)
    have hd := I.ok.hd hc
    have hg' : x.cps.size ≤ i := hg
    have hn : x.cps[i]? = none := Array.getElem?_eq_none hg'
    rcases hT with z | z
    · subst z
      exact wpAny_pyNext_ascii_end hd st hn fun h' eb => ⟨rfl, I.turned (t' := s.toks) (fun b o hb e => eb b o hb e) f0 f1 f3 f4 f5⟩
    · subst z
      exact wpAny_pyNext_wide_end hd st hn fun h' eb => ⟨rfl, I.turned (t' := s.toks) (fun b o hb e => eb b o hb e) f0 f1 f3 f4 f5⟩
  self := fun _ _ _ _ _ st h => by
    rcases hT with z | z
    · subst z; exact wpAny_pyIter_striter_ascii st h
    · subst z; exact wpAny_pyIter_striter_wide st h
def iStr (tl : TE) : TI := fun σ H R => tl σ H fun v H1 => ∃ x, v = .str x ∧ R (Its x) H1
theorem pi_str {X : Cx} {tg l : Expr} {tl : TE} (hl : PE X l tl) : PI X tg l (iStr tl) := by
  intro pins s σ H R I h
  refine thn (hl pins s σ H _ I h) fun v s1 ⟨y, H1, I1, r1, q1⟩ => ?_
  obtain ⟨x, e, q⟩ := q1
  subst e
  obtain ⟨t, rfl⟩ := r1
  cases ha : x.cps.all (· < 128) with
  | true =>
    refine wpAny_pyIter_ascii ha ⟨s1.heap.objs.size, [s1.heap.objs.size], _, _, H1, rfl, I1.kept (t' := s1.toks) fun b o e => Heap.get?_push_of_some _ e, turn_str _ x t _ (.inl rfl), ⟨_, Heap.get?_push_size _ rfl, rfl, rfl⟩, fun b hb => ?_, q⟩
    have e : b = s1.heap.objs.size := by simpa using hb
    subst e
    exact I1.fpOk (Nat.le_refl _) (I1.hok.fresh (Nat.le_refl _))
  | false =>
    refine wpAny_pyIter_wide ha ⟨s1.heap.objs.size, [s1.heap.objs.size], _, _, H1, rfl, I1.kept (t' := s1.toks) fun b o e => Heap.get?_push_of_some _ e, turn_str _ x t _ (.inr rfl), ⟨_, Heap.get?_push_size _ rfl, rfl, rfl⟩, fun b hb => ?_, q⟩
    have e : b = s1.heap.objs.size := by simpa using hb
    subst e
    exact I1.fpOk (Nat.le_refl _) (I1.hok.fresh (Nat.le_refl _))
end L2

set_option Elab.async false
set_option linter.all false
set_option maxRecDepth 100000
/-! own work over the hand layer: texts, sums, sorting, deep data -/
namespace L2
open PySem PySem.Spec PyProof.Rows

section
variable {X : Cx}

/-! ### slices, products, joins of texts -/
def rSlS : V → Option Int → Option Int → Hp → VK → Prop := fun x lo hi H Q => ∃ z : Str, x = .str z ∧ z.length ≤ sizeLine ∧ Q (.str (Txt.slice z lo hi)) H
theorem sl_str : SlR X rSlS := by
  intro pins s σ H x v vl vu lo hi sl Q I rx hs pl pu h
  obtain ⟨z, rfl, hz, q⟩ := h
  obtain ⟨t, rfl⟩ := rx
  have fin : ∀ t' k, EP X pins σ Q (.str (Txt.slice z lo hi) t') { s with toks := k } := fun t' k => ⟨.str _, H, I.tok _, ⟨_, rfl⟩, q⟩
  have hle : (Txt.slice z lo hi).length ≤ sizeLine := Nat.le_trans (Txt.slice_le z _ _) hz
  cases pl with
  | none =>
    cases pu with
    | none => exact ⟨"str", _, F.slot_str_getitem.lookup, typeIs_str _ _ _, wpAny_getItem_str_slice (l := none) (u := none) (st := none) hs rfl (post_val_or_str ⟨hle, fin⟩)⟩
    | int j u => exact ⟨"str", _, F.slot_str_getitem.lookup, typeIs_str _ _ _, wpAny_getItem_str_slice (l := none) (u := some (j, u)) (st := none) hs rfl (post_val_or_str ⟨hle, fin⟩)⟩
  | int i u' =>
    cases pu with
    | none => exact ⟨"str", _, F.slot_str_getitem.lookup, typeIs_str _ _ _, wpAny_getItem_str_slice (l := some (i, u')) (u := none) (st := none) hs rfl (post_val_or_str ⟨hle, fin⟩)⟩
    | int j u => exact ⟨"str", _, F.slot_str_getitem.lookup, typeIs_str _ _ _, wpAny_getItem_str_slice (l := some (i, u')) (u := some (j, u)) (st := none) hs rfl (post_val_or_str ⟨hle, fin⟩)⟩

theorem op_mulS : OpR X (binaryOp .Mult) (fun x y H Q => ∃ (z : Str) (n : Int), x = .str z ∧ y = .int n ∧ MulOk z n ∧ Q (.str (Txt.mul z n)) H) := by
  intro pins s σ H x y v u Q I rx ry h
  obtain ⟨z, n, rfl, rfl, hok, q⟩ := h
  obtain ⟨t, rfl⟩ := rx
  obtain ⟨t', rfl⟩ := ry
  exact SB.mul hok fun t' k => ⟨.str _, H, I.tok _, ⟨_, rfl⟩, q⟩

theorem strsAre_of : ∀ {ss : List Str} {us : List Value}, Vals (ss.map V.str) us → StrsAre us ss
  | [], _, r => by
    cases r
    exact .nil
  | x :: ss, _, r => by
    cases r with
    | cons r1 r2 =>
      obtain ⟨t, e⟩ := r1
      subst e
      exact .cons x t (strsAre_of r2)
theorem vals_strs : ∀ {us : List Value} {ss : List Str}, StrsAre us ss → Vals (ss.map V.str) us
  | _, _, .nil => .nil
  | _, _, .cons x t h => .cons ⟨t, rfl⟩ (vals_strs h)


/-! ### all, sum over a list -/
theorem call_allL (hc : X.calm = true) : CallR X (.builtin "all") (fun xs H Q => ∃ (a : Addr) (bs : List Bool), xs = [.ref a] ∧ SqL X.K H a (bs.map V.bl) ∧ Q (.bl (bs.all id)) H) := by
  intro pins s σ H xs us Q I r h
  obtain ⟨a, bs, rfl, hq, q⟩ := h
  obtain ⟨u, rfl, ru⟩ := vals1 r
  cases ru
  obtain ⟨its, rv, pl, hz⟩ := I.list hq
  have hl := rv.length
  rw [List.length_map] at hl
  have hlt : a < s.heap.objs.size := by
    obtain ⟨o, n, e, _⟩ := pl
    exact Heap.lt_size e
  refine call_all_walk (wpAny_pyIter_list pl.isList ⟨s.heap.objs.size, [s.heap.objs.size, a], [s.heap.objs.size], its.toArray.size, _, _, fun i => bs.getD i false, rfl, Walks.list (A := X.A.in1) (I.ok.hd hc) _ _ (Nat.ne_of_lt hlt) its.toArray,
    ⟨⟨_, Heap.get?_push_size _ rfl, rfl, rfl⟩, pl.isList.push _⟩, ?_, ?_⟩)
  · intro i v Q' E' s' hv hQ
    have hi : i < its.length := by
      have := (Array.getElem?_eq_some_iff.mp hv).1
      simpa using this
    have e1 : its[i]? = some v := by simpa using hv
    have hb : (bs.map V.bl)[i]? = some (.bl (bs.getD i false)) := by
      rw [List.getElem?_map, List.getD_eq_getElem?_getD]
      cases e : bs[i]? with
      | none => exact absurd (List.getElem?_eq_none_iff.mp e) (by omega)
      | some b => rfl
    obtain ⟨u', hu, ru⟩ := rv.get hb
    rw [e1] at hu
    cases hu
    have ev : v = Value.bool (bs.getD i false) := ru
    rw [ev]
    exact wpAny_truthy_bool hQ
  · intro h' tk kk
    have e : ((List.range its.toArray.size).all fun i => bs.getD i false) = bs.all id := by
      rw [List.size_toArray, ← hl]
      rw [Bool.eq_iff_iff, List.all_eq_true, List.all_eq_true]
      constructor
      · intro h b hb
        obtain ⟨i, hi, e⟩ := List.getElem_of_mem hb
        have := h i (List.mem_range.mpr hi)
        rw [List.getD_eq_getElem?_getD, List.getElem?_eq_getElem hi, e] at this
        exact this
      · intro h i hi
        have hi' := List.mem_range.mp hi
        rw [List.getD_eq_getElem?_getD, List.getElem?_eq_getElem hi']
        exact h _ (List.getElem_mem hi')
    rw [e]
    exact ⟨.bl _, H, I.kept fun b o e => kk b o (by simpa using Nat.ne_of_lt (Heap.lt_size e)) (Heap.get?_push_of_some _ e), rfl, q⟩

theorem preSum_list : ∀ (ns : List Int) (k : Nat), preSum (fun i => ns.getD i 0) k = (ns.take k).sum
  | ns, 0 => by simp [preSum]
  | ns, k + 1 => by
    rw [preSum, preSum_list ns k]
    by_cases h : k < ns.length
    · rw [List.take_add_one, List.getElem?_eq_getElem h, List.getD_eq_getElem?_getD, List.getElem?_eq_getElem h]
      simp only [List.sum_append, Option.toList_some, List.sum_cons, List.sum_nil, Option.getD_some]
      omega
    · have h' : ns.length ≤ k := Nat.le_of_not_lt h
      rw [List.take_of_length_le h', List.take_of_length_le (Nat.le_succ_of_le h'), List.getD_eq_getElem?_getD, List.getElem?_eq_none h']
      simp
theorem call_sumL (hc : X.calm = true) : CallR X (.builtin "sum") (fun xs H Q => ∃ (a : Addr) (ns : List Int), xs = [.ref a] ∧ SqL X.K H a (ns.map V.int) ∧ (∀ n ∈ ns, InLong n) ∧ (∀ k, InLong (ns.take k).sum) ∧ Q (.int ns.sum) H) := by
  intro pins s σ H xs us Q I r h
  obtain ⟨a, ns, rfl, hq, h1, h2, q⟩ := h
  obtain ⟨u, rfl, ru⟩ := vals1 r
  cases ru
  obtain ⟨its, rv, pl, hz⟩ := I.list hq
  have hl := rv.length
  rw [List.length_map] at hl
  have hlt : a < s.heap.objs.size := by
    obtain ⟨o, n, e, _⟩ := pl
    exact Heap.lt_size e
  refine call_sum_walk (wpAny_pyIter_list pl.isList ⟨s.heap.objs.size, [s.heap.objs.size, a], [s.heap.objs.size], its.toArray.size, _, _, fun i => ns.getD i 0, rfl, Walks.list (A := X.A.in1) (I.ok.hd hc) _ _ (Nat.ne_of_lt hlt) its.toArray,
    ⟨⟨_, Heap.get?_push_size _ rfl, rfl, rfl⟩, pl.isList.push _⟩, ?_, ?_, ?_, ?_⟩)
  · intro b hb
    show b < (s.heap.push _).objs.size
    rw [Heap.size_push]
    have : b = s.heap.objs.size ∨ b = a := by simpa using hb
    rcases this with z | z
    · rw [z]; exact Nat.lt_succ_self _
    · rw [z]; exact Nat.lt_succ_of_lt hlt
  · intro i v hv
    have e1 : its[i]? = some v := by simpa using hv
    have hi : i < its.length := (List.getElem?_eq_some_iff.mp e1).1
    have hb : (ns.map V.int)[i]? = some (.int (ns.getD i 0)) := by
      rw [List.getElem?_map, List.getD_eq_getElem?_getD]
      cases e : ns[i]? with
      | none => exact absurd (List.getElem?_eq_none_iff.mp e) (by omega)
      | some b => rfl
    obtain ⟨u', hu, ru⟩ := rv.get hb
    rw [e1] at hu
    cases hu
    exact ru
  · intro j hj
    have hj' : j < ns.length := by rw [hl]; simpa using hj
    refine ⟨?_, ?_⟩
    · show InLong (ns.getD j 0)
      rw [List.getD_eq_getElem?_getD, List.getElem?_eq_getElem hj']
      exact h1 _ (List.getElem_mem hj')
    · rw [preSum_list]
      exact h2 _
  · intro h' tk t' kk
    refine ⟨.int ns.sum, H, I.kept fun b o e => kk b o (by simpa using Nat.ne_of_lt (Heap.lt_size e)) (Heap.get?_push_of_some _ e), ⟨t', ?_⟩, q⟩
    rw [preSum_list, List.take_of_length_le (by rw [List.size_toArray]; omega)]

/-! ### sorted of texts -/
theorem call_sortedS : CallR X (.builtin "sorted") (fun xs H Q => ∃ (a : Addr) (ss : List Str), xs = [.ref a] ∧ SqL X.K H a (ss.map V.str) ∧ ss.length < 64 ∧
    ∀ p ss', H p = none → ss'.Perm ss → sortedS ss' = true → Q (.ref p) (upd H p (.lst (ss'.map V.str)))) := by
  intro pins s σ H xs us Q I r h
  obtain ⟨a, ss, rfl, hq, h64, q⟩ := h
  obtain ⟨u, rfl, ru⟩ := vals1 r
  cases ru
  obtain ⟨its, rv, pl, hz⟩ := I.list hq
  have hl := rv.length
  rw [List.length_map] at hl
  refine sorted_strs pl.isList (strsAre_of rv) (by omega) fun out ss' a1 a2 a3 => ?_
  obtain ⟨e, he⟩ := sortedAll_at s.heap its out
  have hn : H (s.heap.objs.size + 1) = none := I.hok.fresh (Nat.le_succ _)
  refine ⟨.ref (s.heap.objs.size + 1), _, I.laid (t' := s.toks) (o := .lst (ss'.map V.str)) (fun b o e => sortedAll_old e) (Nat.le_succ _) ?_, rfl, q _ _ hn a2 a3⟩
  have hln : ss'.length = ss.length := a2.length_eq
  refine ⟨by rw [List.length_map, hln]; rw [sizeLine_eq]; omega, out.toList, e, vals_strs a1, ?_⟩
  rw [he]

/-! ### isinstance -/
def clsV : V → Option Value
  | .ty n => some (.type n)
  | .ref a => some (.ref a)
  | _ => none
theorem call_isi : CallR X (.builtin "isinstance") (fun xs H Q => ∃ (x c : V) (t cv : Value) (b : Bool), xs = [x, c] ∧ TyOf X.K H x t ∧ clsV c = some cv ∧ PySem.W.kitOne X.K t cv = some b ∧ Q (.bl b) H) := by
  intro pins s σ H xs us Q I r h
  obtain ⟨x, c, t, cv, b, rfl, ty, rc, e, q⟩ := h
  obtain ⟨u, w', rfl, ru, rw'⟩ := vals2 r
  have ec : w' = cv := by
    cases c with
    | ty n => exact (show w' = Value.type n from rw').trans (Option.some.inj rc)
    | ref n => exact (show w' = Value.ref n from rw').trans (Option.some.inj rc)
    | _ => cases rc
  subst ec
  exact isinst_ok I ru ty e fun tk => ⟨.bl b, H, I.tok _, rfl, q⟩
end

/-! ### deep data: tuples and lists of ints, bools, texts, None -/
mutual
def RepD (H : Hp) : PyData → V → Prop
  | .none, v => v = .non
  | .bool b, v => v = .bl b
  | .int i, v => v = .int i
  | .str x, v => v = .str x
  | .tuple ds, v => ∃ a xs, v = .ref a ∧ H a = some (.tup xs) ∧ RepA H ds xs
  | .list ds, v => ∃ a xs, v = .ref a ∧ H a = some (.lst xs) ∧ RepA H ds xs
  | .dict _, _ => False
def RepA (H : Hp) : List PyData → List V → Prop
  | [], xs => xs = []
  | d :: ds, xs => ∃ v vs, xs = v :: vs ∧ RepD H d v ∧ RepA H ds vs
end
mutual
theorem RepD.same {H H' : Hp} (h : Same H H') : ∀ (d : PyData) (v : V), RepD H d v → RepD H' d v
  | .none, _, r => r
  | .bool _, _, r => r
  | .int _, _, r => r
  | .str _, _, r => r
  | .tuple ds, v, r => by
    rw [RepD] at r ⊢
    obtain ⟨a, xs, e, e2, q⟩ := r
    exact ⟨a, xs, e, h _ _ e2, RepA.same h ds xs q⟩
  | .list ds, v, r => by
    rw [RepD] at r ⊢
    obtain ⟨a, xs, e, e2, q⟩ := r
    exact ⟨a, xs, e, h _ _ e2, RepA.same h ds xs q⟩
  | .dict _, v, r => by
    rw [RepD] at r
    exact r.elim
theorem RepA.same {H H' : Hp} (h : Same H H') : ∀ (ds : List PyData) (vs : List V), RepA H ds vs → RepA H' ds vs
  | [], _, r => r
  | d :: ds, vs, r => by
    rw [RepA] at r ⊢
    obtain ⟨v, us, e, q1, q2⟩ := r
    exact ⟨v, us, e, RepD.same h d v q1, RepA.same h ds us q2⟩
end
section
variable {X : Cx} {pins : List (Addr × Obj)} {σ : St} {H : Hp} {s : Shared}
mutual
theorem RepD.reads (I : Inv X pins σ H s) : ∀ (d : PyData) (v : V) (u : Value), RepD H d v → RelV v u → ∃ as, Reads s.heap u d as
  | .none, v, u, r, q => by
    rw [RepD] at r
    subst r
    cases q
    exact ⟨_, .none⟩
  | .bool b, v, u, r, q => by
    rw [RepD] at r
    subst r
    cases q
    exact ⟨_, .bool b⟩
  | .int i, v, u, r, q => by
    rw [RepD] at r
    subst r
    obtain ⟨t, rfl⟩ := q
    exact ⟨_, .int i t⟩
  | .str x, v, u, r, q => by
    rw [RepD] at r
    subst r
    obtain ⟨t, rfl⟩ := q
    exact ⟨_, .str x t⟩
  | .tuple ds, v, u, r, q => by
    rw [RepD] at r
    obtain ⟨a, xs, e, e2, q2⟩ := r
    subst e
    cases q
    obtain ⟨its, rv, ⟨o, h1, h2, n, h3⟩, _⟩ := I.tuple (SqT.of e2)
    obtain ⟨as, q3⟩ := RepA.reads I ds xs its q2 rv
    exact ⟨_, .tuple h1 h2 h3 (by simpa using q3)⟩
  | .list ds, v, u, r, q => by
    rw [RepD] at r
    obtain ⟨a, xs, e, e2, q2⟩ := r
    subst e
    cases q
    obtain ⟨its, rv, ⟨o, n, h1, h2, _, h3⟩, _⟩ := I.list (SqL.of e2)
    obtain ⟨as, q3⟩ := RepA.reads I ds xs its q2 rv
    exact ⟨_, .list h1 h2 h3 (by simpa using q3)⟩
  | .dict _, v, u, r, q => by
    rw [RepD] at r
    exact r.elim
theorem RepA.reads (I : Inv X pins σ H s) : ∀ (ds : List PyData) (vs : List V) (us : List Value), RepA H ds vs → Vals vs us → ∃ as, ReadsAll s.heap us ds as
  | [], vs, us, r, q => by
    rw [RepA] at r
    subst r
    cases q
    exact ⟨_, .nil⟩
  | d :: ds, vs, us, r, q => by
    rw [RepA] at r
    obtain ⟨v, vs', e, q1, q2⟩ := r
    subst e
    cases q with
    | cons p1 p2 =>
      obtain ⟨as, r1⟩ := RepD.reads I d v _ q1 p1
      obtain ⟨bs, r2⟩ := RepA.reads I ds vs' _ q2 p2
      exact ⟨_, .cons r1 r2⟩
end
end
section
variable {X : Cx}
theorem op_eqD (hu : X.A.units + 64 < cLine) : OpR X (compareOp .Eq) (fun x y H Q => ∃ da db, RepD H da x ∧ RepD H db y ∧ SeqAt.shaped da = true ∧ SeqAt.shaped db = true ∧ Q (.bl (PyData.eqv da db)) H) := by
  intro pins s σ H x y v u Q I rx ry h
  obtain ⟨da, db, r1, r2, s1, s2, q⟩ := h
  obtain ⟨as, q1⟩ := RepD.reads I da x v r1 rx
  obtain ⟨bs, q2⟩ := RepD.reads I db y u r2 ry
  exact eq_dataH q1 q2 s1 s2 hu ⟨.bl _, H, I, rfl, q⟩
end
end L2

set_option Elab.async false
set_option linter.all false
set_option maxRecDepth 100000
/-! own work over the hand layer: defs without addresses, isinstance by names, texts as lists of codes -/
namespace L2
open PySem PySem.Spec PyProof.Rows

/-! ### a def of the text, its promise -/
structure HasDef (K : PySem.W.Frag) (mg : Str → Option Value) (name : Str) (st : Stmt) (ps : List Str) : Prop where
  ex : ∃ f fd, Fun K name name st f fd ∧ Binds K fd ps [] ∧ mg name = some (.ref f)
structure FOk (P : Program) (w : World) (K : PySem.W.Frag) (mg : Str → Option Value) (base : Heap) (k : Nat) (name : Str) (ps : List Str) (sp : Sp) : Prop where
  ex : ∃ f fd, FnOk P w K mg base CX0 k f fd ps sp ∧ Binds K fd ps [] ∧ mg name = some (.ref f) ∧ PySem.W.keepIn K (.ref f) = true
section
variable {P : Program} {w : World} {K : PySem.W.Frag} {mg : Str → Option Value} {base : Heap}
theorem HasDef.ok {name : Str} {st : Stmt} {N ps : List Str} {k : Nat} {sp : Sp} (D : HasDef K mg name st ps) (S : FnScope N ps (defScope st)) (len : ∀ vs H Q E, sp vs H Q E → vs.length = ps.length)
    (hbody : ∀ (f : Addr) (cdv : Value) (A : Around) (outer : List Env) (s : Shared) (H : Hp) (vs : List V) (Q : VK) (E : XK), Room k (A.deeper (envOfC name (defScope st) s.heap.objs.size f cdv)) → sp vs H Q E →
      ∃ t, PSs (cxOf CX0 P w K mg base N name (defScope st) f cdv A outer s H E).nox (defBody st) t ∧ t { nx := fun _ H' => Q .non H', rt := Q } (start N vs) H) : FOk P w K mg base (k + 1) name ps sp := by
  obtain ⟨f, fd, F, b, m⟩ := D.ex
  exact ⟨f, fd, F.ok S len fun cdv A outer s H vs Q E => hbody f cdv A outer s H vs Q E, b, m, F.kp⟩
theorem FOk.mono {name : Str} {ps : List Str} {j k : Nat} {sp : Sp} (G : FOk P w K mg base j name ps sp) (h : j ≤ k) : FOk P w K mg base k name ps sp := by
  obtain ⟨f, fd, F, r⟩ := G.ex
  exact ⟨f, fd, F.mono h, r⟩
end
theorem pe_fn {X : Cx} {k : Nat} {name : Str} {ps : List Str} {sp : Sp} {p pos : Pos} {e : Expr} {es : List Expr} {t : TA} (G : FOk X.prog X.w X.K X.mg X.base k name ps sp) (hr : Room k X.A) (ha : PA X (e :: es) t) (hg : Gl X name := by rfl)
    (hdb : (name == ("__debug__" : Str)) = false := by decide) (he : starEach (e :: es) X.env = (false, eval e X.env) :: starEach es X.env := by rfl) (hpl : (backTo pos (starEach es X.env)).any (·.1) = false := by rfl) :
    PE X (.Call (.Name name p) (e :: es) [] pos) (tCall sp [] E0 t) := by
  obtain ⟨f, fd, F, b, m, kp⟩ := G.ex
  exact pe_call F hr hg m kp b .nil pass0 ha hdb he hpl

/-! ### isinstance by names -/
inductive TyB (H : Hp) : V → String → Prop where
  | non : TyB H .non "NoneType"
  | bl (b : Bool) : TyB H (.bl b) "bool"
  | int (i : Int) : TyB H (.int i) "int"
  | str (x : Str) : TyB H (.str x) "str"
  | lst {a : Addr} {xs : List V} (e : H a = some (.lst xs)) : TyB H (.ref a) "list"
  | tup {a : Addr} {xs : List V} (e : H a = some (.tup xs)) : TyB H (.ref a) "tuple"
  | dK {a : Addr} {kvs : List (Key × V)} (e : H a = some (.dK kvs)) : TyB H (.ref a) "dict"
theorem TyB.of {K : PySem.W.Frag} {H : Hp} {x : V} {n : String} (h : TyB H x n) : TyOf K H x (.type n) := by
  cases h with
  | non => exact .non
  | bl b => exact .bl b
  | int i => exact .int i
  | str x => exact .str x
  | lst e => exact .lst e
  | tup e => exact .tup e
  | dK e => exact .dK e
theorem TyB.same {H H' : Hp} (s : Same H H') {x : V} {n : String} (h : TyB H x n) : TyB H' x n := by
  cases h with
  | non => exact .non
  | bl b => exact .bl b
  | int i => exact .int i
  | str x => exact .str x
  | lst e => exact .lst (s _ _ e)
  | tup e => exact .tup (s _ _ e)
  | dK e => exact .dK (s _ _ e)
def tyNames : List String := ["NoneType", "bool", "int", "str", "list", "tuple", "dict"]
theorem TyB.mem {H : Hp} {x : V} {n : String} (h : TyB H x n) : n ∈ tyNames := by
  cases h <;> simp [tyNames]
def isiB (n c : String) : Bool := n == c || (n == "bool" && c == "int")
def clNames : List String := ["int", "bool", "str", "tuple", "list"]

def kitB (a b : String) : Option Bool := if (Value.type a == Value.type b) = true then some true else if PySem.W.kitMeta b = true then (fastBuiltinMro a).map (·.contains (Value.type b)) else none
theorem kitB_ok : ∀ n ∈ tyNames, ∀ c ∈ clNames, kitB n c = some (isiB n c) := by decide +kernel
theorem call_isiB {X : Cx} : CallR X (.builtin "isinstance") (fun xs H Q => ∃ (x : V) (c n : String), xs = [x, .ty c] ∧ c ∈ clNames ∧ TyB H x n ∧ Q (.bl (isiB n c)) H) := by
  intro pins s σ H xs us Q I r h
  obtain ⟨x, c, n, rfl, hc, ty, q⟩ := h
  exact call_isi pins s σ H _ us Q I r ⟨x, .ty c, _, _, _, rfl, ty.of, rfl, kitB_ok n ty.mem c hc, q⟩
theorem isi_int : ∀ n ∈ tyNames, (isiB n "int" = true → (!isiB n "bool") = (n == "int")) ∧ (¬ isiB n "int" = true → (n == "int") = false) := by decide

/-! ### names of Python's own -/
theorem b_isi : bootBuiltins "isinstance" = some (.builtin "isinstance") := by decide +kernel
theorem b_len : bootBuiltins "len" = some (.builtin "len") := by decide +kernel
theorem b_all : bootBuiltins "all" = some (.builtin "all") := by decide +kernel
theorem b_sum : bootBuiltins "sum" = some (.builtin "sum") := by decide +kernel
theorem b_sorted : bootBuiltins "sorted" = some (.builtin "sorted") := by decide +kernel
theorem b_int : bootBuiltins "int" = some (.type "int") := by decide +kernel
theorem b_bool : bootBuiltins "bool" = some (.type "bool") := by decide +kernel
theorem b_str : bootBuiltins "str" = some (.type "str") := by decide +kernel
theorem b_tuple : bootBuiltins "tuple" = some (.type "tuple") := by decide +kernel
theorem b_list : bootBuiltins "list" = some (.type "list") := by decide +kernel
theorem b_dict : bootBuiltins "dict" = some (.type "dict") := by decide +kernel
theorem pe_ty {X : Cx} {x : Str} {c : String} {pos : Pos} (hg : Gl X x) (hm : X.mg x = none) (hv : bootBuiltins x = some (.type c)) (hn : x ≠ "__name__" := by decide) (hd : (x == ("__debug__" : Str)) = false := by decide) : PE X (.Name x pos) (tC (.ty c)) :=
  pe_bltn hg hm hv (show RelV (.ty c) (.type c) from rfl) hn hd
theorem pg_lc {X : Cx} {N xs : List Str} {mp : List Nat} {scope : Scope} {cl : List (Str × Addr)} {C : Addr} {s₀ : Shared} {H₀ : Hp} {fp : List Addr} (i : Nat) {x : Str} {pos : Pos} (nd : (lcN N xs mp).Nodup := by decide +kernel) (hi : (lcN N xs mp)[i]? = some x := by rfl)
    (hx : (lcx X (lcN N xs mp) scope cl C s₀ H₀ fp).env.scope.names.lookup x = some .local := by rfl) : PG (lcx X (lcN N xs mp) scope cl C s₀ H₀ fp) (.Name x pos) (gName i) := pg_name nd hi (.inl hx) (.inr hx)

/-! ### texts as lists of codes -/
def tx (l : List Nat) : Str := ⟨l.toArray⟩
theorem tx_list (l : List Nat) : (tx l).cps.toList = l := by simp [tx]
theorem tx_len (l : List Nat) : (tx l).length = l.length := by simp [tx, Str.length]
theorem tx_eta (x : Str) : tx x.cps.toList = x := by simp [tx]
theorem getD_range (l : List Nat) : (List.range l.length).map (fun i => l.getD i 0) = l := by
  apply List.ext_getElem?
  intro i
  rw [List.getElem?_map]
  by_cases h : i < l.length
  · rw [List.getElem?_range h, Option.map_some, List.getD_eq_getElem?_getD, List.getElem?_eq_getElem h]
    rfl
  · rw [List.getElem?_eq_none (by simpa using h), List.getElem?_eq_none (by simpa using h)]
    rfl
/-- the items of a list that a comprehension made, each known by its place -/
theorem vs_range {vs : List V} {n : Nat} {f : Nat → V} (hl : vs.length = n) (hr : ∀ i v, vs[i]? = some v → v = f i) : vs = (List.range n).map f := by
  apply List.ext_getElem?
  intro i
  rw [List.getElem?_map]
  by_cases h : i < n
  · rw [List.getElem?_range h, Option.map_some, List.getElem?_eq_getElem (by omega)]
    exact congrArg some (hr i _ (List.getElem?_eq_getElem (by omega)))
  · rw [List.getElem?_eq_none (by omega), List.getElem?_eq_none (by simpa using h)]
    rfl
theorem str1 (l : Str) (c : Nat) : (!(Builtin.Str.occurrences l ⟨#[c]⟩ 0 l.length 1).isEmpty) = decide (c ∈ l.cps.toList) := PySem.StrLaws.found_one l c
theorem ix_tupK {X : Cx} (K : PySem.W.Frag) (h : X.K = K := by rfl) : IxR X (rIxT K) := by subst h; exact ix_tup
theorem call_lenK {X : Cx} (K : PySem.W.Frag) (h : X.K = K := by rfl) : CallR X (.builtin "len") (fun xs H Q => ∃ x n, xs = [x] ∧ LenV K x H n ∧ Q (.int n) H) := by subst h; exact call_len
theorem size_small {n : Nat} (h : n ≤ 16777216) : n ≤ sizeLine := by rw [sizeLine_eq]; exact h
end L2

set_option Elab.async false
set_option linter.all false
set_option maxRecDepth 100000
namespace L2
open PySem PySem.Spec PyProof.Rows PySem.Builtin.Str

section
variable {X : Cx}
theorem pg_tupK {es : List Expr} {k : Nat} {t : TGs} {pos : Pos} (n : Nat) (K : PySem.W.Frag) (hc : X.calm = true) (h : PGs X es t) (hK : X.K = K := by rfl)
    (hn : (assignEach es X.env).length = n := by rfl) (hst : (assignEach es X.env).findIdx? (·.1) = none := by rfl) : PG X (.Tuple es k pos) (gTup K n t) := by
  subst hK
  exact pg_tup hc h hn hst
end

/-! ### slices and products by codes -/
theorem foldl_arr : ∀ (l : List (Array Nat)) (a : Array Nat), (l.foldl (· ++ ·) a).toList = a.toList ++ (l.map Array.toList).flatten
  | [], a => by simp
  | b :: l, a => by
    rw [List.foldl_cons, foldl_arr l]
    simp
theorem mul_codes {x : Str} {n : Int} (h : 1 ≤ n) (hx : x.length ≠ 0) : (Txt.mul x n).cps.toList = (List.replicate n.toNat x.cps.toList).flatten := by
  unfold Txt.mul
  rw [if_neg (by omega)]
  split
  · rename_i c
    simp only [Bool.or_eq_true, beq_iff_eq] at c
    rcases c with c | c
    · subst c
      simp
    · exact absurd c hx
  · rw [foldl_arr]
    simp
theorem mulOk_of {x : Str} {n : Int} (h1 : 1 ≤ n) (h2 : n ≤ 1000) (h3 : x.length ≤ 1000) : MulOk x n := by
  refine ⟨?_, ?_, ?_⟩
  · have a : ¬ n < -(2 ^ 63) := by omega
    have b : ¬ n ≥ 2 ^ 63 := by omega
    rw [decide_eq_false a, decide_eq_false b]
    rfl
  · intro _ _ q
    have : (1000 : Int) ≤ (2 ^ 63 - 1) / n := by
      rw [Int.le_ediv_iff_mul_le (by omega)]
      omega
    omega
  · intro _ _
    have : x.length * n.toNat ≤ 1000 * 1000 := Nat.mul_le_mul h3 (by omega)
    unfold tooLong
    have hs : sizeLine = 16777216 := sizeLine_eq
    exact decide_eq_false (by omega)
/-- an item of a written list of numbers -/
theorem menu_at {ns : List Int} {i : Int} (h0 : 0 ≤ i) (h1 : i < ns.length) : atI (ns.map V.int) i = some (.int (ns.getD i.toNat 0)) := by
  obtain ⟨j, rfl⟩ := Int.eq_ofNat_of_zero_le h0
  refine atI_nat ?_
  have hj : j < ns.length := by omega
  rw [List.getElem?_map, List.getElem?_eq_getElem hj, Int.toNat_natCast, List.getD_eq_getElem?_getD, List.getElem?_eq_getElem hj]
  rfl
theorem item_at {α : Type} {l : List α} {i : Int} {c : α} (h0 : 0 ≤ i) (h : l[i.toNat]? = some c) : atI l i = some c := by
  obtain ⟨j, rfl⟩ := Int.eq_ofNat_of_zero_le h0
  exact atI_nat h
end L2

set_option Elab.async false
set_option linter.all false
set_option maxRecDepth 100000
namespace L2
open PySem PySem.Spec PyProof.Rows
/-! ### a block cut at a place: what holds there is said, and both parts are read apart -/
def tCut (t u : TS) : TS := fun D σ H => ∃ W : St → Hp → Prop, t { D with nx := W } σ H ∧ ∀ σ' H', W σ' H' → u D σ' H'
theorem pss_cut {X : Cx} {st : Stmt} {rest : List Stmt} {t u : TS} (h1 : PS X st t) (h2 : PSs X rest u) : PSs X (st :: rest) (tCut t u) := by
  intro pins s σ H D I h
  obtain ⟨W, hW, k⟩ := h
  refine wpAny_execs_cons (thn (h1 pins s σ H { D with nx := W } I hW) fun f s1 q => ?_)
  cases f with
  | next =>
    obtain ⟨σ', H', I', q⟩ := q
    exact h2 pins s1 σ' H' D I' (k σ' H' q)
  | ret v => exact q
  | brk => exact q
  | cont => exact q
/-! ### cuts of a row -/
theorem sIx_to {n i d : Nat} (h : i ≤ n) : HT.sIx n d (some (i : Int)) = i := by
  unfold HT.sIx
  simp only
  rw [if_neg (by omega)]
  simp
  omega
theorem cut_to {xs : List V} {i : Nat} (h : i ≤ xs.length) : cutV xs none (some (i : Int)) = xs.take i := by
  have e1 : HT.sIx xs.length 0 none = 0 := rfl
  unfold cutV
  rw [e1, sIx_to h]
  simp
theorem cut_from {xs : List V} {i : Nat} (h : i ≤ xs.length) : cutV xs (some (i : Int)) none = xs.drop i := by
  have e1 : HT.sIx xs.length xs.length none = xs.length := rfl
  unfold cutV
  rw [e1, sIx_to h]
  exact List.take_of_length_le (by rw [List.length_drop]; omega)
end L2

set_option Elab.async false
set_option linter.all false
set_option maxRecDepth 100000
/-! own work over the hand layer: exceptions of the text's own classes, raised, passed on, caught -/
namespace L2
open PySem PySem.Spec PyProof.Rows

/-! ### an own exception class, as it stands in the fragment -/
structure XCls (K : PySem.W.Frag) (mg : Str → Option Value) (x : Str) (C : Addr) (bm : List Value) : Prop where
  bound : mg x = some (.ref C)
  look : ∃ nm q N bs hdct sn sub ab col dd k0 k1 k2 k3 k5, K.lookup C = some (excClassObj nm q C N bs bm hdct sn sub ab col dd k0 k1 k2 k3 k5 "ValueError.__new__") ∧
    PySem.W.nsOkIn K N = true ∧ PySem.W.nsIn K N "__init__" = some none
  tail : PySem.W.tailIn K [.type "ValueError", .type "Exception", .type "BaseException", .type "object"] bm = true
/-- the classes above it, read off the fragment -/
def mroX (K : PySem.W.Frag) (C : Addr) : List Value := match K.lookup C with
  | some ⟨_, _, .cls cd, _⟩ => cd.mro.tail
  | _ => []
theorem xcls_mk {K : PySem.W.Frag} {mg : Str → Option Value} {x : Str} {C : Addr} (hb : mg x = some (.ref C)) (hq : PySem.W.excIn K C [.type "ValueError", .type "Exception", .type "BaseException", .type "object"] "ValueError.__new__" = true) : XCls K mg x C (mroX K C) := by
  unfold PySem.W.excIn at hq
  cases hl : K.lookup C with
  | none => rw [hl] at hq; cases hq
  | some o =>
    rw [hl] at hq
    split at hq
    · rename_i dd cd sl e0
      injection e0 with e1
      subst e1
      split at hq
      · rename_i C1 bm k0 k1 k2 k3 n k5 e2 e3
        rw [Bool.and_eq_true, Bool.and_eq_true, Bool.and_eq_true, Bool.and_eq_true, Bool.and_eq_true] at hq
        obtain ⟨⟨⟨⟨⟨q1, q2⟩, q3⟩, q4⟩, q5⟩, q6⟩ := hq
        have r1 := beq_iff_eq.mp q1
        have r2 := beq_iff_eq.mp q2
        have r6 := beq_iff_eq.mp q6
        subst r1
        subst r2
        obtain ⟨f1, f2, f3, f4, f5, f6, f7, f8, f9, f10, f11⟩ := cd
        have em : mroX K C1 = bm := by
          unfold mroX
          rw [hl]
          show List.tail f3 = bm
          have e2' : f3 = Value.ref C1 :: bm := e2
          rw [e2']
          rfl
        rw [em]
        have e2' : f3 = Value.ref C1 :: bm := e2
        have q3' : f11 = false := by simpa using q3
        subst e2'
        subst q3'
        obtain ⟨l⟩ := sl
        have e3' : l = [k0, k1, k2, k3, some (.builtin "ValueError.__new__"), k5] := e3
        subst e3'
        exact ⟨hb, ⟨f1, f5, f4, f2, f6, f7, f8, f9, f10, dd, k0, k1, k2, k3, k5, hl, q5, r6⟩, q4⟩
      · cases hq
    · cases hq
theorem XCls.at {K : PySem.W.Frag} {mg : Str → Option Value} {x : Str} {C : Addr} {bm : List Value} {h : Heap} (c : XCls K mg x C bm) (X : K.In h) : ∃ N nm q bs hdct sn sub ab col dd k0 k1 k2 k3 k5 mN,
    h.get? C = some (excClassObj nm q C N bs bm hdct sn sub ab col dd k0 k1 k2 k3 k5 "ValueError.__new__") ∧ h.Ns N mN ∧ mN "__init__" = none ∧ OwnTail h [.type "ValueError", .type "Exception", .type "BaseException", .type "object"] bm := by
  obtain ⟨nm, q, N, bs, hdct, sn, sub, ab, col, dd, k0, k1, k2, k3, k5, hl, h1, h2⟩ := c.look
  exact ⟨N, nm, q, bs, hdct, sn, sub, ab, col, dd, k0, k1, k2, k3, k5, _, X _ _ hl, .of_isNs (PySem.W.isNs_of_in X h1), PySem.W.nsMap_none_of_in X h1 h2, PySem.W.tail_of_in X c.tail⟩

/-! ### how an exception lies behind a call -/
def CXx (P : Program) (w : World) : CXT := fun outer H s E e s' => ∃ (ea : Addr) (cls a0 : Value) (H' : Hp) (B : Heap), e = .ref ea ∧ s'.os = s.os ∧ AllBare s'.gens ∧ Un (frs outer) [] H H' s.heap s'.heap ∧ HOk P w H' s'.heap ∧
  Heap.FlyingW B outer ea cls a0 s'.heap ∧ (∀ b u, H' b = some u → ∃ o, B.get? b = some o) ∧ (∀ b o, s.heap.get? b = some o → H b = none → b ∉ frs outer → B.get? b = some o) ∧
  (∀ b o, s.heap.get? b = some o → b ∉ frs outer → ∃ o', B.get? b = some o') ∧ E cls none H'

theorem HOk.stays {P : Program} {w : World} {H : Hp} {h h' B : Heap} (x : HOk P w H h) (hB : ∀ b u, H b = some u → ∃ o, B.get? b = some o) (h1 : B.StaysIn h) (h2 : B.StaysIn h') : HOk P w H h' := fun a o e => by
  have key : ∀ b u, H b = some u → ∀ v, h.get? b = some v → h'.get? b = some v := fun b u q v hv => by
    obtain ⟨o', ho⟩ := hB b u q
    have e1 := h1 b o' ho
    rw [hv] at e1
    cases e1
    exact h2 b v ho
  refine (x a o e).stay (fun b v hb q => ?_) (fun _ q => q) fun _ _ q => q
  rcases hb with z | z
  · subst z
    exact key b o e v q
  · exact key b _ z v q

/-- the frames of a stack, hidden -/
theorem frs_cons {env : Env} {L : Addr} {l : List Env} (h : env.frame = some L) : frs (env :: l) = L :: frs l := by
  unfold frs
  rw [List.filterMap_cons, h]

theorem ObjOk.there {P : Program} {w : World} {H : Hp} {h : Heap} {a : Addr} {o : HO} (x : ObjOk P w H h a o) : ∃ u, h.get? a = some u := by
  cases o with
  | lst xs => obtain ⟨_, _, _, _, e⟩ := x; exact ⟨_, e⟩
  | tup xs => obtain ⟨_, _, _, ⟨_, e, _⟩, _⟩ := x; exact ⟨_, e⟩
  | dK kvs => obtain ⟨_, _, _, _, o, _, _, e, _⟩ := x; exact ⟨_, e⟩
  | dT kvs => obtain ⟨_, _, _, _, o, _, _, e, _⟩ := x; exact ⟨_, e⟩
  | set S n => obtain ⟨o, _, _, _, e, _⟩ := x; exact ⟨_, e⟩
  | ins C dx fs => obtain ⟨_, _, _, e, _⟩ := x; exact ⟨_, e⟩
  | own y => exact x
  | xd fs => obtain ⟨_, ⟨_, _, _, e, _⟩, _⟩ := x; exact ⟨_, e⟩
  | rng lo hi => obtain ⟨_, _, _, e⟩ := x; exact ⟨_, e⟩
  | frz ob u => obtain ⟨e, _⟩ := x; exact ⟨_, e⟩
  | tbl ps => exact ⟨_, show h.get? a = some _ from x⟩
  | met f y => exact ⟨_, show h.get? a = some _ from x⟩
  | ext φ => obtain ⟨_, e, _⟩ := x; exact e

/-- a def's body whose exceptions leave it -/
structure Lv (X : Cx) (E : XK) : Prop where
  ex : X.ex = []
  stk : X.stack = X.env :: X.outer
  fr : X.env.frame = some X.env.locals
  xe : ∀ e s', wpAny (model X.prog X.w) X.A (leaving X.env e) (fun _ s'' => CXx X.prog X.w X.outer X.H₀ X.s₀ E e s'') (fun e' s'' => CXx X.prog X.w X.outer X.H₀ X.s₀ E e' s'') s' → X.xe e s'
section
variable {X : Cx} {E : XK} {pins : List (Addr × Obj)} {σ : St} {H : Hp} {s : Shared}
theorem Lv.frs (L : Lv X E) : frs X.stack = X.env.locals :: X.fs := by rw [L.stk]; exact frs_cons L.fr
theorem Lv.old (L : Lv X E) (I : Inv X pins σ H s) {b : Addr} {o : Obj} (q : X.s₀.heap.get? b = some o) (hb : b ∉ X.fs) : b ∉ L2.frs X.stack := by
  rw [L.frs, List.mem_cons]
  rintro (z | z)
  · exact absurd (Nat.lt_of_lt_of_le (Heap.lt_size q) (z ▸ I.ok.above)) (Nat.lt_irrefl _)
  · exact hb z
theorem Lv.noex (L : Lv X E) (b : Addr) : b ∉ X.ex := by rw [L.ex]; simp
theorem Lv.raised (L : Lv X E) (I : Inv X pins σ H s) {h1 : Heap} {e C : Addr} {args : List Value} (hx : Heap.MadeExcOf s.heap h1 e (.ref C) args) (hE : E (.ref C) none H) : X.xe (.ref e) { s with heap := h1 } := by
  have hin : ∀ env ∈ X.stack, ∀ b, env.frame = some b → b ∈ L2.frs X.stack := fun env he b hb => List.mem_filterMap.mpr ⟨env, he, hb⟩
  have fB : s.heap.FunFrames (PySem.W.hideAll s.heap (L2.frs X.stack)) X.stack := PySem.W.funFrames_hide I.stack hin
  have kB : ∀ b o, s.heap.get? b = some o → b ∉ L2.frs X.stack → (PySem.W.hideAll s.heap (L2.frs X.stack)).get? b = some o := fun b o q n => PySem.W.hideAll_get _ q n
  rw [L.stk] at fB
  refine L.xe _ _ (wpAny_leaves_madeW (base := PySem.W.hideAll s.heap (L2.frs X.stack)) (h := s.heap) (by rw [← L.stk]; exact I.ok.frames) L.fr (fun b o q => PySem.W.of_hideAll _ q) (by rw [L.stk]; exact fB) hx fun h2 t fl tup bt up => ?_)
  have c1 : ∀ b u, H b = some u → ∃ o, (PySem.W.hideAll s.heap (L2.frs X.stack)).get? b = some o := fun b u q => by
    obtain ⟨o, ho⟩ := (I.hok b u q).there
    exact ⟨o, kB b o ho fun z => by rw [I.stkFree b z] at q; cases q⟩
  have c2 : ∀ b o, X.s₀.heap.get? b = some o → X.H₀ b = none → b ∉ L2.frs X.outer → (PySem.W.hideAll s.heap (L2.frs X.stack)).get? b = some o := fun b o q n hb => kB b o (I.base.keep b o q n hb (L.noex b)) (L.old I q hb)
  have c3 : ∀ b o, X.s₀.heap.get? b = some o → b ∉ L2.frs X.outer → ∃ o', (PySem.W.hideAll s.heap (L2.frs X.stack)).get? b = some o' := fun b o q hb => by
    obtain ⟨o', q1⟩ := I.base.there b o q (L.noex b)
    exact ⟨o', kB b o' q1 (L.old I q hb)⟩
  have fr : ∀ b ∈ L2.frs X.outer, ∀ o, s.heap.get? b = some o → ∃ sl, h2.get? b = some { o with slots := sl } := fun b hb o q => by
    obtain ⟨_, o', ho, hd⟩ := I.stack.mem (b := b) (by show b ∈ L2.frs X.stack; rw [L.frs]; exact List.mem_cons_of_mem _ hb)
    rw [q] at ho
    cases ho
    exact up b o (hx.keeps b o q) hd
  refine ⟨e, .ref C, .ref t, H, _, rfl, I.os, I.bare, ⟨fun b o q n hb _ => fl.1 b o (c2 b o q n hb), fun b o q n hb _ => ?_, fun b o q n _ => I.base.free b o q n (L.noex b), fun b o q _ => ?_, I.base.tups, I.base.frzs, I.base.tbls⟩,
    I.hok.stays c1 (fun b o q => PySem.W.of_hideAll _ q) fl.1, fl, c1, c2, c3, hE⟩
  · obtain ⟨sl, q1⟩ := I.base.slot b o q n hb (L.noex b)
    obtain ⟨sl', q2⟩ := fr b hb _ q1
    exact ⟨sl', q2⟩
  · by_cases hb : b ∈ L2.frs X.outer
    · obtain ⟨o', q1⟩ := I.base.there b o q (L.noex b)
      obtain ⟨sl', q2⟩ := fr b hb _ q1
      exact ⟨_, q2⟩
    · obtain ⟨o', q1⟩ := c3 b o q hb
      exact ⟨o', fl.1 b o' q1⟩
/-- an exception of a callee leaves this body too -/
theorem Lv.pass (L : Lv X E) : Passes (CXx X.prog X.w) X E := by
  intro pins σ H s e s' I hc
  obtain ⟨ea, cls, a0, H', B, rfl, os, bare, un, hok, fl, c1, c2, c3, hE⟩ := hc
  have fl0 : Heap.FlyingW B (X.env :: X.outer) ea cls a0 s'.heap := by rw [← L.stk]; exact fl
  refine L.xe _ _ (wpAny_leaves_onW (by rw [← L.stk]; exact I.ok.frames) L.fr fl0 fun h2 fl2 up => ?_)
  have d2 : ∀ b o, X.s₀.heap.get? b = some o → X.H₀ b = none → b ∉ L2.frs X.outer → B.get? b = some o := fun b o q n hb =>
    c2 b o (I.base.keep b o q n hb (L.noex b)) (I.base.free b o q n (L.noex b)) (L.old I q hb)
  have d3 : ∀ b o, X.s₀.heap.get? b = some o → b ∉ L2.frs X.outer → ∃ o', B.get? b = some o' := fun b o q hb => by
    obtain ⟨o', q1⟩ := I.base.there b o q (L.noex b)
    exact c3 b o' q1 (L.old I q hb)
  have fr : ∀ b ∈ L2.frs X.outer, ∀ o, s'.heap.get? b = some o → ∃ sl, h2.get? b = some { o with slots := sl } := fun b hb o q => by
    obtain ⟨_, o', ho, hd⟩ := fl.2.2.1.mem (b := b) (by show b ∈ L2.frs X.stack; rw [L.frs]; exact List.mem_cons_of_mem _ hb)
    rw [q] at ho
    cases ho
    exact up b o q hd
  have hst : ∀ b ∈ L2.frs X.outer, b ∈ L2.frs X.stack := fun b hb => by rw [L.frs]; exact List.mem_cons_of_mem _ hb
  refine ⟨ea, cls, a0, H', B, rfl, os.trans I.os, bare, ⟨fun b o q n hb _ => fl2.1 b o (d2 b o q n hb), fun b o q n hb _ => ?_, fun b o q n _ => ?_, fun b o q _ => ?_, fun b xs q => un.tups b xs (I.base.tups b xs q), fun b o u q => un.frzs b o u (I.base.frzs b o u q), fun b ps q => ?_⟩,
    hok.stays c1 fl.1 fl2.1, fl2, c1, d2, d3, hE⟩
  · obtain ⟨sl, q1⟩ := I.base.slot b o q n hb (L.noex b)
    obtain ⟨sl1, q2⟩ := un.slot b _ q1 (I.base.free b o q n (L.noex b)) (hst b hb) (by simp)
    obtain ⟨sl', q3⟩ := fr b hb _ q2
    exact ⟨sl', q3⟩
  · obtain ⟨o', q1⟩ := I.base.there b o q (L.noex b)
    exact un.free b o' q1 (I.base.free b o q n (L.noex b)) (by simp)
  · by_cases hb : b ∈ L2.frs X.outer
    · obtain ⟨o', q1⟩ := I.base.there b o q (L.noex b)
      obtain ⟨o'', q2⟩ := un.there b o' q1 (by simp)
      obtain ⟨sl', q3⟩ := fr b hb _ q2
      exact ⟨_, q3⟩
    · obtain ⟨o', q1⟩ := d3 b o q hb
      exact ⟨o', fl2.1 b o' q1⟩
  · obtain ⟨m1, e1⟩ := I.base.tbls b ps q
    obtain ⟨m2, e2⟩ := un.tbls b _ e1
    exact ⟨m1 ++ m2, by rw [e2, Array.append_assoc]⟩

/-- raise C(e) -/
def tRaise (E : XK) (C : Addr) (t : TA) : TS := fun D σ H => t σ H fun vs H1 => vs.length ≤ sizeLine ∧ E (.ref C) none H1
theorem ps_raise {x : Str} {C : Addr} {bm : List Value} {e₀ : Expr} {es : List Expr} {t : TA} {np cpos pos : Pos} (L : Lv X E) (c : XCls X.K X.mg x C bm) (hcalm : X.calm = true) (ha : PA X (e₀ :: es) t) (hg : Gl X x := by rfl) (hd : (x == ("__debug__" : Str)) = false := by decide)
    (he : starEach (e₀ :: es) X.env = (false, eval e₀ X.env) :: starEach es X.env := by rfl) (hpl : (backTo cpos (starEach es X.env)).any (·.1) = false := by rfl) :
    PS X (.Raise (some (.Call (.Name x np) (e₀ :: es) [] cpos)) none pos) (tRaise E C t) := by
  intro pins s σ H D I h
  obtain ⟨N, nm, q, bs, hdct, sn, sub, ab, col, dd, k0, k1, k2, k3, k5, mN, hC, hN, hni, T⟩ := c.at I.mod.kin
  have hpl' : (backTo cpos (starEach (e₀ :: es) X.env)).any (·.1) = false := by
    rw [he]
    exact hpl
  refine wpAny_Raise_call_subU (C := C) (nm := nm) (q := q) (N := N) (bs := bs) (bm := bm) (hdct := hdct) (sn := sn) (sub := sub) (ab := ab) (col := col) (dd := dd) (k0 := k0) (k1 := k1) (k2 := k2) (k3 := k3) (k5 := k5)
    PySem.F.excBase_ValueError (by decide) PySem.F.excBase_ValueError (mN := mN) (T.hasType PySem.F.excBase_ValueError.hasBase) (I.ok.hd hcalm) hpl' hni (ld_glob I hg c.bound ⟨rfl, ?_⟩ hd)
  have hs := ha cpos pins s σ H _ I h
  rw [he] at hs ⊢
  refine Calls.evalArgs_plain (wpAny_mono hs (fun us s2 ⟨vs, H2, I2, r, hl, hE⟩ => ⟨rfl, ?_, ?_⟩) fun _ _ y => y)
  · rw [← r.length]
    exact hl
  · obtain ⟨N', nm', q', bs', hdct', sn', sub', ab', col', dd', k0', k1', k2', k3', k5', mN', hC', _⟩ := c.at I2.kIn
    exact ⟨I2.bk _ _ hC, hN.keeps I2.bk, T.keeps I2.bk, fun h1 e hm => L.raised I2 hm hE⟩
theorem PS.nox {st : Stmt} {t : TS} (h : PS X.nox st t) : PS X st t := fun pins s σ H D I hw =>
  wpAny_mono (h pins s σ H D (I.wish _) hw) (fun _ _ q => q.unwish) fun _ _ z => False.elim z
end

/-! ### a def that may raise -/
theorem Fun.okX {P : Program} {w : World} {K : PySem.W.Frag} {mg : Str → Option Value} {base : Heap} {x qual : Str} {st : Stmt} {f : Addr} {fd : FuncData} {N ps : List Str} {k : Nat} {sp : Sp} (F : Fun K x qual st f fd) (S : FnScope N ps (defScope st)) (len : ∀ vs H Q E, sp vs H Q E → vs.length = ps.length)
    (hbody : ∀ (X : Cx) (vs : List V) (H : Hp) (Q : VK) (E : XK) (cdv : Value) (A : Around) (outer : List Env) (s : Shared), X = cxOf (CXx P w) P w K mg base N qual (defScope st) f cdv A outer s H E → Lv X E → Room k X.A → sp vs H Q E →
      ∃ t, PSs (cxOf (CXx P w) P w K mg base N qual (defScope st) f cdv A outer s H E) (defBody st) t ∧ t { nx := fun _ H' => Q .non H', rt := Q } (start N vs) H) : FnOk P w K mg base (CXx P w) (k + 1) f fd ps sp := by
  obtain ⟨oc, od, kV, doc, pm, an, cdv, ct, osl, rfl, lk, hcd⟩ := F.ex
  refine fn_of lk hcd S len fun A outer s H vs Q E hr hsp => ?_
  exact hbody _ vs H Q E cdv A outer s rfl ⟨rfl, rfl, rfl, fun _ _ h => h⟩ hr hsp
structure FOkX (P : Program) (w : World) (K : PySem.W.Frag) (mg : Str → Option Value) (base : Heap) (k : Nat) (name : Str) (ps : List Str) (sp : Sp) : Prop where
  ex : ∃ f fd, FnOk P w K mg base (CXx P w) k f fd ps sp ∧ Binds K fd ps [] ∧ mg name = some (.ref f) ∧ PySem.W.keepIn K (.ref f) = true
theorem FOkX.mono {P : Program} {w : World} {K : PySem.W.Frag} {mg : Str → Option Value} {base : Heap} {name : Str} {ps : List Str} {j k : Nat} {sp : Sp} (G : FOkX P w K mg base j name ps sp) (h : j ≤ k) : FOkX P w K mg base k name ps sp := by
  obtain ⟨f, fd, F, r⟩ := G.ex
  exact ⟨f, fd, F.mono h, r⟩
theorem HasDef.okX {P : Program} {w : World} {K : PySem.W.Frag} {mg : Str → Option Value} {base : Heap} {name : Str} {st : Stmt} {N ps : List Str} {k : Nat} {sp : Sp} (D : HasDef K mg name st ps) (S : FnScope N ps (defScope st)) (len : ∀ vs H Q E, sp vs H Q E → vs.length = ps.length)
    (hbody : ∀ (f : Addr) (cdv : Value) (A : Around) (outer : List Env) (s : Shared) (vs : List V) (H : Hp) (Q : VK) (E : XK), Lv (cxOf (CXx P w) P w K mg base N name (defScope st) f cdv A outer s H E) E → Room k (A.deeper (envOfC name (defScope st) s.heap.objs.size f cdv)) → sp vs H Q E →
      ∃ t, PSs (cxOf (CXx P w) P w K mg base N name (defScope st) f cdv A outer s H E) (defBody st) t ∧ t { nx := fun _ H' => Q .non H', rt := Q } (start N vs) H) : FOkX P w K mg base (k + 1) name ps sp := by
  obtain ⟨f, fd, F, b, m⟩ := D.ex
  refine ⟨f, fd, F.okX S len fun X vs H Q E cdv A outer s e l r h => ?_, b, m, F.kp⟩
  subst e
  exact hbody f cdv A outer s vs H Q E l r h
/-- f(..) of a def that may raise, its exception passed on -/
theorem pe_fnX {X : Cx} {E : XK} {k : Nat} {name : Str} {ps : List Str} {sp : Sp} {p pos : Pos} {e : Expr} {es : List Expr} {t : TA} (G : FOkX X.prog X.w X.K X.mg X.base k name ps sp) (L : Lv X E) (hr : Room k X.A) (ha : PA X (e :: es) t) (hg : Gl X name := by rfl)
    (hdb : (name == ("__debug__" : Str)) = false := by decide) (he : starEach (e :: es) X.env = (false, eval e X.env) :: starEach es X.env := by rfl) (hpl : (backTo pos (starEach es X.env)).any (·.1) = false := by rfl) :
    PE X (.Call (.Name name p) (e :: es) [] pos) (tCall sp [] E t) := by
  obtain ⟨f, fd, F, b, m, kp⟩ := G.ex
  exact pe_call F hr hg m kp b .nil L.pass ha hdb he hpl
end L2

set_option Elab.async false
set_option linter.all false
set_option maxRecDepth 100000
/-! own work over the hand layer: try round a call, except an own class, as a name -/
namespace L2
open PySem PySem.Spec PyProof.Rows

section
variable {X : Cx} {pins : List (Addr × Obj)} {σ : St} {H : Hp} {s : Shared}
/-- a name of the frame goes -/
theorem name_gone {M : Model} {A : Around} {E : Value → Shared → Prop} {i : Nat} {n : Str} {pos : Pos} {Q : Unit → Shared → Prop} (I : Inv X pins σ H s) (hN : X.N.Nodup) (hi : X.N[i]? = some n) (hk : X.env.scope.names.lookup n = some .local)
    (h : ∀ s', Inv X pins (σ.set i none) H s' → Q () s') : wpAny M A (do bindName X.env n .none; unbindBehindTheSuite X.env n pos) Q E s := by
  obtain ⟨m, hn, hl⟩ := id I.loc
  obtain ⟨oL, _, _, hoL, _⟩ := id hn
  have hc : (X.env.scope.kind == .class || (X.env.scope.kind == .module && X.env.locals != X.env.globals)) = false := by rw [I.ok.kind]; rfl
  refine wpAny_nameGoes_keeps hk hn hc fun h' v hn' hs => ?_
  have ne : ∀ b o, X.s₀.heap.get? b = some o → b ≠ X.env.locals := fun b o e => Nat.ne_of_lt (Nat.lt_of_lt_of_le (Heap.lt_size e) I.ok.above)
  refine h _ ⟨I.ok, I.os, I.bare, ⟨fun b o e n hb hx => (hs.2 b (ne b o e)).trans (I.base.keep b o e n hb hx), fun b o e n hb hx => ?_, I.base.free, fun b o e hx => ?_, I.base.tups, I.base.frzs, I.base.tbls⟩, ⟨_, hn', fun j y v' e1 e2 e3 => ?_⟩, fun y c e => ?_, I.free, I.freeC, fun p hp => ?_, fun b ob e => ?_, by simpa using I.len⟩
  · obtain ⟨sl, e1⟩ := I.base.slot b o e n hb hx
    exact ⟨sl, (hs.2 b (ne b o e)).trans e1⟩
  · obtain ⟨o', e1⟩ := I.base.there b o e hx
    exact ⟨o', (hs.2 b (ne b o e)).trans e1⟩
  · have hj : j ≠ i := by
      rintro rfl
      have hiσ : j < σ.length := by rw [I.len]; exact (List.getElem?_eq_some_iff.mp hi).1
      rw [List.getElem?_set_self hiσ] at e2
      cases e2
    rw [List.getElem?_set_ne (Ne.symm hj)] at e2
    obtain ⟨u', r', q⟩ := hl j y v' e1 e2 e3
    refine ⟨u', r', ?_⟩
    rcases q with ⟨k, e⟩ | ⟨k, c, e, z⟩
    · have hy : y ≠ n := fun z => hj (nodup_ix hN e1 (z ▸ hi))
      exact .inl ⟨k, (if_neg hy).trans e⟩
    · exact .inr ⟨k, c, e, z.sameBut hs (I.cne y c e)⟩
  · obtain ⟨w', z⟩ := I.cell y c e
    exact ⟨w', z.sameBut hs (I.cne y c e)⟩
  · obtain ⟨e, n, ne, nf, d⟩ := I.pin p hp
    exact ⟨(hs.2 p.1 ne).trans e, n, ne, nf, d⟩
  · refine (I.hok b ob e).stay (fun c w' hc q => (hs.2 c fun z => ?_).trans q) (fun _ q => q) fun _ _ q => q
    subst z
    rcases hc with z | z
    · rw [← z, I.free] at e; cases e
    · rw [I.free] at z; cases z

/-- within an except suite: the exception is pinned -/
abbrev Cx.caught (X : Cx) (ea : Addr) (pn : List (Addr × Obj)) : Cx := { X with A := X.A.mark (some (.ref ea)), calm := false, pn := pn, xe := fun _ _ => False }
theorem Inv.caught (I : Inv X pins σ H s) {ea : Addr} {oe : Obj} (h1 : s.heap.get? ea = some oe) (h2 : H ea = none) (h3 : ea ≠ X.env.locals) (h4 : ea ∉ X.fs) (h5 : ∀ v, oe.data ≠ .cell v) : Inv (X.caught ea (X.pn ++ pins ++ [(ea, oe)])) [] σ H s :=
  ⟨⟨I.ok.mod, I.ok.kind, I.ok.glob, I.ok.blt, I.ok.above, I.ok.inj, I.ok.has, I.ok.cab, fun z => (Bool.false_ne_true z).elim, I.ok.frames, I.ok.stk, I.ok.exf, I.ok.bs, I.ok.bsz, I.ok.noex, I.ok.exfs, I.ok.funs, I.ok.frf⟩, I.os, I.bare, I.base, I.loc, I.cell, I.free, I.freeC, fun p hp => by
    have hp' : p ∈ X.pn ++ pins ++ [(ea, oe)] := by simpa using hp
    rcases List.mem_append.mp hp' with z | z
    · exact I.pin p z
    · rw [List.mem_singleton.mp z]
      exact ⟨h1, h2, h3, h4, h5⟩, I.hok, I.len⟩
theorem Inv.uncaught {pins' q : List (Addr × Obj)} {ea : Addr} (ok : X.Ok) (I : Inv (X.caught ea (X.pn ++ pins ++ q)) pins' σ H s) : Inv X pins σ H s :=
  ⟨ok, I.os, I.bare, I.base, I.loc, I.cell, I.free, I.freeC, fun p hp => I.pin p (List.mem_append_left _ (List.mem_append_left _ hp)), I.hok, I.len⟩
end

theorem excMatches_own {M : Model} {A : Around} {E : Value → Shared → Prop} {nm q nm2 q2 : Str} {C N C2 N2 : Addr} {bs bm bs2 bm2 : List Value} {hdct hdct2 : Bool} {sn sn2 : List Str} {sub sub2 : List Value} {ab ab2 : Bool} {col col2 : Option Bool} {dd dd2 : Option Addr} {k0 k1 k2 k3 k5 j0 j1 j2 j3 j5 : Option Value} {nw nw2 : String}
    {h : Heap} {g : Array GenState} {d : Drawn} {t : Nat} {os : OsState} {e : Addr} {oe : Obj} {Q : Bool → Shared → Prop} (hC : h.get? C = some (excClassObj nm q C N bs bm hdct sn sub ab col dd k0 k1 k2 k3 k5 nw)) (hC2 : h.get? C2 = some (excClassObj nm2 q2 C2 N2 bs2 bm2 hdct2 sn2 sub2 ab2 col2 dd2 j0 j1 j2 j3 j5 nw2))
    (he : h.get? e = some oe) (hcls : oe.cls = .ref C) (hb : bm2.contains (.type "BaseException") = true) (hs : bm.contains (.ref C2) = true) (hq : Q true ⟨h, g, d, t, os⟩) : wpAny M A (excMatches (.ref e) (.ref C2)) Q E ⟨h, g, d, t, os⟩ := by
  have g1 : (Value.ref C2 :: bm2).contains (.type "BaseException") = true := by rw [List.contains_cons, hb, Bool.or_true]
  have g2 : (Value.ref C :: bm).contains (.ref C2) = true := by rw [List.contains_cons, hs, Bool.or_true]
  have g3 := tc_notTuple
  unfold excMatches
  repeat (first
    | (with_reducible refine wpAny_loadPart_at he ?_; rw [hcls])
    | with_reducible refine wpAny_loadPart_at hC2 ?_
    | (with_reducible refine wpAny_isSubtype_exc hC2 ?_; rw [g1])
    | (with_reducible refine wpAny_isSubtype_exc hC ?_; rw [g2])
    | wp_step)
  exact hq

/-- behind the suite the name is gone -/
def goneD (D : Ends) (i : Nat) : Ends := { nx := fun σ H => D.nx (σ.set i none) H, rt := D.rt, bk := fun σ H => D.bk (σ.set i none) H, ct := fun σ H => D.ct (σ.set i none) H }
/-- try: f(..) except C2 as n: suite -/
def tTry (K : PySem.W.Frag) (mg : Str → Option Value) (C2 : Addr) (sp : Sp) (t : TA) (i : Nat) (hs : Addr → Obj → TS) : TS := fun D σ H => t σ H fun vs H1 => sp vs H1 (fun _ H2 => D.nx σ H2)
  (fun cls _ H2 => (∃ y C bm, cls = .ref C ∧ XCls K mg y C bm ∧ bm.contains (.ref C2) = true) ∧ ∀ ea oe, oe.cls = cls → H2 ea = none → hs ea oe (goneD D i) (σ.set i (some (.ref ea))) H2)
theorem ps_try {X : Cx} {k : Nat} {name x n : Str} {ps : List Str} {sp : Sp} {p cpos spos np hpos pos : Pos} {e : Expr} {es : List Expr} {t : TA} {C2 : Addr} {bm2 : List Value} {b₀ : Stmt} {suite : List Stmt} {hs : Addr → Obj → TS} (i : Nat)
    (hcalm : X.calm = true) (hstk : X.stack = X.env :: X.outer) (hfr : X.env.frame = some X.env.locals) (G : FOkX X.prog X.w X.K X.mg X.base k name ps sp) (hr : Room k X.A) (c : XCls X.K X.mg x C2 bm2) (ha : ∀ E, PA (X.wish E) (e :: es) t)
    (hsuite : ∀ ea oe pn, (ea, oe) ∈ pn → PSs (X.caught ea pn) (b₀ :: suite) (hs ea oe)) (hN : X.N.Nodup) (hi : X.N[i]? = some n := by rfl) (hk : X.env.scope.names.lookup n = some .local := by rfl) (hg : Gl X name := by rfl) (hgx : Gl X x := by rfl)
    (hdb : (name == ("__debug__" : Str)) = false := by decide) (hdx : (x == ("__debug__" : Str)) = false := by decide) (he : starEach (e :: es) X.env = (false, eval e X.env) :: starEach es X.env := by rfl) (hpl : (backTo cpos (starEach es X.env)).any (·.1) = false := by rfl)
    (hsw : swapsWith (.Call (.Name name p) (e :: es) [] cpos) none spos.line X.env = pure false := by rfl) :
    PS X (.Try [.Expr (.Call (.Name name p) (e :: es) [] cpos) spos] [.ExceptHandler (some (.Name x np)) (some n) (b₀ :: suite) hpos] [] [] pos) (tTry X.K X.mg C2 sp t i hs) := by
  intro pins s σ H D I h
  obtain ⟨f, fd, F, b, hm, hkp⟩ := G.ex
  let E0 : Value → Shared → Prop := fun e s₁ => wpAny (model X.prog X.w) X.A (noteFrame e X.env) (fun _ s₂ => wpAny (model X.prog X.w) X.A (setFlight e none)
    (fun _ s₃ => wpAny (model X.prog X.w) X.A (handleBy e X.env [.ExceptHandler (some (.Name x np)) (some n) (b₀ :: suite) hpos]) (SP X pins D) X.xe s₃) X.xe s₂) X.xe s₁
  refine wpAny_Try_except (wpAny_execs_cons (wpAny_Expr_any ?_ I.quiet hsw))
  refine wpAny_Call_Name_kw (ld_glob I hg hm ?_ hdb)
  refine PySem.W.callWith_K (h₀ := X.base) I.ok.mod.kin hkp (thn (ha E0 cpos pins s σ H _ (I.wish E0) h) fun us s1 ⟨vs, H1, I1', r, q⟩ => ⟨I1'.unwish.kIn, ?_⟩) he hpl
  have I1 := I1'.unwish
  have hl : us.length = ps.length := by rw [← r.length]; exact F.len _ _ _ _ q
  have hb1 := b s1 us I1.kIn (by simpa using hl)
  rw [List.append_nil] at hb1
  refine wpAny_call (codeAny_mono (F.run X.A X.stack s1 H1 ⟨us, []⟩ us vs _ _ hr I1.env0 hb1 r q) fun rs s2 hq => ?_)
  cases rs with
  | ok fl =>
    cases fl with
    | ret u =>
      obtain ⟨v, H2, I2, rv, q2⟩ := I1.after hq
      exact wpAny_execs_nil (wpAny_execs_nil ⟨σ, H2, I2, q2⟩)
    | next => exact False.elim hq
    | brk => exact False.elim hq
    | cont => exact False.elim hq
  | error ev =>
    obtain ⟨ea, cls, a0, H', B, rfl, os, bare, un, hok, fl, c1, c2, c3, ⟨y, C, bm, rfl, cy, hsub⟩, hE⟩ := hq
    have fl0 : Heap.FlyingW B (X.env :: X.outer) ea (.ref C) a0 s2.heap := by rw [← hstk]; exact fl
    have nfr : ea ∉ L2.frs X.stack := fun hm => by
      obtain ⟨_, o, ho, hd⟩ := fl.2.2.1.mem hm
      obtain ⟨_, _, _, oe, vs', _, _, _, he', _, hd', _⟩ := fl
      rw [he'] at ho
      cases ho
      exact hd _ hd'
    have hfrs : L2.frs X.stack = X.env.locals :: X.fs := by rw [hstk]; exact frs_cons hfr
    have nloc : ea ≠ X.env.locals := fun z => nfr (by rw [hfrs, z]; exact List.mem_cons_self)
    have nfs : ea ∉ X.fs := fun z => nfr (by rw [hfrs]; exact List.mem_cons_of_mem _ z)
    have nH : H' ea = none := by
      cases q3 : H' ea with
      | none => rfl
      | some u =>
        obtain ⟨o, ho⟩ := c1 ea u q3
        rw [fl.2.1] at ho
        cases ho
    have key : ∀ (h9 : Heap) (tk : Nat), B.StaysIn h9 → s2.heap.UpToSlots h9 → Inv X pins σ H' { s2 with heap := h9, toks := tk } := fun h9 tk hB up => by
      refine I1.call' (ch := []) os ⟨fun b o q n hb _ => hB b o (c2 b o q n hb), fun b o q n hb _ => ?_, un.free, fun b o q _ => ?_, un.tups, un.frzs, un.tbls⟩ (hok.stays c1 fl.1 hB) bare (fun b z => nomatch z)
      · obtain ⟨sl, q2⟩ := un.slot b o q n hb (by simp)
        obtain ⟨_, o', ho, hd⟩ := fl.2.2.1.mem (b := b) hb
        rw [q2] at ho
        cases ho
        obtain ⟨sl2, q3⟩ := up b _ q2 hd
        exact ⟨sl2, q3⟩
      · by_cases hb : b ∈ L2.frs X.stack
        · obtain ⟨_, o', ho, hd⟩ := fl.2.2.1.mem (b := b) hb
          obtain ⟨sl2, q3⟩ := up b _ ho hd
          exact ⟨_, q3⟩
        · obtain ⟨o', q3⟩ := c3 b o q hb
          exact ⟨o', hB b o' q3⟩
    refine wpAny_looks_onW (by rw [← hstk]; exact I1.ok.frames) hfr fl0 fun h2 held up2 => wpAny_landsW held fun h3 fl3 up3 => ?_
    have up23 := up2.trans up3
    obtain ⟨oe3, ws3, he3, hcls3, hd3, _⟩ := fl3.first
    have I3 := key h3 s2.toks fl3.1 up23
    have J3 := I3.caught (oe := oe3) he3 nH nloc nfs (fun v z => by rw [hd3] at z; cases z)
    obtain ⟨N1, nm1, qn1, bs1, hdct1, sn1, sub1, ab1, col1, dd1, k01, k11, k21, k31, k51, mN1, hC1, _, _, T1⟩ := cy.at I3.kIn
    obtain ⟨N2, nm2, qn2, bs2, hdct2, sn2, sub2, ab2, col2, dd2, k02, k12, k22, k32, k52, mN2, hC2, _, _, T2⟩ := c.at I3.kIn
    refine wpAny_handleBy_cons (codeAny_handlers_test (ld_glob J3 hgx c.bound ?_ hdx)) (by intro z; cases z)
    refine excMatches_own hC1 hC2 he3 hcls3 (T2.hasType PySem.F.excBase_ValueError.hasBase) hsub ?_
    refine codeAny_handlers_suite_as (lands_againW fl3 fun h4 fl4 up4 => ?_)
    obtain ⟨oe4, ws4, he4, hcls4, hd4, _⟩ := fl4.first
    have I4 := key h4 s2.toks fl4.1 (up23.trans up4)
    have J4 := I4.caught (oe := oe4) he4 nH nloc nfs (fun v z => by rw [hd4] at z; cases z)
    refine store_ok (X := X.caught ea (X.pn ++ pins ++ [(ea, oe4)])) J4 hN hi (.inl hk) (v := .ref ea) rfl (fun s5 J5 => ?_) (.inr hk)
    refine wpAny_mono (hsuite ea oe4 _ (List.mem_append_right _ (List.mem_singleton.mpr rfl)) [] s5 _ H' (goneD D i) J5 (hE ea oe4 hcls4 nH)) (fun fl6 s6 q6 => ?_) (fun _ _ z => z.elim)
    cases fl6 with
    | next =>
      obtain ⟨σ6, H6, I6, q7⟩ := q6
      exact name_gone (I6.uncaught I.ok) hN hi hk fun s7 I7 => ⟨_, H6, I7, q7⟩
    | brk =>
      obtain ⟨σ6, H6, I6, q7⟩ := q6
      exact name_gone (I6.uncaught I.ok) hN hi hk fun s7 I7 => ⟨_, H6, I7, q7⟩
    | cont =>
      obtain ⟨σ6, H6, I6, q7⟩ := q6
      exact name_gone (I6.uncaught I.ok) hN hi hk fun s7 I7 => ⟨_, H6, I7, q7⟩
    | ret u =>
      obtain ⟨v6, σ6, H6, I6, r6, q7⟩ := q6
      exact name_gone (I6.uncaught I.ok) hN hi hk fun s7 I7 => ⟨v6, _, H6, I7, r6, q7⟩
end L2

set_option Elab.async false
set_option linter.all false
set_option maxRecDepth 100000
/-! own work: the sorting of the model by any strict order of unlike keys -/
namespace Srt
open PySem PySem.W PyProof.Rows
section
variable {n : Nat} {lt : Nat → Nat → Bool} {cmp : Nat → Nat → (Bool → Shared → Prop) → Shared → Prop} {G : Shared → Prop}
structure Ord (n : Nat) (lt : Nat → Nat → Bool) : Prop where
  tr : ∀ i j k, lt i j = true → lt j k = true → lt i k = true
  asy : ∀ i j, lt i j = true → lt j i = false
  tot : ∀ i j, i < n → j < n → i ≠ j → lt i j = true ∨ lt j i = true
structure Pm (n : Nat) (p : Array Nat) : Prop where
  size : p.size = n
  perm : p.Perm (List.range n).toArray
theorem Pm.below (h : Pm n p) {a : Nat} (ha : a < n) : p.getD a 0 < n := by
  have hs : a < p.size := by rw [h.size]; exact ha
  have hm : p[a] ∈ p := Array.getElem_mem hs
  have : p[a] ∈ (List.range n).toArray := h.perm.mem_iff.mp hm
  rw [Array.getD_eq_getD_getElem?, Array.getElem?_eq_getElem hs]
  simpa using this
theorem Pm.ne (h : Pm n p) {a b : Nat} (ha : a < n) (hb : b < n) (hab : a ≠ b) : p.getD a 0 ≠ p.getD b 0 := by
  have hs : a < p.size := by rw [h.size]; exact ha
  have hs2 : b < p.size := by rw [h.size]; exact hb
  have nd : p.toList.Nodup := by
    have := (Array.perm_iff_toList_perm.mp h.perm)
    exact this.nodup_iff.mpr (by simpa using List.nodup_range)
  rw [Array.getD_eq_getD_getElem?, Array.getElem?_eq_getElem hs, Array.getD_eq_getD_getElem?, Array.getElem?_eq_getElem hs2]
  intro e
  have := (List.getElem_inj (h₀ := by simpa using hs) (h₁ := by simpa using hs2) nd).mp (by simpa using e)
  exact hab this
def Up (lt : Nat → Nat → Bool) (p : Array Nat) (m : Nat) : Prop := ∀ a b, a < b → b < m → lt (p.getD a 0) (p.getD b 0) = true
def Dn (lt : Nat → Nat → Bool) (p : Array Nat) (m : Nat) : Prop := ∀ a b, a < b → b < m → lt (p.getD b 0) (p.getD a 0) = true
theorem Up.more (o : Ord n lt) {p : Array Nat} {m : Nat} (h : Up lt p m) (h1 : 1 ≤ m) (hl : lt (p.getD (m - 1) 0) (p.getD m 0) = true) : Up lt p (m + 1) := fun a b hab hb => by
  by_cases e : b = m
  · subst e
    by_cases e2 : a = b - 1
    · rw [e2]; exact hl
    · exact o.tr _ _ _ (h a (b - 1) (by omega) (by omega)) hl
  · exact h a b hab (by omega)
theorem Dn.more (o : Ord n lt) {p : Array Nat} {m : Nat} (h : Dn lt p m) (h1 : 1 ≤ m) (hl : lt (p.getD m 0) (p.getD (m - 1) 0) = true) : Dn lt p (m + 1) := fun a b hab hb => by
  by_cases e : b = m
  · subst e
    by_cases e2 : a = b - 1
    · rw [e2]; exact hl
    · exact o.tr _ _ _ hl (h a (b - 1) (by omega) (by omega))
  · exact h a b hab (by omega)
theorem other (o : Ord n lt) {p : Array Nat} (hp : Pm n p) {a b : Nat} (ha : a < n) (hb : b < n) (hab : a ≠ b) (h : ¬ lt (p.getD a 0) (p.getD b 0) = true) : lt (p.getD b 0) (p.getD a 0) = true := by
  rcases o.tot _ _ (hp.below ha) (hp.below hb) (hp.ne ha hb hab) with z | z
  · exact absurd z h
  · exact z
variable (o : Ord n lt) (hc : ∀ i j C s, i < n → j < n → i ≠ j → G s → (∀ s', G s' → C (lt i j) s') → cmp i j C s)
include o hc
theorem asc {p : Array Nat} (hp : Pm n p) {Q : Nat → Shared → Prop} : ∀ (f m : Nat) (s : Shared), 1 ≤ m → m + f ≤ n → Up lt p m → G s →
    (∀ k s', m ≤ k → k ≤ m + f → Up lt p k → (k = m + f ∨ lt (p.getD k 0) (p.getD (k - 1) 0) = true) → G s' → Q k s') → (kas_asc p f m).kasWp cmp Q s
  | 0, m, s, h1, h2, hu, g, k => k m s (Nat.le_refl _) (Nat.le_refl _) hu (.inl rfl) g
  | f + 1, m, s, h1, h2, hu, g, k => by
    refine hc _ _ _ s (hp.below (by omega)) (hp.below (by omega)) (hp.ne (by omega) (by omega) (by omega)) g fun s' g' => ?_
    by_cases c : lt (p.getD m 0) (p.getD (m - 1) 0) = true
    · dsimp only
      rw [if_pos c]
      exact k m s' (Nat.le_refl _) (by omega) hu (.inr c) g'
    · dsimp only
      rw [if_neg c]
      have c' := other o hp (by omega) (by omega) (by omega) c
      exact asc hp f (m + 1) s' (by omega) (by omega) (hu.more o h1 c') g' fun j s'' a1 a2 a3 a4 a5 => k j s'' (by omega) (by omega) a3 (by rcases a4 with z | z; exact .inl (by omega); exact .inr z) a5
theorem desc {p : Array Nat} (hp : Pm n p) {Q : Array Nat × Nat × Nat → Shared → Prop} : ∀ (f m : Nat) (s : Shared), 1 ≤ m → m + f ≤ n → Dn lt p m → G s →
    (∀ k s', m ≤ k → k ≤ m + f → Dn lt p k → G s' → Q (p, k, 0) s') → (kas_desc f p m 0).kasWp cmp Q s
  | 0, m, s, h1, h2, hu, g, k => k m s (Nat.le_refl _) (Nat.le_refl _) hu g
  | f + 1, m, s, h1, h2, hu, g, k => by
    refine hc _ _ _ s (hp.below (by omega)) (hp.below (by omega)) (hp.ne (by omega) (by omega) (by omega)) g fun s' g' => ?_
    by_cases c : lt (p.getD m 0) (p.getD (m - 1) 0) = true
    · dsimp only
      rw [if_pos c, if_neg (by omega)]
      exact desc hp f (m + 1) s' (by omega) (by omega) (hu.more o h1 c) g' fun j s'' a1 a2 a3 a4 => k j s'' (by omega) (by omega) a3 a4
    · dsimp only
      rw [if_neg c]
      have c' := other o hp (by omega) (by omega) (by omega) c
      refine hc _ _ _ s' (hp.below (by omega)) (hp.below (by omega)) (hp.ne (by omega) (by omega) (by omega)) g' fun s'' g'' => ?_
      dsimp only
      rw [if_pos c']
      exact k m s'' (Nat.le_refl _) (by omega) hu g''
omit o hc in
theorem rev_at {p : Array Nat} {m k : Nat} (hm : m ≤ p.size) (hk : k < m) : (kas_rev p 0 m).getD k 0 = p.getD (m - 1 - k) 0 := by
  unfold kas_rev
  rw [Array.getD_eq_getD_getElem?, getElem?_mirror_all hm, if_pos (by omega), Array.getD_eq_getD_getElem?]
  congr 2
  omega
omit o hc in
theorem rev_pm {p : Array Nat} (hp : Pm n p) (m : Nat) : Pm n (kas_rev p 0 m) := ⟨by unfold kas_rev; rw [mirror_size, hp.size], (mirror_perm _ _ _ _).trans hp.perm⟩
theorem tail3 {p : Array Nat} (hp : Pm n p) {Q : Nat × Array Nat → Shared → Prop} {m : Nat} {s : Shared} (h1 : 1 ≤ m) (h2 : m ≤ n) (hd : Dn lt p m) (g : G s)
    (k : ∀ j p' s', 1 ≤ j → j ≤ n → Pm n p' → Up lt p' j → G s' → Q (j, p') s') : (kas_tail3 m n p).kasWp cmp Q s := by
  unfold kas_tail3
  rw [KasT.kasWp_bind]
  have hu : Up lt (kas_rev p 0 m) m := fun a b hab hb => by
    rw [rev_at (by rw [hp.size]; exact h2) (by omega), rev_at (by rw [hp.size]; exact h2) hb]
    exact hd _ _ (by omega) (by omega)
  exact asc o hc (rev_pm hp m) _ m s h1 (by omega) hu g fun j s' a1 a2 a3 _ a5 => k j _ s' (by omega) (by omega) (rev_pm hp m) a3 a5
theorem count {p : Array Nat} (hp : Pm n p) {Q : Nat × Array Nat → Shared → Prop} {s : Shared} (h1 : 1 ≤ n) (g : G s)
    (k : ∀ j p' s', 1 ≤ j → j ≤ n → Pm n p' → Up lt p' j → G s' → Q (j, p') s') : (kas_count n p).kasWp cmp Q s := by
  unfold kas_count
  rw [KasT.kasWp_bind]
  refine asc o hc hp (n - 1) 1 s (Nat.le_refl _) (by omega) (fun a b _ _ => by omega) g fun m s' a1 a2 a3 a4 a5 => ?_
  by_cases e : m = n
  · rw [if_pos (by simp [e])]
    exact k m p s' a1 (by omega) hp a3 a5
  · rw [if_neg (by simp [e])]
    by_cases e1 : m > 1
    · rw [if_pos e1]
      refine hc _ _ _ s' (hp.below (by omega)) (hp.below (by omega)) (hp.ne (by omega) (by omega) (by omega)) a5 fun s'' g'' => ?_
      dsimp only
      rw [if_pos (a3 0 (m - 1) (by omega) (by omega))]
      exact k m p s'' a1 (by omega) hp a3 g''
    · rw [if_neg e1]
      have em : m = 1 := by omega
      subst em
      have hl : lt (p.getD 1 0) (p.getD 0 0) = true := by
        rcases a4 with z | z
        · omega
        · exact z
      unfold kas_descPart
      rw [KasT.kasWp_bind]
      refine desc o hc hp (n - 2) 2 s' (by omega) (by omega) (fun a b hab hb => ?_) a5 fun j s'' b1 b2 b3 b4 => ?_
      · have ea : a = 0 := by omega
        have eb : b = 1 := by omega
        rw [ea, eb]
        exact hl
      · rw [if_neg (show ¬ ((p, j, 0) : Array Nat × Nat × Nat).2.2 > 0 from by simp)]
        exact tail3 o hc hp (by show 1 ≤ j; omega) (by show j ≤ n; omega) b3 b4 k
theorem place {p : Array Nat} (hp : Pm n p) {k : Nat} (hk : k < n) {Q : Nat → Shared → Prop} : ∀ (f l r : Nat) (s : Shared), l ≤ r → r ≤ k → r - l ≤ f → G s →
    (∀ a, a < l → lt (p.getD a 0) (p.getD k 0) = true) → (∀ a, r ≤ a → a < k → lt (p.getD k 0) (p.getD a 0) = true) → Up lt p k →
    (∀ l s', l ≤ k → (∀ a, a < l → lt (p.getD a 0) (p.getD k 0) = true) → (∀ a, l ≤ a → a < k → lt (p.getD k 0) (p.getD a 0) = true) → G s' → Q l s') → (kas_place p k f l r).kasWp cmp Q s
  | 0, l, r, s, h1, h2, h3, g, b1, b2, hu, q => q l s (by omega) b1 (fun a h => b2 a (by omega)) g
  | f + 1, l, r, s, h1, h2, h3, g, b1, b2, hu, q => by
    unfold kas_place
    by_cases e : l ≥ r
    · rw [if_pos e]
      exact q l s (by omega) b1 (fun a h => b2 a (by omega)) g
    · rw [if_neg e]
      refine hc _ _ _ s (hp.below (by omega)) (hp.below (by omega)) (hp.ne (by omega) (by omega) (by omega)) g fun s' g' => ?_
      by_cases c : lt (p.getD k 0) (p.getD ((l + r) / 2) 0) = true
      · dsimp only
        rw [if_pos c]
        refine place hp hk f l ((l + r) / 2) s' (by omega) (by omega) (by omega) g' b1 (fun a h1 h2 => ?_) hu q
        by_cases ea : a = (l + r) / 2
        · rw [ea]; exact c
        · exact o.tr _ _ _ c (hu _ _ (by omega) h2)
      · dsimp only
        rw [if_neg c]
        have c' := other o hp (by omega) (by omega) (by omega) c
        refine place hp hk f ((l + r) / 2 + 1) r s' (by omega) (by omega) (by omega) g' (fun a h1 => ?_) b2 hu q
        by_cases ea : a = (l + r) / 2
        · rw [ea]; exact c'
        · exact o.tr _ _ _ (hu _ _ (by omega) (by omega)) c'
theorem bin {Q : Array Nat → Shared → Prop} (hQ : ∀ p s', Pm n p → Up lt p n → G s' → Q p s') : ∀ (f : Nat) (p : Array Nat) (k : Nat) (s : Shared), k + f = n → Pm n p → Up lt p k → G s → (kas_bin f p k).kasWp cmp Q s
  | 0, p, k, s, h, hp, hu, g => hQ p s hp ((show k = n from h) ▸ hu) g
  | f + 1, p, k, s, h, hp, hu, g => by
    unfold kas_bin
    rw [KasT.kasWp_bind]
    refine place o hc hp (by omega) k 0 k s (Nat.zero_le _) (Nat.le_refl _) (by omega) g (fun a h => by omega) (fun a h1 h2 => by omega) hu fun l s' hl b1 b2 g' => ?_
    have hs : k < p.size := by rw [hp.size]; omega
    have at' : ∀ j, (bubble p k (k - l)).getD j 0 = if j = l then p.getD k 0 else if l < j ∧ j ≤ k then p.getD (j - 1) 0 else p.getD j 0 := fun j => by
      simp only [Array.getD_eq_getD_getElem?]
      rw [getElem?_bubble hs (k - l) (by omega) j, show k - (k - l) = l by omega]
      by_cases q1 : j = l
      · rw [if_pos q1, if_pos q1]
      · rw [if_neg q1, if_neg q1]
        by_cases q2 : l < j ∧ j ≤ k
        · rw [if_pos q2, if_pos q2]
        · rw [if_neg q2, if_neg q2]
    refine bin hQ f _ (k + 1) s' (by omega) ⟨by rw [bubble_size, hp.size], (bubble_perm _ _ _).trans hp.perm⟩ (fun a b hab hb => ?_) g'
    rw [at', at']
    by_cases e1 : a = l
    · rw [if_pos e1, if_neg (by omega), if_pos (by omega)]
      exact b2 _ (by omega) (by omega)
    · rw [if_neg e1]
      by_cases e2 : l < a ∧ a ≤ k
      · rw [if_pos e2, if_neg (by omega), if_pos (by omega)]
        exact hu _ _ (by omega) (by omega)
      · rw [if_neg e2]
        by_cases e3 : b = l
        · rw [if_pos e3]
          exact b1 _ (by omega)
        · rw [if_neg e3]
          by_cases e4 : l < b ∧ b ≤ k
          · rw [if_pos e4]
            by_cases e5 : a = b - 1
            · exact absurd e5 (by omega)
            · exact hu _ _ (by omega) (by omega)
          · rw [if_neg e4]
            exact hu _ _ hab (by omega)
theorem sort {Q : Array Nat → Shared → Prop} {s : Shared} (h1 : 1 ≤ n) (g : G s) (hQ : ∀ p s', Pm n p → Up lt p n → G s' → Q p s') : (kas_sort n).kasWp cmp Q s := by
  unfold kas_sort
  rw [KasT.kasWp_bind]
  refine count o hc ⟨by simp, Array.Perm.refl _⟩ h1 g fun j p' s' a1 a2 a3 a4 a5 => ?_
  by_cases e : j < n
  · dsimp only
    rw [if_pos e, Nat.max_eq_left a1]
    exact bin o hc hQ _ p' j s' (by omega) a3 a4 a5
  · dsimp only
    rw [if_neg e]
    exact hQ p' s' a3 ((show j = n by omega) ▸ a4) a5
end
end Srt

set_option Elab.async false
set_option linter.all false
set_option maxRecDepth 100000
/-! own work over the hand layer: d.items(), sorted of a dict's items -/
namespace L2
open PySem PySem.Spec PyProof.Rows PySem.W

/-- a tuple of a text and a thing -/
def PrIn (h : Heap) (v : Value) (x : Str) : Prop := ∃ a t y, v = .ref a ∧ h.get? a = some { cls := .type "tuple", data := .seq #[.str x t, y] }
def ltX (xs : List Str) (i j : Nat) : Bool := decide ((xs.getD i "").cps.toList < (xs.getD j "").cps.toList)
theorem getD_at {xs : List Str} {i : Nat} (h : i < xs.length) : xs.getD i "" = xs[i] := by
  rw [List.getD_eq_getElem?_getD, List.getElem?_eq_getElem h]
  rfl
theorem ltX_ord {xs : List Str} (nd : xs.Nodup) : Srt.Ord xs.length (ltX xs) where
  tr := fun i j k h1 h2 => by
    unfold ltX at *
    rw [decide_eq_true_eq] at *
    exact List.lt_trans h1 h2
  asy := fun i j h1 => by
    unfold ltX at *
    rw [decide_eq_true_eq] at h1
    exact decide_eq_false (List.lt_asymm h1)
  tot := fun i j hi hj hij => by
    unfold ltX
    rw [getD_at hi, getD_at hj, decide_eq_true_eq, decide_eq_true_eq]
    by_cases q : xs[i].cps.toList < xs[j].cps.toList
    · exact .inl q
    · by_cases q2 : xs[j].cps.toList < xs[i].cps.toList
      · exact .inr q2
      · have e := List.le_antisymm (List.not_lt.mp q2) (List.not_lt.mp q)
        have e2 : xs[i] = xs[j] := by rw [← tx_eta xs[i], ← tx_eta xs[j], e]
        exact absurd ((List.getElem_inj nd).mp e2) hij
theorem katTups_of {h : Heap} : ∀ {vs : List Value} {xs : List Str}, xs.length = vs.length → (∀ (i : Nat) (v : Value) (x : Str), vs[i]? = some v → xs[i]? = some x → PrIn h v x) → ∃ fs, KatTups h vs fs ∧ fs.length = vs.length ∧ ∀ f ∈ fs, ∃ x t, f = .str x t
  | [], [], _, _ => ⟨[], trivial, rfl, fun f hf => nomatch hf⟩
  | [], _ :: _, h, _ => by cases h
  | _ :: _, [], h, _ => by cases h
  | v :: vs, x :: xs, hl, hv => by
    obtain ⟨a, t, y, rfl, ha⟩ := hv 0 v x rfl rfl
    obtain ⟨fs, k, l, q⟩ := katTups_of (vs := vs) (xs := xs) (by simpa using hl) fun i v x e1 e2 => hv (i + 1) v x e1 e2
    refine ⟨.str x t :: fs, KatTups.cons ha rfl rfl rfl k, by simp [l], fun f hf => ?_⟩
    rcases List.mem_cons.mp hf with z | z
    · exact ⟨x, t, z⟩
    · exact q f z
section
variable {prog : Program} {w : World} {A : Around} {E : Value → Shared → Prop} {s : Shared}
theorem list_sortT {a : Addr} {vs : List Value} {xs : List Str} {n : Nat} {P : PySem.Fin → Shared → Prop} (ho : s.heap.get? a = some (seqObj "list" vs.toArray n)) (h64 : vs.length < 64) (hl : xs.length = vs.length) (nd : xs.Nodup)
    (hv : ∀ (i : Nat) (v : Value) (x : Str), vs[i]? = some v → xs[i]? = some x → PrIn s.heap v x)
    (h : ∀ (h1 : Heap) (tk c : Nat) (p : Array Nat), Srt.Pm xs.length p → Srt.Up (ltX xs) p xs.length → (∀ b o, b ≠ a → s.heap.get? b = some o → h1.get? b = some o) →
      h1.get? a = some (seqObj "list" (p.toList.map fun i => vs.getD i Value.none).toArray c) → P (.done (.ret .none)) { s with heap := h1, toks := tk }) :
    wpAny (model prog w) A (Builtin.«list.sort» ⟨[.ref a], []⟩) P E s := by
  have ha : a < s.heap.objs.size := Heap.lt_size ho
  have hz : vs.length ≤ sizeLine := by rw [sizeLine_eq]; omega
  rw [list_sort_plain]
  refine wpAny_bind (listItems_at ho rfl (wpAny_bind (listUpdate_at ho rfl ?_ (by rw [List.size_toArray]; exact hz) (Nat.zero_le _))))
  obtain ⟨e1, ho1⟩ : ∃ e1, (s.heap.update a (Obj.mapSeq fun _ => (#[] : Array Value))).get? a = some (seqObj "list" #[] e1) := ⟨_, get?_update_seq ho fun _ => #[]⟩
  have k1 : ∀ b o, b ≠ a → s.heap.get? b = some o → (s.heap.update a (Obj.mapSeq fun _ => (#[] : Array Value))).get? b = some o := fun b o hb q => (Heap.get?_update_other _ _ (Ne.symm hb)).trans q
  refine wpAny_bind (seqEpoch_at ho1 rfl (wpAny_bind (wpAny_newTuple ?_ (by show vs.length ≤ _; exact hz))))
  refine wpAny_bind (wpAny_newList ?_ (Nat.zero_le _))
  refine wpAny_holding ?_
  generalize hg : ((s.heap.update a (Obj.mapSeq fun _ => (#[] : Array Value))).push { cls := .type "tuple", data := .seq vs.toArray.toList.toArray }).push { cls := .type "list", data := .seq ([] : List Value).toArray } = h6
  have k6 : ∀ b o, b ≠ a → s.heap.get? b = some o → h6.get? b = some o := fun b o hb q => by
    rw [← hg]
    exact Heap.get?_push_of_some _ (Heap.get?_push_of_some _ (k1 b o hb q))
  have ho6 : h6.get? a = some (seqObj "list" #[] e1) := by
    rw [← hg]
    exact Heap.get?_push_of_some _ (Heap.get?_push_of_some _ ho1)
  have hv6 : ∀ (i : Nat) (v : Value) (x : Str), vs[i]? = some v → xs[i]? = some x → PrIn h6 v x := fun i v x q1 q2 => by
    obtain ⟨b, t, y, rfl, hb⟩ := hv i v x q1 q2
    exact ⟨b, t, y, rfl, k6 b _ (fun z => by rw [z, ho] at hb; injection hb with hb; exact absurd (congrArg Obj.cls hb) (by unfold seqObj; simp)) hb⟩
  show wpAny (model prog w) A _ P E { s with heap := h6 }
  dsimp only
  -- the end: the items are put back
  have fin : ∀ (tk : Nat) (p : Array Nat) (out : Array Value), Srt.Pm xs.length p → Srt.Up (ltX xs) p xs.length → out = (p.toList.map fun i => vs.getD i Value.none).toArray →
      ∃ c, (h6.update a (Obj.mapSeq fun _ => out)).get? a = some (seqObj "list" out c) ∧ out.size ≤ sizeLine ∧ P (.done (.ret .none)) { s with heap := h6.update a (Obj.mapSeq fun _ => out), toks := tk } := fun tk p out hp hu ho' => by
    have hc := get?_update_seq ho6 fun _ => out
    refine ⟨_, hc, ?_, h _ tk _ p hp hu (fun b o hb q => (Heap.get?_update_other _ _ (Ne.symm hb)).trans (k6 b o hb q)) (by rw [← ho']; exact hc)⟩
    rw [ho', List.size_toArray, List.length_map, Array.length_toList, hp.size, hl]
    exact hz
  by_cases h2 : vs.toArray.size < 2
  · rw [if_pos h2, if_pos h2]
    rw [List.size_toArray] at h2
    have hr : vs.toArray = ((List.range xs.length).toArray.toList.map fun i => vs.getD i Value.none).toArray := by
      congr 1
      apply List.ext_getElem?
      intro i
      simp only [List.getElem?_map]
      by_cases hi : i < vs.length
      · rw [List.getElem?_eq_getElem hi, List.getElem?_range (by omega), Option.map_some, List.getD_eq_getElem?_getD, List.getElem?_eq_getElem hi]
        rfl
      · rw [List.getElem?_eq_none (by omega), List.getElem?_eq_none (by simp; omega)]
        rfl
    obtain ⟨c, f1, f2, f3⟩ := fin s.toks (List.range xs.length).toArray vs.toArray ⟨by simp, Array.Perm.refl _⟩ (fun a b hab hb => by omega) hr
    refine wpAny_bind (wpAny_pure ?_)
    rw [StateT.run_pure]
    refine wpAny_bind (wpAny_pure ?_)
    have eo : (arrOf (SortSt.mk' general' (vs.toArray.zip vs.toArray) #[] 7 none)).map (·.2) = vs.toArray := by
      show (vs.toArray.zip vs.toArray).map (·.2) = vs.toArray
      apply Array.toList_inj.mp
      simp
      exact List.map_snd_zip (Nat.le_refl _)
    dsimp only
    rw [eo]
    refine wpAny_bind (seqEpoch_at ho6 rfl (wpAny_bind (listUpdate_at ho6 rfl ?_ (Nat.zero_le _) (Nat.le_succ_of_le f2))))
    simp only [bne_self_eq_false, Bool.false_eq_true, if_false]
    exact wpAny_pure f3
  · rw [if_neg h2, if_neg h2]
    rw [List.size_toArray] at h2
    obtain ⟨fs, kt, lf, hf⟩ := katTups_of hl hv6
    refine wpAny_bind (kat_kind (T := .type "str") kt (by omega) (fun f m => ?_) (by decide) ?_)
    · obtain ⟨x, t, rfl⟩ := hf f m
      exact Looks.of_pure rfl
    refine wpAny_bind (wpAny_mono (kat_run (κ := tuples' ((Value.type "str") != Value.type "tuple")) (ks := vs) (vs := vs) (G := fun p s' => (∃ tk, s' = { s with heap := h6, toks := tk }) ∧ Srt.Pm xs.length p ∧ Srt.Up (ltX xs) p xs.length)
      (Q := fun st' s' => ∃ p : Array Nat, arrOf st' = p.map (kas_item (vs.toArray.zip vs.toArray)) ∧ failedOf st' = none ∧ (∃ tk, s' = { s with heap := h6, toks := tk }) ∧ Srt.Pm xs.length p ∧ Srt.Up (ltX xs) p xs.length)
      rfl (by omega) h64 (fun p st' s' _ a2 a3 a4 => ⟨p, a2, a3, a4⟩) ?_) ?_ fun _ _ e => e)
    · rw [← hl]
      refine Srt.sort (G := fun s' => ∃ tk, s' = { s with heap := h6, toks := tk }) (ltX_ord nd) (fun i j C s' hi hj hij g k => ?_) (by omega) ⟨s.toks, rfl⟩ fun p s' hp hu g => ⟨g, hp, hu⟩
      obtain ⟨tk, rfl⟩ := g
      have hi' : i < vs.length := by omega
      have hj' : j < vs.length := by omega
      obtain ⟨b1, t1, y1, e1, g1⟩ := hv6 i vs[i] xs[i] (List.getElem?_eq_getElem hi') (List.getElem?_eq_getElem hi)
      obtain ⟨b2, t2, y2, e2, g2⟩ := hv6 j vs[j] xs[j] (List.getElem?_eq_getElem hj') (List.getElem?_eq_getElem hj)
      have n1 : vs.getD i Value.none = .ref b1 := by rw [List.getD_eq_getElem?_getD, List.getElem?_eq_getElem hi']; exact e1
      have n2 : vs.getD j Value.none = .ref b2 := by rw [List.getD_eq_getElem?_getD, List.getElem?_eq_getElem hj']; exact e2
      have hne : ¬ xs[i] = xs[j] := fun z => hij ((List.getElem_inj nd).mp z)
      show wpAny (model prog w) A (keyLt' _ (vs.getD i Value.none) (vs.getD j Value.none)) C (fun _ _ => False) { s with heap := h6, toks := tk }
      rw [n1, n2]
      refine kat_lt (s := { s with heap := h6, toks := tk }) g1 rfl g2 rfl (kat_cons (wpAny_eqBool_str ?_))
      rw [decide_eq_false hne]
      refine kat_no ?_
      refine kas_lt_str ?_
      have el : decide (xs[i].cps.toList < xs[j].cps.toList) = ltX xs i j := by
        unfold ltX
        rw [getD_at hi, getD_at hj]
      rw [el]
      exact k _ ⟨tk, rfl⟩
    · rintro ⟨⟨⟩, st'⟩ s' ⟨p, har, hf', ⟨tk, rfl⟩, hp, hu⟩
      obtain ⟨c, f1, f2, f3⟩ := fin tk p _ hp hu rfl
      dsimp only
      rw [kat_snds rfl har]
      refine wpAny_bind (seqEpoch_at (s := { s with heap := h6, toks := tk }) ho6 rfl (wpAny_bind (listUpdate_at (s := { s with heap := h6, toks := tk }) ho6 rfl ?_ (Nat.zero_le _) (Nat.le_succ_of_le f2))))
      rw [hf']
      simp only [bne_self_eq_false, Bool.false_eq_true, if_false]
      exact wpAny_pure f3
end

/-! ### several new objects at once -/
theorem ObjOk.there' {P : Program} {w : World} {H : Hp} {h : Heap} {a : Addr} {o : HO} (x : ObjOk P w H h a o) : ∃ u, h.get? a = some u := by
  cases o with
  | lst xs => obtain ⟨_, _, _, _, e⟩ := x; exact ⟨_, e⟩
  | tup xs => obtain ⟨_, _, _, ⟨_, e, _⟩, _⟩ := x; exact ⟨_, e⟩
  | dK kvs => obtain ⟨_, _, _, _, o, _, _, e, _⟩ := x; exact ⟨_, e⟩
  | dT kvs => obtain ⟨_, _, _, _, o, _, _, e, _⟩ := x; exact ⟨_, e⟩
  | set S n => obtain ⟨o, _, _, _, e, _⟩ := x; exact ⟨_, e⟩
  | ins C dx fs => obtain ⟨_, _, _, e, _⟩ := x; exact ⟨_, e⟩
  | own y => exact x
  | xd fs => obtain ⟨_, ⟨_, _, _, e, _⟩, _⟩ := x; exact ⟨_, e⟩
  | rng lo hi => obtain ⟨_, _, _, e⟩ := x; exact ⟨_, e⟩
  | frz ob u => obtain ⟨e, _⟩ := x; exact ⟨_, e⟩
  | tbl ps => exact ⟨_, show h.get? a = some _ from x⟩
  | met f y => exact ⟨_, show h.get? a = some _ from x⟩
  | ext φ => obtain ⟨_, e, _⟩ := x; exact e
section
variable {X : Cx} {pins : List (Addr × Obj)} {σ : St} {H : Hp} {s : Shared}
theorem Inv.laidN {N : Addr → Option HO} {h1 : Heap} {tk : Nat} (I : Inv X pins σ H s) (k : ∀ b u, s.heap.get? b = some u → h1.get? b = some u) (hN : ∀ a o, N a = some o → s.heap.get? a = none ∧ ∀ H2, ObjOk X.prog X.w H2 h1 a o) :
    Inv X pins σ (fun b => (N b).or (H b)) { s with heap := h1, toks := tk } := by
  have low : ∀ b u, s.heap.get? b = some u → N b = none := fun b u hb => by
    cases q : N b with
    | none => rfl
    | some o => rw [(hN b o q).1] at hb; cases hb
  have old : ∀ b u, H b = some u → (N b).or (H b) = some u := fun b u q => by
    obtain ⟨v, hv⟩ := (I.hok b u q).there'
    rw [low b v hv, Option.none_or]
    exact q
  refine I.un ⟨fun b o q _ _ _ => k b o q, fun b o q _ _ _ => ⟨o.slots, k b o q⟩, fun b o q n _ => ?_, fun b o q _ => ⟨o, k b o q⟩, fun b xs q => old b _ q, fun b o u q => old b _ q, fun b ps q => ⟨#[], by rw [old b _ q]; simp⟩⟩ fun a o q => ?_
  · show (N b).or (H b) = none
    rw [low b o q, Option.none_or]
    exact n
  · cases e : N a with
    | some u =>
      rw [e, Option.some_or] at q
      cases q
      exact (hN a o e).2 _
    | none =>
      rw [e, Option.none_or] at q
      exact (I.hok a o q).stay (fun b u _ z => k b u z) (fun b z => old b _ z) fun b xs z => old b _ z
end

/-! ### d.items(), sorted(d.items()) -/
def ivO (p d : Addr) : HO := .ext fun h => h.IsItemsView p d
theorem mt_items {X : Cx} : MtR X "dict.items" (fun x vs H Q => ∃ d kvs, x = .ref d ∧ vs = [] ∧ H d = some (.dK kvs) ∧ ∀ p, H p = none → Q (.ref p) (upd H p (ivO p d))) := by
  intro pins s σ H x vs v us Q I rx rv h
  obtain ⟨d, kvs, rfl, rfl, hd, q⟩ := h
  cases rx
  cases rv
  obtain ⟨hz, lo, vs', kv, dd⟩ := dk_of I.hok hd
  refine call_meetsIn PySem.F.slot_dict_items dd.typeIs PySem.F.entry_dict_items (PySem.F.args_dict_items_1 _) (meets_dict_items (mixKind X.prog X.w) d lo) ⟨⟨_, dd⟩, ?_⟩
  refine ⟨.ref s.heap.objs.size, _, I.laid (t' := s.toks) (o := ivO s.heap.objs.size d) (fun b u e => Heap.get?_push_of_some _ e) (Nat.le_refl _) ?_, rfl, q _ (I.hok.fresh (Nat.le_refl _))⟩
  refine ⟨⟨_, Heap.get?_push_size _ rfl, rfl, rfl⟩, ⟨_, Heap.get?_push_size _ rfl⟩, fun h1 h2 ⟨o, e, r⟩ k => ⟨o, k o e, r⟩⟩
theorem perm_getD (ks : List Str) (p : Array Nat) (hp : Srt.Pm ks.length p) : (p.toList.map fun i => ks.getD i "").Perm ks := by
  have h1 := (Array.perm_iff_toList_perm.mp hp.perm).map fun i => ks.getD i ""
  have h2 : ((List.range ks.length).toArray.toList.map fun i => ks.getD i "") = ks := by
    apply List.ext_getElem?
    intro i
    simp only [List.getElem?_map]
    by_cases hi : i < ks.length
    · rw [List.getElem?_range hi, List.getElem?_eq_getElem hi, Option.map_some, getD_at hi]
    · rw [List.getElem?_eq_none (by simp; omega), List.getElem?_eq_none (by omega)]
      rfl
  rw [h2] at h1
  exact h1
theorem call_sortedI {X : Cx} (hc : X.calm = true) : CallR X (.builtin "sorted") (fun xs H Q => ∃ (p d : Addr) (ks : List Str) (g : Str → V), xs = [.ref p] ∧ H p = some (ivO p d) ∧ H d = some (.dK (ks.map fun x => ((Sum.inr x : Key), g x))) ∧ ks.Nodup ∧ ks.length < 64 ∧
    ∀ (D : Addr) (H1 : Hp) (vs : List V) (ss : List Str), Same H H1 → ss.Perm ks → (ss.map fun x => x.cps.toList).Pairwise (· < ·) → H1 D = some (.lst vs) → vs.length = ss.length →
      (∀ (i : Nat) (x : Str), ss[i]? = some x → ∃ b, vs[i]? = some (.ref b) ∧ H1 b = some (.tup [.str x, g x])) → Q (.ref D) H1) := by
  intro pins s σ H xs us Q I r h
  obtain ⟨p, d, ks, g, rfl, hp, hd, nd, h64, q⟩ := h
  obtain ⟨u, rfl, ru⟩ := vals1 r
  cases ru
  have hview : s.heap.IsItemsView p d := (I.hok p _ hp).1
  obtain ⟨hz, lo, vs', kv, dd⟩ := dk_of I.hok hd
  obtain ⟨ep, hat⟩ := dd.dictAt
  have hlen : ks.length = vs'.length := by have := kv.length; simpa using this
  have hsz : vs'.length ≤ sizeLine := by rw [sizeLine_eq]; omega
  refine Calls.call_function_entry kind_sorted plain_sorted entry_sorted (args_sorted1 _) ?_
  unfold Builtin.«sorted»
  refine wpAny_bind (m := checkCount "sorted" 1 1 _) (wpAny_pure ?_)
  refine wpAny_bind (kdx_collect (A := X.A.in1) (knd := mixKind X.prog X.w) (kvs := vs') (ep := ep) (I.ok.hd hc) hview hat hsz fun h1 tk as hk hl hG => ?_)
  refine wpAny_bind (wpAny_newList ?_ (by rw [List.length_map, hl]; exact hsz))
  have pr : ∀ (i : Nat), i < ks.length → ∃ a t y, as[i]? = some a ∧ RelV (g (ks.getD i "")) y ∧ h1.get? a = some { cls := .type "tuple", data := .seq #[.str (ks.getD i "") t, y] } := fun i hi => by
    have hi2 : i < as.length := by omega
    obtain ⟨key, k, x, e1, e2, e3⟩ := hG.pairs i as[i] (List.getElem?_eq_getElem hi2)
    have ek := congrArg (fun l : List Key => l[i]?) kv.keys
    simp only [List.getElem?_map] at ek
    rw [e1, List.getElem?_eq_getElem hi] at ek
    have ek' : (Sum.inr ks[i] : Key) = k := Option.some.inj ek
    have ev : RelV (g ks[i]) x := by
      have key : ∀ {l1 : List (Key × V)} {l2 : List (Key × Value)} (i : Nat) (p : Key × V) (q : Key × Value), Paired (fun (p : Key × V) (q : Key × Value) => p.1 = q.1 ∧ RelV p.2 q.2) l1 l2 → l1[i]? = some p → l2[i]? = some q → RelV p.2 q.2 := by
        intro l1 l2 i p q hP
        induction hP generalizing i with
        | nil => intro e; simp at e
        | cons r t ih =>
          intro e1 e2
          cases i with
          | zero =>
            simp at e1 e2
            subst e1 e2
            exact r.2
          | succ i => exact ih i (by simpa using e1) (by simpa using e2)
      exact key i (Sum.inr ks[i], g ks[i]) (k, x) kv (by rw [List.getElem?_map, List.getElem?_eq_getElem hi]; rfl) e1
    subst ek'
    rcases keyIs_shape (show keyIs (Sum.inr ks[i]) key = true from e2) with ⟨j, t, e4, _⟩ | ⟨z, t, e4, e5⟩
    · cases e4
    · injection e4 with e4
      subst e4
      refine ⟨as[i], t, x, List.getElem?_eq_getElem hi2, by rw [getD_at hi]; exact ev, ?_⟩
      rw [e3, e5, getD_at hi]
  have hB : (h1.push { cls := .type "list", data := .seq (as.map Value.ref).toArray }).get? h1.objs.size = some (seqObj "list" (as.map Value.ref).toArray 0) := Heap.get?_push_size _ rfl
  refine wpAny_bind (wpAny_holding (wpAny_call_entry slot_list_sort ⟨_, hB, rfl⟩ entry_list_sort ?body (args_list_sort _)))
  refine list_sortT (s := { s with heap := h1.push { cls := .type "list", data := .seq (as.map Value.ref).toArray }, toks := tk }) (xs := ks) hB (by rw [List.length_map]; omega) (by rw [List.length_map]; omega) nd (fun i v x e1 e2 => ?_) fun h3 tk3 c pm hpm hup hkeep hD => ⟨_, rfl, wpAny_pure ⟨_, rfl, ?_⟩⟩
  · have hi : i < ks.length := (List.getElem?_eq_some_iff.mp e2).1
    obtain ⟨a, t, y, f1, _, f3⟩ := pr i hi
    rw [List.getElem?_map, f1] at e1
    cases e1
    have ex : ks.getD i "" = x := by rw [List.getD_eq_getElem?_getD, e2]; rfl
    rw [ex] at f3
    exact ⟨a, t, y, rfl, Heap.get?_push_of_some _ f3⟩
  · have hold : ∀ b u, s.heap.get? b = some u → h3.get? b = some u := fun b u e => hkeep b u (Nat.ne_of_lt (Heap.lt_size (hk b u e))) (Heap.get?_push_of_some _ (hk b u e))
    have hDn : s.heap.get? h1.objs.size = none := by
      cases z : s.heap.get? h1.objs.size with
      | none => rfl
      | some u => exact absurd (Heap.lt_size (hk _ u z)) (Nat.lt_irrefl _)
    have tup3 : ∀ (i : Nat), i < ks.length → ∃ a t y, as[i]? = some a ∧ RelV (g (ks.getD i "")) y ∧ s.heap.get? a = none ∧ a ≠ h1.objs.size ∧ h3.get? a = some { cls := .type "tuple", data := .seq #[.str (ks.getD i "") t, y] } := fun i hi => by
      obtain ⟨a, t, y, f1, f2, f3⟩ := pr i hi
      have ne : a ≠ h1.objs.size := Nat.ne_of_lt (Heap.lt_size f3)
      exact ⟨a, t, y, f1, f2, Heap.get?_none_of_le (Nat.le_of_lt (hG.above a (List.mem_of_getElem? f1))), ne, hkeep a _ ne (Heap.get?_push_of_some _ f3)⟩
    have asnd : as.Nodup := hG.rise.imp fun {a b} z e => by subst e; exact Nat.lt_irrefl _ z
    let N : Addr → Option HO := fun b => if b = h1.objs.size then some (.lst (pm.toList.map fun i => V.ref (as.getD i 0))) else (as.idxOf? b).map fun i => .tup [.str (ks.getD i ""), g (ks.getD i "")]
    have hND : N h1.objs.size = some (.lst (pm.toList.map fun i => V.ref (as.getD i 0))) := if_pos rfl
    have hNt : ∀ (i : Nat), i < ks.length → ∃ a, as[i]? = some a ∧ N a = some (.tup [.str (ks.getD i ""), g (ks.getD i "")]) := fun i hi => by
      obtain ⟨a, t, y, f1, f2, f3, f4, f5⟩ := tup3 i hi
      refine ⟨a, f1, ?_⟩
      show (if a = h1.objs.size then _ else _) = _
      rw [if_neg f4]
      have hi2 : i < as.length := (List.getElem?_eq_some_iff.mp f1).1
      have e : as.idxOf? a = some i := by
        rw [List.idxOf?_eq_some_iff]
        refine ⟨hi2, by rw [List.getElem?_eq_getElem hi2] at f1; simpa using Option.some.inj f1, fun j hj => ?_⟩
        intro z
        have e1 : as[j]'(by omega) = as[i] := by rw [List.getElem?_eq_getElem hi2] at f1; rw [Option.some.inj f1]; simpa using z
        exact absurd ((List.getElem_inj asnd).mp e1) (by omega)
      rw [e]
      rfl
    have hNall : ∀ a o, N a = some o → s.heap.get? a = none ∧ ∀ H2, ObjOk X.prog X.w H2 h3 a o := fun a o e => by
      by_cases ha : a = h1.objs.size
      · subst ha
        rw [hND] at e
        cases e
        refine ⟨hDn, fun H2 => ⟨?_, pm.toList.map (fun i => Value.ref (as.getD i 0)), c, ?_, ?_⟩⟩
        · rw [List.length_map, Array.length_toList, hpm.size, sizeLine_eq]
          omega
        · have gen : ∀ l : List Nat, Vals (l.map fun i => V.ref (as.getD i 0)) (l.map fun i => Value.ref (as.getD i 0)) := by
            intro l
            induction l with
            | nil => exact .nil
            | cons i l ih => exact .cons rfl ih
          exact gen _
        · rw [hD]
          have el : (List.map (fun i => (List.map Value.ref as).getD i Value.none) pm.toList) = pm.toList.map fun i => Value.ref (as.getD i 0) := by
            refine List.map_congr_left fun i hi => ?_
            have hi' : i < as.length := by
              have : i ∈ pm := by simpa using hi
              have := hpm.perm.mem_iff.mp this
              have : i < ks.length := by simpa using this
              omega
            rw [List.getD_eq_getElem?_getD, List.getElem?_map, List.getElem?_eq_getElem hi', List.getD_eq_getElem?_getD, List.getElem?_eq_getElem hi']
            rfl
          rw [el]
      · have e' : (as.idxOf? a).map (fun i => HO.tup [.str (ks.getD i ""), g (ks.getD i "")]) = some o := by
          have : (if a = h1.objs.size then some (HO.lst (pm.toList.map fun i => V.ref (as.getD i 0))) else (as.idxOf? a).map fun i => HO.tup [.str (ks.getD i ""), g (ks.getD i "")]) = some o := e
          rw [if_neg ha] at this
          exact this
        cases hx : as.idxOf? a with
        | none => rw [hx] at e'; cases e'
        | some i =>
          rw [hx] at e'
          cases e'
          obtain ⟨hi, hai, _⟩ := List.idxOf?_eq_some_iff.mp hx
          have hi' : i < ks.length := by omega
          obtain ⟨a', t, y, f1, f2, f3, f4, f5⟩ := tup3 i hi'
          rw [List.getElem?_eq_getElem hi] at f1
          have ea : a = a' := by rw [← Option.some.inj f1]; simpa using hai.symm
          subst ea
          refine ⟨f3, fun H2 => ⟨by show 2 ≤ sizeLine; rw [sizeLine_eq]; decide, [.str (ks.getD i "") t, y], .cons ⟨t, rfl⟩ (.cons f2 .nil), ⟨⟨_, f5, rfl, _, rfl⟩, fun o e => by rw [f5] at e; cases e; rfl⟩⟩⟩
    refine ⟨.ref h1.objs.size, _, I.laidN (N := N) (tk := tk3) hold hNall, rfl, ?_⟩
    have hsame : Same H fun b => (N b).or (H b) := fun b u e => by
      obtain ⟨v, hv⟩ := (I.hok b u e).there'
      have : N b = none := by
        cases z : N b with
        | none => rfl
        | some o => rw [(hNall b o z).1] at hv; cases hv
      show (N b).or (H b) = some u
      rw [this, Option.none_or]
      exact e
    refine q _ _ (pm.toList.map fun i => V.ref (as.getD i 0)) (pm.toList.map fun i => ks.getD i "") hsame (perm_getD ks pm hpm) ?_ (by rw [hND]; rfl) (by rw [List.length_map, List.length_map]) fun i x e => ?_
    · rw [List.map_map, List.pairwise_map, List.pairwise_iff_getElem]
      intro i j hi hj hij
      have hz2 : pm.toList.length = ks.length := by rw [Array.length_toList, hpm.size]
      have hu := hup i j hij (by omega)
      unfold ltX at hu
      rw [decide_eq_true_eq] at hu
      have g1 : pm.getD i 0 = pm.toList[i] := by rw [Array.getD_eq_getD_getElem?, Array.getElem?_eq_getElem (by simpa using hi)]; simp
      have g2 : pm.getD j 0 = pm.toList[j] := by rw [Array.getD_eq_getD_getElem?, Array.getElem?_eq_getElem (by simpa using hj)]; simp
      rw [g1, g2] at hu
      exact hu
    · rw [List.getElem?_map] at e
      cases ep : pm.toList[i]? with
      | none => rw [ep] at e; cases e
      | some k =>
        rw [ep] at e
        have ex : ks.getD k "" = x := Option.some.inj e
        have hkm : k ∈ pm := by simpa using List.mem_of_getElem? ep
        have hkl : k < ks.length := by simpa using hpm.perm.mem_iff.mp hkm
        obtain ⟨a, f1, f2⟩ := hNt k hkl
        refine ⟨a, ?_, ?_⟩
        · rw [List.getElem?_map, ep, Option.map_some, List.getD_eq_getElem?_getD, f1]
          rfl
        · show (N a).or (H a) = _
          rw [f2, Option.some_or, ex]
end L2
namespace L2
open PySem PySem.Spec PyProof.Rows PySem.W
/-- d.items() -/
def tItems (td : TE) : TE := fun σ H Q => td σ H fun x H1 => ∃ d kvs, x = .ref d ∧ H1 d = some (.dK kvs) ∧ ∀ p, H1 p = none → Q (.ref p) (upd H1 p (ivO p d))
theorem pe_items {X : Cx} {o : Expr} {apos cpos : Pos} {td : TE} (ho : PE X o td) (hbase : attributeBase o "items" X.env (eval o X.env) = eval o X.env := by rfl) (hline : (apos.endLine == cpos.line) = true := by rfl) :
    PE X (.Call (.Attribute o "items" apos) [] [] cpos) (tItems td) := by
  intro pins s σ H Q I h
  refine wpAny_Call_method0_late hbase hline (thn (ho pins s σ H _ I h) fun v s1 ⟨x, H1, I1, r1, d, kvs, ex, hd, q1⟩ => ?_)
  subst ex
  obtain rfl : v = Value.ref d := r1
  obtain ⟨t1, t2, _⟩ := isD_at I1 (.inl ⟨kvs, .inl hd⟩)
  exact ⟨"dict", _, PySem.F.plainAttrs_dict, PySem.F.slot_dict_items, PySem.F.type_dict_items, t1, t2, Calls.callWith_builtin rfl (PySem.evalArgs_none (mt_items pins s1 σ H1 (.ref d) [] (.ref d) [] Q I1 rfl .nil ⟨d, kvs, rfl, rfl, hd, q1⟩))⟩
end L2

set_option Elab.async false
set_option linter.all false
set_option maxRecDepth 100000
/-! own work over the hand layer: isinstance of a caught exception -/
namespace L2
open PySem PySem.Spec PyProof.Rows PySem.W
structure XAttr (K : PySem.W.Frag) (C : Addr) : Prop where
  ga : findIn K (.ref C) "__getattribute__" = some (some (.builtin "BaseException.__getattribute__"))
  gx : findIn K (.ref C) "__getattr__" = some none
  gc : findIn K (.ref C) "__class__" = some (some (.builtin "object.__class__"))
  sp : specialIn K (.builtin "object.__class__") "__get__" = some (some (.builtin "getset_descriptor.__get__"))
  tk : takesIn K (.builtin "object.__class__") = some true
  mo : mroIn K C (.type "object") = some true
  mb : mroIn K C (.type "BaseException") = some true
  cl : (clsIn K C).isSome = true
section
variable {prog : Program} {w : World} {A : Around} {E : Value → Shared → Prop} {s : Shared} {K : Frag} {a C : Addr} {o : Obj}
/-- an exception stands at a, of the class at C -/
def ExAt (h : Heap) (a C : Addr) : Prop := ∃ o, h.get? a = some o ∧ o.cls = .ref C
theorem ExAt.type {M : Model} {h : Heap} (x : ExAt h a C) : Looks M h (typeOf (.ref a)) (.ref C) := by
  obtain ⟨o, h1, h2⟩ := x
  exact h2 ▸ (Looks.ld h1).andThen .now
theorem exc_find {M : Model} {h : Heap} (T : XAttr K C) (X : K.In h) : Looks M h (Builtin.ObjectAttr.find (.ref a) (.ref C) "__class__") (.bind (.builtin "getset_descriptor.__get__") (.builtin "object.__class__")) := by
  have l1 := looks_findIn (M := M) X T.gc
  have l2 : Looks M h (Builtin.ObjectAttr.getOf (some (.builtin "object.__class__"))) (some (.builtin "getset_descriptor.__get__")) := looks_specialIn X T.sp
  have l3 := looks_takesIn (M := M) X T.tk
  have l4 : Looks M h (Builtin.ObjectAttr.dataDescriptor? (some (.builtin "object.__class__")) (some (.builtin "getset_descriptor.__get__"))) (some (.builtin "getset_descriptor.__get__", .builtin "object.__class__")) := l3.andThen .now
  exact l1.andThen (l2.andThen (l4.andThen (Looks.tag .now)))
theorem exc_class_get {tp : Value} {R : Result → Shared → Prop} (T : XAttr K C) (X : K.In s.heap) (x : ExAt s.heap a C) (h : R (.ok (.ret (.ref C))) s) :
    codeAny (model prog w) A (.call (.builtin "getset_descriptor.__get__") ⟨[.builtin "object.__class__", .ref a, tp], []⟩) R s := by
  obtain ⟨hh, g, dr, t, os⟩ := s
  have l0 := x.type (M := model prog w)
  have l1 := looks_mroIn (M := model prog w) X T.mo
  refine codeAny_call_builtin
    KF.slot_gs.plain
    KF.entry_gs
    (KF.slot_gs.check _ _ _ _ _ _ _ _
      KF.type_class (KF.args_gs _ _ _) ?_)
  unfold Builtin.«getset_descriptor.__get__»
  unfold PySem.Builtin.Getset_descriptor.descrGet
  rw [dga_obj]
  refine wpAny_bind (wpAny_pure ?_)
  unfold PySem.Builtin.Getset_descriptor.descrGetter
  unfold PySem.Builtin.Getset_descriptor.descrCheckInstance
  unfold PySem.Builtin.Getset_descriptor.descrNameAndClass
  unfold isInstance
  simp only [KF.owner_class]
  repeat lk
  refine ⟨Code.quiet_builtin _ (by decide +kernel), ?_⟩
  refine codeAny_builtin KF.entry_class ?_
  unfold Builtin.«object.__class__»
  unfold shownTypeOf
  repeat lk
  exact h
theorem exc_class {Q : Option Value → Shared → Prop} (T : XAttr K C) (X : K.In s.heap) (I : ExAt s.heap a C) (h : Q (some (.ref C)) { s with toks := s.toks + 1 }) : wpAny (model prog w) A (getAttr? (.ref a) "__class__") Q E s := by
  obtain ⟨hh, g, d, t, os⟩ := s
  have L0 := I.type (M := model prog w)
  have L1 := looks_findIn (M := model prog w) X T.ga
  have L2 := looks_findIn (M := model prog w) X T.gx
  have L3 := exc_find (M := model prog w) (a := a) T X
  have L4 := looks_mroIn (M := model prog w) X T.mb
  have hx : (onTheHeap (Value.ref C) && Value.builtin "BaseException.__getattribute__" == Value.builtin "object.__getattribute__") = false := by
    have : (Value.builtin "BaseException.__getattribute__" == Value.builtin "object.__getattribute__") = false := by decide +kernel
    rw [this]
    rfl
  unfold getAttr? getAttrBy? getAttrBy
  refine wpAny_bind (wpAny_mkText (wpAny_bind (wpAny_attempt (wpAny_holding (wpAny_bind (L0.at (wpAny_bind (L1.at ?_))))))))
  dsimp only
  rw [hx]
  simp only [Bool.false_eq_true, if_false]
  unfold getAttrByItsOwn hookBefore
  rw [show onTheHeap (Value.ref C) = true from rfl, if_pos rfl]
  refine wpAny_bind (L2.at ?_)
  refine wpAny_bind (wpAny_attempt (wpAny_holding ?_))
  unfold callGetattribute boundAndCalled
  simp only [Bool.false_and, Bool.false_eq_true, if_false]
  have FB := PySem.F.attrBase_ValueError
  rw [FB.ga.bind (.ref a)]
  refine wpAny_bind (wpAny_pure ?_)
  have hk : builtinKind "BaseException.__getattribute__" = some .slot := by decide +kernel
  have hsp : splitId "BaseException.__getattribute__" = some ("BaseException", "__getattribute__") := by decide +kernel
  have hargs := F.args_bexc_ga (.ref a) (.str "__class__" t)
  refine wpAny_call (codeAny_call_builtin FB.ga.plain F.entry_bexc_ga ?_)
  show wpAny _ _ (checkBuiltinCall "BaseException.__getattribute__" ⟨[.ref a, .str "__class__" t], []⟩) _ _ _
  simp only [checkBuiltinCall, hk, hsp]
  refine wpAny_bind ?_
  unfold isInstance
  refine wpAny_bind (L0.at (L4.at ?_))
  simp only [Bool.not_true, Bool.false_eq_true, if_false]
  refine wpAny_of_eq (a := ()) hargs ?_
  show wpAny _ _ (Builtin.«object.__getattribute__» ⟨[.ref a, .str "__class__" t], []⟩) _ _ _
  unfold Builtin.«object.__getattribute__»
  refine wpAny_bind (m := slotArgs _ _ _) (wpAny_pure ?_)
  dsimp only
  refine wpAny_bind (wpAny_pure ?_)
  refine wpAny_bind (L0.at (wpAny_bind (L3.at ?_)))
  show wpAny _ _ (holding [Value.builtin "object.__class__"] (call (.builtin "getset_descriptor.__get__") [.builtin "object.__class__", .ref a, .ref C]) >>= ret) _ _ _
  refine wpAny_bind (wpAny_holding (wpAny_call (exc_class_get (s := { heap := hh, gens := g, drawn := d, toks := t + 1, os := os }) T X I ?_)))
  exact wpAny_pure (handed_on rfl (wpAny_pure h))
/-- what the kit asks of an exception -/
theorem kitx_exc (T : XAttr K C) : KitX K (.ref a) (.ref C) (fun h => ExAt h a C) where
  ty := fun _ _ _ I => I.type
  it := fun _ _ X _ => by
    have hc := T.cl
    unfold clsIn at hc
    split at hc
    · rename_i c1 d1 cd1 sl1 ho
      intro A1 Q1 E1 s1 k q
      unfold isType loadHead
      exact wpAny_bind (wpAny_loadPart (k _ _ (X _ _ ho)) (wpAny_pure q))
    · cases hc
  ne := fun h tp dd its n sl X htp => by
    have hc := T.cl
    refine Bool.eq_false_iff.mpr fun q => ?_
    have e : C = tp := Value.ref.inj (beq_iff_eq.mp q)
    subst e
    unfold clsIn at hc
    split at hc
    · rename_i c1 d1 cd1 sl1 ho
      cases (X _ _ ho).symm.trans htp
    · cases hc
  ca := fun X I k => exc_class T X I k
end

/-! ### isinstance(e, C), isinstance(e, (C, ..)) within an except suite -/
theorem pin_inst {X : Cx} {pn : List (Addr × Obj)} {pins : List (Addr × Obj)} {σ : St} {H : Hp} {s : Shared} {ea C : Addr} {oe : Obj} (I : Inv (X.caught ea pn) pins σ H s) (hm : (ea, oe) ∈ pn) (hc : oe.cls = .ref C) : ExAt s.heap ea C :=
  ⟨oe, (I.pin (ea, oe) (List.mem_append_left _ hm)).1, hc⟩
theorem call_isiE {X : Cx} {pn : List (Addr × Obj)} {ea : Addr} {oe : Obj} (hm : (ea, oe) ∈ pn) : CallR (X.caught ea pn) (.builtin "isinstance") (fun xs H Q => ∃ (c : V) (C : Addr) (cv : Value) (b : Bool), xs = [.ref ea, c] ∧ oe.cls = .ref C ∧ XAttr X.K C ∧ clsV c = some cv ∧ kitOne X.K (.ref C) cv = some b ∧ Q (.bl b) H) := by
  intro pins s σ H xs us Q I r h
  obtain ⟨c, C, cv, b, rfl, hc, T, rc, e, q⟩ := h
  obtain ⟨u, w', rfl, ru, rw'⟩ := vals2 r
  cases ru
  have ec : w' = cv := by
    cases c with
    | ty n => exact (show w' = Value.type n from rw').trans (Option.some.inj rc)
    | ref n => exact (show w' = Value.ref n from rw').trans (Option.some.inj rc)
    | _ => cases rc
  subst ec
  exact kia_one (kitx_exc T) I.kIn (pin_inst I hm hc) e (fun z => nomatch z) fun tk => ⟨.bl b, H, I.tok _, rfl, q⟩
theorem call_isiT {X : Cx} {pn : List (Addr × Obj)} {ea : Addr} {oe : Obj} (hm : (ea, oe) ∈ pn) : CallR (X.caught ea pn) (.builtin "isinstance") (fun xs H Q => ∃ (t C : Addr) (cs : List Addr) (b : Bool), xs = [.ref ea, .ref t] ∧ oe.cls = .ref C ∧ XAttr X.K C ∧ H t = some (.tup (cs.map V.ref)) ∧
    kitAny X.K (.ref C) (cs.map Value.ref) = some b ∧ Q (.bl b) H) := by
  intro pins s σ H xs us Q I r h
  obtain ⟨t, C, cs, b, rfl, hc, T, ht, e, q⟩ := h
  obtain ⟨u, w', rfl, ru, rw'⟩ := vals2 r
  cases ru
  cases rw'
  obtain ⟨_, its, rv, ⟨o, h1, h2, n, h3⟩, _⟩ := I.hok t _ ht
  have ei : its = cs.map Value.ref := by
    clear h3
    have gen : ∀ (cs : List Addr) (its : List Value), Vals (cs.map V.ref) its → its = cs.map Value.ref := by
      intro cs
      induction cs with
      | nil => intro its r; cases r; rfl
      | cons c cs ih =>
        intro its r
        cases r with
        | cons r1 r2 =>
          rw [ih _ r2, show _ = Value.ref c from r1]
          rfl
    exact gen cs its rv
  subst ei
  obtain ⟨oc, od, odat, osl⟩ := o
  have h2' : oc = .type "tuple" := h2
  have h3' : odat = .seq (cs.map Value.ref).toArray n := h3
  subst h2' h3'
  exact kia_tup (kitx_exc T) I.kIn (pin_inst I hm hc) h1 e (fun z => nomatch z) fun tk => ⟨.bl b, H, I.tok _, rfl, q⟩
end L2

set_option Elab.async false
set_option linter.all false
set_option maxRecDepth 100000
namespace L2
open PySem PySem.Spec PyProof.Rows
/-- f(..) of a def that may raise, where it doesn't -/
theorem passN {X : Cx} : Passes (CXx X.prog X.w) X E0 := fun _ _ _ _ _ _ _ h => by
  obtain ⟨_, _, _, _, _, _, _, _, _, _, _, _, _, _, z⟩ := h
  exact z.elim
theorem pe_fnN {X : Cx} {k : Nat} {name : Str} {ps : List Str} {sp : Sp} {p pos : Pos} {e : Expr} {es : List Expr} {t : TA} (G : FOkX X.prog X.w X.K X.mg X.base k name ps sp) (hr : Room k X.A) (ha : PA X (e :: es) t) (hg : Gl X name := by rfl)
    (hdb : (name == ("__debug__" : Str)) = false := by decide) (he : starEach (e :: es) X.env = (false, eval e X.env) :: starEach es X.env := by rfl) (hpl : (backTo pos (starEach es X.env)).any (·.1) = false := by rfl) :
    PE X (.Call (.Name name p) (e :: es) [] pos) (tCall sp [] E0 t) := by
  obtain ⟨f, fd, F, b, m, kp⟩ := G.ex
  exact pe_call F hr hg m kp b .nil passN ha hdb he hpl
theorem b_VE : bootBuiltins "ValueError" = some (.type "ValueError") := by decide +kernel
theorem kit_self {K : PySem.W.Frag} {v : Value} : PySem.W.kitOne K v v = some true := by
  unfold PySem.W.kitOne
  rw [if_pos (beq_self_eq_true v)]
theorem pe_bmK {X : Cx} {o e : Expr} {es : List Expr} {to : TE} {t : TA} {name : Str} {apos cpos : Pos} {T id : String} {r : V → List V → Hp → VK → Prop} (K : PySem.W.Frag) (pa : PlainAttrs T) (slot : Slot T name id) (hty : typeOf (.builtin id) = pure (.type "method_descriptor")) (hm : MtR X id r) (ho : PE X o to) (ha : PA X (e :: es) t)
    (hK : X.K = K := by rfl) (hbase : attributeBase o name X.env (eval o X.env) = eval o X.env := by rfl)
    (hfew : ((backTo cpos (starEach (e :: es) X.env)).all (fun x => !x.1) && (backToKw cpos (keywordEach [] X.env)).all (fun x => x.1.isSome)
      && decide ((e :: es).length + ([] : List Keyword).length + (if ([] : List Keyword).isEmpty then 0 else 1) < 30)) = true := by rfl)
    (hline : (apos.endLine == cpos.line) = true := by rfl) (hs : starEach (e :: es) X.env = (false, eval e X.env) :: starEach es X.env := by rfl) (hplain : (backTo cpos (starEach es X.env)).any (·.1) = false := by rfl) :
    PE X (.Call (.Attribute o name apos) (e :: es) [] cpos) (tBM K T r to t) := by
  subst hK
  exact pe_bm pa slot hty hm ho ha hbase hfew hline hs hplain
theorem mt_appendR {X : Cx} : MtR X "list.append" rAppend := mt_append
theorem rep_bools {H : Hp} : ∀ bs : List Bool, RepA H (bs.map PyData.bool) (bs.map V.bl)
  | [] => by rw [List.map_nil, RepA]; rfl
  | b :: bs => by
    rw [List.map_cons, RepA]
    exact ⟨.bl b, bs.map V.bl, rfl, by rw [RepD], rep_bools bs⟩
theorem rep_blist {H : Hp} {a : Addr} {bs : List Bool} (h : H a = some (.lst (bs.map V.bl))) : RepD H (.list (bs.map PyData.bool)) (.ref a) := by
  rw [RepD]
  exact ⟨a, _, rfl, h, rep_bools bs⟩
theorem hasDef_mk {K : PySem.W.Frag} {h : Heap} {mg : Str → Option Value} {name : Str} {st : Stmt} {ps : List Str} {f : Addr} {oc : Value} {od an : Option Addr} {sl : Array (Option Value)} {kV dc pm cd ct : Value} (X : K.In h) (G : h.Ns mainGlobals mg)
    (a : PySem.W.nsIn K mainGlobals name = some (some (.ref f))) (l : K.lookup f = some ⟨oc, od, .func (PySem.W.fnOf name name (defArgs st) (defBody st) (defScope st) .none kV dc pm an cd ct), sl⟩) (c : PySem.W.codeIn K cd name = true) (k : PySem.W.keepIn K (.ref f) = true)
    (hb : ∀ (kV doc pm : Value) (an : Option Addr) (cdv ct : Value) (us : List Value), us.length = ps.length → bindArgs (PySem.W.fnOf name name (defArgs st) (defBody st) (defScope st) .none kV doc pm an cdv ct) ⟨us, []⟩ = pure (ps.zip us)) : HasDef K mg name st ps :=
  ⟨_, _, fun_mk (st := st) l c k, (fun_mk (st := st) l c k).binds hb, PySem.W.mg_of X G a⟩
abbrev upVE : List Value := [.type "ValueError", .type "Exception", .type "BaseException", .type "object"]
theorem xattr_mk {K : PySem.W.Frag} {C : Addr} (ga : PySem.W.findIn K (.ref C) "__getattribute__" = some (some (.builtin "BaseException.__getattribute__"))) (gx : PySem.W.findIn K (.ref C) "__getattr__" = some none) (gc : PySem.W.findIn K (.ref C) "__class__" = some (some (.builtin "object.__class__"))) (sp : PySem.W.specialIn K (.builtin "object.__class__") "__get__" = some (some (.builtin "getset_descriptor.__get__"))) (tk : PySem.W.takesIn K (.builtin "object.__class__") = some true) (mo : PySem.W.mroIn K C (.type "object") = some true) (mb : PySem.W.mroIn K C (.type "BaseException") = some true) {cv : PySem.ClassData} (cl : PySem.W.clsIn K C = some cv) : XAttr K C := ⟨ga, gx, gc, sp, tk, mo, mb, by rw [cl]; rfl⟩
theorem up_of {K : PySem.W.Frag} {C S : Addr} {bmB : List Value} {nw : String} (e : PySem.W.mroIn K C (.ref S) = some true) (q : PySem.W.excIn K C bmB nw = true) (hne : (S == C) = false) : (mroX K C).contains (.ref S) = true := by
  unfold PySem.W.mroIn PySem.W.clsIn at e
  unfold PySem.W.excIn at q
  unfold mroX
  cases hl : K.lookup C with
  | none => rw [hl] at q; cases q
  | some o =>
    rw [hl] at q e
    split at q
    · rename_i dd cd sl e0
      injection e0 with e1
      subst e1
      split at q
      · rename_i C1 bm k0 k1 k2 k3 n k5 e2 e3
        rw [Bool.and_eq_true, Bool.and_eq_true, Bool.and_eq_true, Bool.and_eq_true, Bool.and_eq_true] at q
        have r1 := beq_iff_eq.mp q.1.1.1.1.1
        subst r1
        dsimp only [Option.bind] at e ⊢
        rw [e2] at e ⊢
        injection e with e4
        rw [List.contains_cons] at e4
        rcases (Bool.or_eq_true ..).mp e4 with z | z
        · have z1 := eq_of_beq z
          injection z1 with z2
          rw [z2, beq_self_eq_true] at hne
          cases hne
        · exact z
      · cases q
    · cases q
end L2

set_option Elab.async false
set_option linter.all false
set_option maxRecDepth 100000
namespace L2
open PySem PySem.Spec PyProof.Rows
theorem viaB {B G : Prop} (h : B → G) (hb : B) : G := h hb
theorem iteP {c : Bool} {A B : Prop} (h : c = true) (a : A) : if c = true then A else B := by rw [if_pos h]; exact a
theorem iteM {c : Bool} {A B : Prop} (h : c = false) (b : B) : if c = true then A else B := by rw [h]; exact iteF b
theorem int_ne {a b : Int} (h : ¬ a = b) : decide (V.int a = V.int b) = false := decide_eq_false fun q => h (by injection q)
theorem int_is {a b : Int} (h : a = b) : decide (V.int a = V.int b) = true := decide_eq_true (congrArg V.int h)
theorem same_new_upd {H H1 : Hp} {p : Addr} {o : HO} (s : Same H H1) (hp : H p = none) : Same H (upd H1 p o) := fun b o' e => by
  rw [upd_ne (ne_of_none e hp)]
  exact s b o' e
theorem getV {xs : List V} {i : Nat} (h : i < xs.length) : xs.getD i .non = xs[i] := by
  rw [List.getD_eq_getElem?_getD, List.getElem?_eq_getElem h]
  rfl
end L2

set_option Elab.async false
set_option linter.all false
set_option maxRecDepth 100000
namespace L2
open PySem PySem.Spec PyProof.Rows PySem.Builtin.Str
end L2

set_option Elab.async false
set_option linter.all false
set_option maxRecDepth 100000
namespace L2
open PySem PySem.Spec PyProof.Rows
/-! ### an iterator of one kind or another -/
def iOr (w1 w2 : TI) : TI := fun σ H R => w1 σ H R ∨ w2 σ H R
theorem pi_or {X : Cx} {tg l : Expr} {w1 w2 : TI} (h1 : PI X tg l w1) (h2 : PI X tg l w2) : PI X tg l (iOr w1 w2) := by
  intro pins s σ H R I h
  rcases h with h | h
  · exact h1 pins s σ H R I h
  · exact h2 pins s σ H R I h
/-! ### isinstance(x, (A, B)) of Python's own classes -/
theorem kitAny_B {K : PySem.W.Frag} {n : String} (hn : n ∈ tyNames) : ∀ cs : List String, (∀ c ∈ cs, c ∈ clNames) → PySem.W.kitAny K (.type n) (cs.map Value.type) = some (cs.any (isiB n))
  | [], _ => rfl
  | c :: cs, h => by
    have e : PySem.W.kitOne K (.type n) (.type c) = some (isiB n c) := kitB_ok n hn c (h c List.mem_cons_self)
    have ih := kitAny_B (K := K) hn cs fun d m => h d (List.mem_cons_of_mem _ m)
    rw [List.map_cons, PySem.W.kitAny, e, List.any_cons]
    cases isiB n c with
    | true => rfl
    | false => exact ih
theorem vals_ty : ∀ (cs : List String) (its : List Value), Vals (cs.map V.ty) its → its = cs.map Value.type
  | [], its, r => by cases r; rfl
  | c :: cs, its, r => by
    cases r with
    | cons r1 r2 =>
      rw [vals_ty cs _ r2, show _ = Value.type c from r1]
      rfl
theorem call_isi2 {X : Cx} : CallR X (.builtin "isinstance") (fun xs H Q => ∃ (x : V) (t : Addr) (cs : List String) (n : String), xs = [x, .ref t] ∧ H t = some (.tup (cs.map V.ty)) ∧ (∀ c ∈ cs, c ∈ clNames) ∧ TyB H x n ∧ Q (.bl (cs.any (isiB n))) H) := by
  intro pins s σ H xs us Q I r h
  obtain ⟨x, t, cs, n, rfl, ht, hc, ty, q⟩ := h
  obtain ⟨u, w', rfl, ru, rw'⟩ := vals2 r
  cases rw'
  obtain ⟨_, its, rv, ⟨o, h1, h2, m, h3⟩, _⟩ := I.hok t _ ht
  have ei := vals_ty cs its rv
  subst ei
  obtain ⟨oc, od, odat, osl⟩ := o
  have h2' : oc = .type "tuple" := h2
  have h3' : odat = .seq (cs.map Value.type).toArray m := h3
  subst h2' h3'
  have e := kitAny_B (K := X.K) ty.mem cs hc
  have fin : ∀ tk, EP X pins σ Q (.bool (cs.any (isiB n))) { s with toks := tk } := fun tk => ⟨.bl _, H, I.tok _, rfl, q⟩
  cases ty with
  | non => cases (show u = Value.none from ru); exact PySem.W.kia_tup PySem.W.kitx_none I.kIn True.intro h1 e (fun z => nomatch z) fin
  | bl y => cases (show u = Value.bool y from ru); exact PySem.W.kia_tup PySem.W.kitx_bool I.kIn True.intro h1 e (fun z => nomatch z) fin
  | int i => obtain ⟨t, q⟩ := (show ∃ t, u = Value.int i t from ru); cases q; exact PySem.W.kia_tup PySem.W.kitx_int I.kIn True.intro h1 e (fun z => nomatch z) fin
  | str y => obtain ⟨t, q⟩ := (show ∃ t, u = Value.str y t from ru); cases q; exact PySem.W.kia_tup PySem.W.kitx_str I.kIn True.intro h1 e (fun z => nomatch z) fin
  | @lst a xs ea =>
    cases (show u = Value.ref a from ru)
    obtain ⟨_, _, _, _, g1⟩ := I.hok a _ ea
    exact PySem.W.kia_tup PySem.W.kitx_list I.kIn ⟨_, g1, rfl⟩ h1 e (fun z => nomatch z) fin
  | @tup a xs ea =>
    cases (show u = Value.ref a from ru)
    obtain ⟨_, _, _, ⟨o, g1, g2, _⟩, _⟩ := I.hok a _ ea
    exact PySem.W.kia_tup PySem.W.kitx_tuple I.kIn ⟨o, g1, g2⟩ h1 e (fun z => nomatch z) fin
  | @dK a kvs ea =>
    cases (show u = Value.ref a from ru)
    obtain ⟨_, _, vs, _, o, es, ep, g1, g2, _⟩ := I.hok a _ ea
    exact PySem.W.kia_tup PySem.W.kitx_dict I.kIn ⟨o, g1, g2.1⟩ h1 e (fun z => nomatch z) fin
/-! ### x * n of a text, n from 0 on -/
theorem mulOk_nat {x : Str} {n : Int} (h1 : 0 ≤ n) (h2 : n ≤ 1000) (h3 : x.length ≤ 1000) : MulOk x n := by
  by_cases c : 1 ≤ n
  · exact L2.mulOk_of c h2 h3
  · have : n = 0 := by omega
    subst this
    exact ⟨rfl, fun z => absurd (by decide) z, fun z => absurd (by decide) z⟩
end L2

set_option Elab.async false
set_option linter.all false
set_option maxRecDepth 100000
namespace L2
open PySem PySem.Spec PyProof.Rows
theorem no_keys_list : typeLookup (.type "list") "keys" = pure none := am_miss_of_fast (by kernel_rfl)
theorem no_keys_tuple : typeLookup (.type "tuple") "keys" = pure none := am_miss_of_fast (by kernel_rfl)
section
variable {prog : Program} {w : World} {A : Around} {E : Value → Shared → Prop} {s : Shared} {a : Addr} {o : Obj} {xs : Array Value} {k : Nat}
theorem keys_miss {Q : Option Value → Shared → Prop} (hx : s.heap.get? a = some o) (hc : o.cls = .type "list") (hdat : o.data = .seq xs k) (hd : o.dict = none) (hA : A.handled = none)
    (h : ∀ h' tk, (∀ b ob, s.heap.get? b = some ob → h'.get? b = some ob) → Q none { s with heap := h', toks := tk }) :
    wpAny (model prog w) A (getAttr? (.ref a) "keys") Q E s := by
  obtain ⟨c, dct, dat, sl⟩ := o
  simp only at hc hdat hd
  subst hc hdat hd
  obtain ⟨hp, g, d, tk, os⟩ := s
  have hT : ∀ tk', (⟨hp, g, d, tk', os⟩ : Shared).TypeIs (.ref a) "list" := fun _ => ⟨_, hx, rfl⟩
  have f1 := sub_AttributeError
  have f3 := F.slot_list_getattribute.lookup
  have f4 := F.slot_list_getattribute.bind (.ref a)
  have f5 := am_list_getattr_none
  have hname : (["__module__", "__name__", "__qualname__", "__doc__", "__annotations__"] : List Str).contains "keys" = false := by decide
  unfold getAttr? getAttrBy? getAttrBy
  repeat (any_goals (first | assumption | exact hT _ | ((with_reducible show wpAny _ _ (call (Value.builtin "list.__getattribute__") _ _) _ _ _); refine call_meets F.slot_list_getattribute (hT _) am_entry_list_getattribute (F.args_list_getattribute_2 _ _) (meets_getattribute_miss_list a xs k sl "keys" _ no_keys_list hname) ⟨hx, hA, fun h' tk' e hx' => ?_⟩) | wp_step))
  obtain ⟨t', u', he⟩ := hx'.there
  show wpAny _ _ (getattributeRaised _ _ _ _ _ _ _) _ _ _
  unfold getattributeRaised
  repeat (any_goals (first | assumption | wp_step))
  exact h _ _ hx'.of.keeps
theorem keys_missT {Q : Option Value → Shared → Prop} (hx : s.heap.get? a = some o) (hc : o.cls = .type "tuple") (hdat : o.data = .seq xs k) (hd : o.dict = none) (hA : A.handled = none)
    (h : ∀ h' tk, (∀ b ob, s.heap.get? b = some ob → h'.get? b = some ob) → Q none { s with heap := h', toks := tk }) :
    wpAny (model prog w) A (getAttr? (.ref a) "keys") Q E s := by
  obtain ⟨c, dct, dat, sl⟩ := o
  simp only at hc hdat hd
  subst hc hdat hd
  obtain ⟨hp, g, d, tk, os⟩ := s
  have hT : ∀ tk', (⟨hp, g, d, tk', os⟩ : Shared).TypeIs (.ref a) "tuple" := fun _ => ⟨_, hx, rfl⟩
  have f1 := sub_AttributeError
  have f3 := F.slot_tuple_getattribute.lookup
  have f4 := F.slot_tuple_getattribute.bind (.ref a)
  have f5 := am_tuple_getattr_none
  have hname : (["__module__", "__name__", "__qualname__", "__doc__", "__annotations__"] : List Str).contains "keys" = false := by decide
  unfold getAttr? getAttrBy? getAttrBy
  repeat (any_goals (first | assumption | exact hT _ | ((with_reducible show wpAny _ _ (call (Value.builtin "tuple.__getattribute__") _ _) _ _ _); refine call_meets F.slot_tuple_getattribute (hT _) am_entry_tuple_getattribute (F.args_tuple_getattribute_2 _ _) (meets_getattribute_miss_tuple a xs k sl "keys" _ no_keys_tuple hname) ⟨hx, hA, fun h' tk' e hx' => ?_⟩) | wp_step))
  obtain ⟨t', u', he⟩ := hx'.there
  show wpAny _ _ (getattributeRaised _ _ _ _ _ _ _) _ _ _
  unfold getattributeRaised
  repeat (any_goals (first | assumption | wp_step))
  exact h _ _ hx'.of.keeps
end
end L2

set_option Elab.async false
set_option linter.all false
set_option maxRecDepth 100000
namespace L2
open PySem PySem.Spec PyProof.Rows
theorem plain_upd_loop : plainId "dict.update.loop" = true := by decide +kernel
theorem entry_upd_loop : entryFor table "dict.update.loop" = some Builtin.«dict.update.loop» := entryFor_of_fast (by kernel_rfl)
theorem isTup_keep {h h' : Heap} {a : Addr} {its : Array Value} (x : IsTup h a its) (e : ∀ o, h.get? a = some o → h'.get? a = some o) : IsTup h' a its := by
  obtain ⟨o, ho, r⟩ := x
  exact ⟨o, e o ho, r⟩
theorem isList_keep {h h' : Heap} {a : Addr} {its : Array Value} (x : h.IsList a its) (e : ∀ o, h.get? a = some o → h'.get? a = some o) : h'.IsList a its := by
  obtain ⟨o, ho, r⟩ := x
  exact ⟨o, e o ho, r⟩
section
variable {prog : Program} {w : World} {Ky : Type} [DecidableEq Ky] {knd : KeyKind prog w Ky} {A : Around} {R : Except Value Flow → Shared → Prop}
theorem upd_loop {l I d : Addr} {xs : Array Value} {n : Nat} (tb : Nat → Addr) (ks : Nat → Ky) (kv vv : Nat → Value) (hh : A.handled = none) (hxs : xs.size = n) (hx : ∀ j, j < n → xs[j]? = some (.ref (tb j))) (hk : ∀ j, j < n → knd.is (ks j) (kv j) = true)
    (hnd : ((List.range n).map ks).Nodup) (hn : n ≤ sizeLine) (ld : l ≠ d) (lI : l ≠ I) (dI : d ≠ I) (td : ∀ j, j < n → tb j ≠ d) (tI : ∀ j, j < n → tb j ≠ I) :
    ∀ (m i : Nat) (s : Shared), n - i = m → i ≤ n → s.heap.IsListIter I l i → s.heap.IsList l xs → (∀ j, j < n → IsTup s.heap (tb j) #[kv j, vv j]) → s.heap.DictOf knd d ((List.range i).map fun j => (ks j, vv j)) →
    (∀ h' t', (∀ b o, b ≠ d → b ≠ I → s.heap.get? b = some o → h'.get? b = some o) → h'.DictOf knd d ((List.range n).map fun j => (ks j, vv j)) → R (.ok (.ret .none)) { s with heap := h', toks := t' }) →
    codeAny (model prog w) A (.builtin "dict.update.loop" ⟨[.ref d, .ref I, .int i 0, .none], []⟩) R s := by
  intro m
  induction m with
  | zero =>
    intro i s hm hi hit hl ht hd hR
    have : i = n := by omega
    subst this
    refine codeAny_builtin entry_upd_loop ?_
    rw [Around.under_plainId plain_upd_loop _]
    show wpAny _ A.in1 (pyNext (.ref I) >>= _) _ _ s
    refine wpAny_bind (wpAny_pyNext_list_end hh hit hl (by simp [hxs]) fun h2 he2 => ?_)
    refine wpAny_bind (wpAny_pure (wpAny_pure ?_))
    exact hR h2 s.toks (fun b o hb1 hb2 e => he2 b o hb2 e) (hd.extBut he2 dI)
  | succ m ih =>
    intro i s hm hi hit hl ht hd hR
    have hlt : i < n := by omega
    refine codeAny_builtin entry_upd_loop ?_
    rw [Around.under_plainId plain_upd_loop _]
    show wpAny _ A.in1 (pyNext (.ref I) >>= _) _ _ s
    refine wpAny_bind (wpAny_pyNext_list_item hit hl (hx i hlt) fun h1 hit1 hs1 => ?_)
    have e1 := hs1.extBut
    have ht1 : ∀ j, j < n → IsTup h1 (tb j) #[kv j, vv j] := fun j hj => isTup_keep (ht j hj) fun o e => e1 _ o (tI j hj) e
    obtain ⟨ot, hot, hct, nt, hdt⟩ := ht1 i hlt
    refine wpAny_bind (wpAny_holding (wpAny_bind (wpAny_tryCatch ?_)))
    unfold Builtin.Dict.pairItems
    refine wpAny_bind (wpAny_typeOf (T := "tuple") ⟨ot, hot, hct⟩ ?_)
    rw [if_pos (by decide)]
    refine wpAny_bind (wpAny_seqItems hot hdt (wpAny_pure ?_))
    have hd1 : h1.DictOf knd d ((List.range i).map fun j => (ks j, vv j)) := hd.extBut e1 dI
    show wpAny _ _ (holding [kv i, vv i] (dictSet d (kv i) (vv i))) _ _ _
    refine wpAny_holding (wpAny_dictSet_pairs (s := { s with heap := h1 }) (hk i hlt) hd1 (fun h2 hd2 hs2 => ?_) (by rw [List.length_map, List.length_range]; omega))
    have hfresh : stored ((List.range i).map fun j => (ks j, vv j)) (ks i) (vv i) = (List.range (i + 1)).map fun j => (ks j, vv j) := by
      unfold stored
      rw [if_neg ?_, List.range_succ, List.map_append]
      · rfl
      · intro q
        obtain ⟨p, hp, e⟩ := List.any_eq_true.mp q
        obtain ⟨j, hj, rfl⟩ := List.mem_map.mp hp
        have hj' := List.mem_range.mp hj
        have e' : ks j = ks i := by simpa using e
        have h1 : ((List.range n).map ks)[j]? = some (ks j) := by rw [List.getElem?_map, List.getElem?_range (by omega)]; rfl
        have h2 : ((List.range n).map ks)[i]? = some (ks i) := by rw [List.getElem?_map, List.getElem?_range hlt]; rfl
        have := (List.getElem?_inj (by rw [List.length_map, List.length_range]; omega) hnd).mp (h1.trans ((congrArg some e').trans h2.symm))
        omega
    rw [hfresh] at hd2
    have e2 := hs2.extBut
    have kp : ∀ b o, b ≠ d → b ≠ I → s.heap.get? b = some o → h2.get? b = some o := fun b o q1 q2 e => e2 b o q1 (e1 b o q2 e)
    refine wpAny_pure ⟨plainId_quiet plain_upd_loop _, ?_⟩
    have := ih (i + 1) { s with heap := h2, toks := s.toks + 1 } (by omega) hlt (hit1.extBut e2 (Ne.symm dI)) (isList_keep hl fun o e => kp l o ld lI e) (fun j hj => isTup_keep (ht j hj) fun o e => kp _ o (td j hj) (tI j hj) e) hd2
      fun h' t' k1 k2 => hR h' t' (fun b o q1 q2 e => k1 b o q1 q2 (kp b o q1 q2 e)) k2
    exact this
theorem call_dict_pairs {l : Addr} {o : Obj} {xs : Array Value} {c n : Nat} {E : Value → Shared → Prop} {s : Shared} {Q : Value → Shared → Prop} (tb : Nat → Addr) (ks : Nat → Ky) (kv vv : Nat → Value) (hh : A.handled = none)
    (ho : s.heap.get? l = some o) (hc : o.cls = .type "list") (hdt : o.data = .seq xs c) (hdi : o.dict = none) (hxs : xs.size = n) (hx : ∀ j, j < n → xs[j]? = some (.ref (tb j))) (hk : ∀ j, j < n → knd.is (ks j) (kv j) = true)
    (ht : ∀ j, j < n → IsTup s.heap (tb j) #[kv j, vv j]) (hnd : ((List.range n).map ks).Nodup) (hn : n ≤ sizeLine)
    (h : ∀ h' t', (∀ b o, s.heap.get? b = some o → h'.get? b = some o) → h'.DictOf knd s.heap.objs.size ((List.range n).map fun j => (ks j, vv j)) → Q (.ref s.heap.objs.size) { s with heap := h', toks := t' }) :
    wpAny (model prog w) A (call (.type "dict") [.ref l]) Q E s := by
  refine callType_codes (Q₁ := fun obj s₁ => obj = .ref s.heap.objs.size ∧ s₁ = { s with heap := s.heap.push { cls := .type "dict", data := .dict #[] } }) F.kt_called_dict (F.kt_typeCall_dict_1 _) F.entry_dict_init (kt_code_dict_new _ ⟨rfl, rfl⟩) ?_
  rintro obj s₁ ⟨rfl, rfl⟩
  have hnew : (s.heap.push { cls := .type "dict", data := .dict #[] }).DictOf knd s.heap.objs.size [] := Heap.DictOf.new s.heap
  have ll := Heap.lt_size ho
  have lt : ∀ j, j < n → tb j < s.heap.objs.size := fun j hj => by
    obtain ⟨q, hq, _⟩ := ht j hj
    exact Heap.lt_size hq
  refine ⟨hnew.typeIs, F.args_dict_init_2 _ _, ?_⟩
  unfold Builtin.«dict.__init__»
  refine wpAny_bind ?_
  unfold Builtin.Dict.selfAndRest
  refine wpAny_bind (wpAny_notOrdered_dict hnew.typeIs ?_)
  show wpAny _ _ (pure (s.heap.objs.size, [Value.ref l])) _ _ _
  refine wpAny_pure ?_
  show wpAny _ _ (Builtin.Dict.updateFrom "dict.__init__" s.heap.objs.size (.ref l) [] .none) _ _ _
  unfold Builtin.Dict.updateFrom
  have ho1 : (s.heap.push { cls := .type "dict", data := .dict #[] }).get? l = some o := Heap.get?_push_of_some _ ho
  refine wpAny_bind (wpAny_typeOf (T := "list") ⟨o, ho1, hc⟩ ?_)
  rw [if_pos (by decide)]
  refine wpAny_bind (keys_miss (A := A.in1.in1) ho1 hc hdt hdi hh fun h1 tk k1 => ?_)
  rw [if_pos (show (none : Option Value).isNone = true from rfl)]
  refine wpAny_bind (wpAny_rule ?_)
  have hl1 : h1.IsList l xs := ⟨o, k1 _ _ ho1, hc, c, hdt⟩
  refine wpAny_bind (wpAny_pyIter_list (s := { s with heap := h1, toks := tk }) hl1 ?_)
  have hI : s.heap.objs.size < h1.objs.size := Heap.lt_size (k1 _ _ (Heap.get?_push_size s.heap (o := { cls := .type "dict", data := .dict #[] }) rfl))
  have kp : ∀ b o, s.heap.get? b = some o → (h1.push { cls := .type "list_iterator", data := .fields #[.ref l, .int 0 0] }).get? b = some o := fun b o e => Heap.get?_push_of_some _ (k1 _ _ (Heap.get?_push_of_some _ e))
  refine wpAny_pure ⟨plainId_quiet plain_upd_loop _, ?_⟩
  have hnew1 : h1.DictOf knd s.heap.objs.size [] := by
    obtain ⟨q, es, ep, hq, r⟩ := hnew
    exact ⟨q, es, ep, k1 _ _ hq, r⟩
  refine upd_loop (A := A.in1) (l := l) (I := h1.objs.size) (d := s.heap.objs.size) (xs := xs) (n := n) tb ks kv vv hh hxs hx hk hnd hn (Nat.ne_of_lt ll) (Nat.ne_of_lt (Nat.lt_trans ll hI)) (Nat.ne_of_lt hI) (fun j hj => Nat.ne_of_lt (lt j hj)) (fun j hj => Nat.ne_of_lt (Nat.lt_trans (lt j hj) hI)) n 0 _ (by omega) (by omega)
    ⟨_, Heap.get?_push_size _ rfl, rfl, rfl⟩ (hl1.push _) (fun j hj => isTup_keep (ht j hj) fun o e => kp _ o e) (hnew1.push _) fun h2 t2 k2 hd2 => ?_
  refine ⟨rfl, h h2 t2 (fun b o e => k2 b o ?_ ?_ (kp b o e)) hd2⟩
  · exact Nat.ne_of_lt (Heap.lt_size e)
  · exact Nat.ne_of_lt (Nat.lt_trans (Heap.lt_size e) hI)
theorem upd_loopT {l I d : Addr} {xs : Array Value} {n : Nat} (tb : Nat → Addr) (ks : Nat → Ky) (kv vv : Nat → Value) (hh : A.handled = none) (hxs : xs.size = n) (hx : ∀ j, j < n → xs[j]? = some (.ref (tb j))) (hk : ∀ j, j < n → knd.is (ks j) (kv j) = true)
    (hnd : ((List.range n).map ks).Nodup) (hn : n ≤ sizeLine) (ld : l ≠ d) (lI : l ≠ I) (dI : d ≠ I) (td : ∀ j, j < n → tb j ≠ d) (tI : ∀ j, j < n → tb j ≠ I) :
    ∀ (m i : Nat) (s : Shared), n - i = m → i ≤ n → IsTupIter s.heap I l i → IsTup s.heap l xs → (∀ j, j < n → IsTup s.heap (tb j) #[kv j, vv j]) → s.heap.DictOf knd d ((List.range i).map fun j => (ks j, vv j)) →
    (∀ h' t', (∀ b o, b ≠ d → b ≠ I → s.heap.get? b = some o → h'.get? b = some o) → h'.DictOf knd d ((List.range n).map fun j => (ks j, vv j)) → R (.ok (.ret .none)) { s with heap := h', toks := t' }) →
    codeAny (model prog w) A (.builtin "dict.update.loop" ⟨[.ref d, .ref I, .int i 0, .none], []⟩) R s := by
  intro m
  induction m with
  | zero =>
    intro i s hm hi hit hl ht hd hR
    have : i = n := by omega
    subst this
    refine codeAny_builtin entry_upd_loop ?_
    rw [Around.under_plainId plain_upd_loop _]
    show wpAny _ A.in1 (pyNext (.ref I) >>= _) _ _ s
    refine wpAny_bind (next_tuple_end hh hit hl (by simp [hxs]) fun h2 he2 => ?_)
    refine wpAny_bind (wpAny_pure (wpAny_pure ?_))
    exact hR h2 s.toks (fun b o hb1 hb2 e => he2 b o hb2 e) (hd.extBut he2 dI)
  | succ m ih =>
    intro i s hm hi hit hl ht hd hR
    have hlt : i < n := by omega
    refine codeAny_builtin entry_upd_loop ?_
    rw [Around.under_plainId plain_upd_loop _]
    show wpAny _ A.in1 (pyNext (.ref I) >>= _) _ _ s
    refine wpAny_bind (next_tuple_item hit hl (hx i hlt) fun h1 hit1 hs1 => ?_)
    have e1 := hs1.extBut
    have ht1 : ∀ j, j < n → IsTup h1 (tb j) #[kv j, vv j] := fun j hj => isTup_keep (ht j hj) fun o e => e1 _ o (tI j hj) e
    obtain ⟨ot, hot, hct, nt, hdt⟩ := ht1 i hlt
    refine wpAny_bind (wpAny_holding (wpAny_bind (wpAny_tryCatch ?_)))
    unfold Builtin.Dict.pairItems
    refine wpAny_bind (wpAny_typeOf (T := "tuple") ⟨ot, hot, hct⟩ ?_)
    rw [if_pos (by decide)]
    refine wpAny_bind (wpAny_seqItems hot hdt (wpAny_pure ?_))
    have hd1 : h1.DictOf knd d ((List.range i).map fun j => (ks j, vv j)) := hd.extBut e1 dI
    show wpAny _ _ (holding [kv i, vv i] (dictSet d (kv i) (vv i))) _ _ _
    refine wpAny_holding (wpAny_dictSet_pairs (s := { s with heap := h1 }) (hk i hlt) hd1 (fun h2 hd2 hs2 => ?_) (by rw [List.length_map, List.length_range]; omega))
    have hfresh : stored ((List.range i).map fun j => (ks j, vv j)) (ks i) (vv i) = (List.range (i + 1)).map fun j => (ks j, vv j) := by
      unfold stored
      rw [if_neg ?_, List.range_succ, List.map_append]
      · rfl
      · intro q
        obtain ⟨p, hp, e⟩ := List.any_eq_true.mp q
        obtain ⟨j, hj, rfl⟩ := List.mem_map.mp hp
        have hj' := List.mem_range.mp hj
        have e' : ks j = ks i := by simpa using e
        have h1 : ((List.range n).map ks)[j]? = some (ks j) := by rw [List.getElem?_map, List.getElem?_range (by omega)]; rfl
        have h2 : ((List.range n).map ks)[i]? = some (ks i) := by rw [List.getElem?_map, List.getElem?_range hlt]; rfl
        have := (List.getElem?_inj (by rw [List.length_map, List.length_range]; omega) hnd).mp (h1.trans ((congrArg some e').trans h2.symm))
        omega
    rw [hfresh] at hd2
    have e2 := hs2.extBut
    have kp : ∀ b o, b ≠ d → b ≠ I → s.heap.get? b = some o → h2.get? b = some o := fun b o q1 q2 e => e2 b o q1 (e1 b o q2 e)
    refine wpAny_pure ⟨plainId_quiet plain_upd_loop _, ?_⟩
    have := ih (i + 1) { s with heap := h2, toks := s.toks + 1 } (by omega) hlt (hit1.extBut e2 (Ne.symm dI)) (isTup_keep hl fun o e => kp l o ld lI e) (fun j hj => isTup_keep (ht j hj) fun o e => kp _ o (td j hj) (tI j hj) e) hd2
      fun h' t' k1 k2 => hR h' t' (fun b o q1 q2 e => k1 b o q1 q2 (kp b o q1 q2 e)) k2
    exact this
theorem call_dict_pairsT {l : Addr} {o : Obj} {xs : Array Value} {c n : Nat} {E : Value → Shared → Prop} {s : Shared} {Q : Value → Shared → Prop} (tb : Nat → Addr) (ks : Nat → Ky) (kv vv : Nat → Value) (hh : A.handled = none)
    (ho : s.heap.get? l = some o) (hc : o.cls = .type "tuple") (hdt : o.data = .seq xs c) (hdi : o.dict = none) (hxs : xs.size = n) (hx : ∀ j, j < n → xs[j]? = some (.ref (tb j))) (hk : ∀ j, j < n → knd.is (ks j) (kv j) = true)
    (ht : ∀ j, j < n → IsTup s.heap (tb j) #[kv j, vv j]) (hnd : ((List.range n).map ks).Nodup) (hn : n ≤ sizeLine)
    (h : ∀ h' t', (∀ b o, s.heap.get? b = some o → h'.get? b = some o) → h'.DictOf knd s.heap.objs.size ((List.range n).map fun j => (ks j, vv j)) → Q (.ref s.heap.objs.size) { s with heap := h', toks := t' }) :
    wpAny (model prog w) A (call (.type "dict") [.ref l]) Q E s := by
  refine callType_codes (Q₁ := fun obj s₁ => obj = .ref s.heap.objs.size ∧ s₁ = { s with heap := s.heap.push { cls := .type "dict", data := .dict #[] } }) F.kt_called_dict (F.kt_typeCall_dict_1 _) F.entry_dict_init (kt_code_dict_new _ ⟨rfl, rfl⟩) ?_
  rintro obj s₁ ⟨rfl, rfl⟩
  have hnew : (s.heap.push { cls := .type "dict", data := .dict #[] }).DictOf knd s.heap.objs.size [] := Heap.DictOf.new s.heap
  have ll := Heap.lt_size ho
  have lt : ∀ j, j < n → tb j < s.heap.objs.size := fun j hj => by
    obtain ⟨q, hq, _⟩ := ht j hj
    exact Heap.lt_size hq
  refine ⟨hnew.typeIs, F.args_dict_init_2 _ _, ?_⟩
  unfold Builtin.«dict.__init__»
  refine wpAny_bind ?_
  unfold Builtin.Dict.selfAndRest
  refine wpAny_bind (wpAny_notOrdered_dict hnew.typeIs ?_)
  show wpAny _ _ (pure (s.heap.objs.size, [Value.ref l])) _ _ _
  refine wpAny_pure ?_
  show wpAny _ _ (Builtin.Dict.updateFrom "dict.__init__" s.heap.objs.size (.ref l) [] .none) _ _ _
  unfold Builtin.Dict.updateFrom
  have ho1 : (s.heap.push { cls := .type "dict", data := .dict #[] }).get? l = some o := Heap.get?_push_of_some _ ho
  refine wpAny_bind (wpAny_typeOf (T := "tuple") ⟨o, ho1, hc⟩ ?_)
  rw [if_pos (by decide)]
  refine wpAny_bind (keys_missT (A := A.in1.in1) ho1 hc hdt hdi hh fun h1 tk k1 => ?_)
  rw [if_pos (show (none : Option Value).isNone = true from rfl)]
  refine wpAny_bind (wpAny_rule ?_)
  have hl1 : IsTup h1 l xs := ⟨o, k1 _ _ ho1, hc, c, hdt⟩
  refine wpAny_bind (iter_tuple (s := { s with heap := h1, toks := tk }) hl1 ?_)
  have hI : s.heap.objs.size < h1.objs.size := Heap.lt_size (k1 _ _ (Heap.get?_push_size s.heap (o := { cls := .type "dict", data := .dict #[] }) rfl))
  have kp : ∀ b o, s.heap.get? b = some o → (h1.push { cls := .type "tuple_iterator", data := .fields #[.ref l, .int 0 0] }).get? b = some o := fun b o e => Heap.get?_push_of_some _ (k1 _ _ (Heap.get?_push_of_some _ e))
  refine wpAny_pure ⟨plainId_quiet plain_upd_loop _, ?_⟩
  have hnew1 : h1.DictOf knd s.heap.objs.size [] := by
    obtain ⟨q, es, ep, hq, r⟩ := hnew
    exact ⟨q, es, ep, k1 _ _ hq, r⟩
  refine upd_loopT (A := A.in1) (l := l) (I := h1.objs.size) (d := s.heap.objs.size) (xs := xs) (n := n) tb ks kv vv hh hxs hx hk hnd hn (Nat.ne_of_lt ll) (Nat.ne_of_lt (Nat.lt_trans ll hI)) (Nat.ne_of_lt hI) (fun j hj => Nat.ne_of_lt (lt j hj)) (fun j hj => Nat.ne_of_lt (Nat.lt_trans (lt j hj) hI)) n 0 _ (by omega) (by omega)
    ⟨_, Heap.get?_push_size _ rfl, rfl, rfl⟩ (hl1.push _) (fun j hj => isTup_keep (ht j hj) fun o e => kp _ o e) (hnew1.push _) fun h2 t2 k2 hd2 => ?_
  refine ⟨rfl, h h2 t2 (fun b o e => k2 b o ?_ ?_ (kp b o e)) hd2⟩
  · exact Nat.ne_of_lt (Heap.lt_size e)
  · exact Nat.ne_of_lt (Nat.lt_trans (Heap.lt_size e) hI)
end
end L2
namespace L2
open PySem PySem.Spec PyProof.Rows
/-- dict(x) of a list or a tuple of pairs, each key once -/
def rDictOf : List V → Hp → VK → Prop := fun xs H Q => ∃ (p : Addr) (ys : List V) (kvs : List (Key × V)), xs = [.ref p] ∧ (H p = some (.lst ys) ∨ H p = some (.tup ys)) ∧ ys.length = kvs.length ∧ (∀ (i : Nat) q, kvs[i]? = some q → ∃ b, ys[i]? = some (.ref b) ∧ H b = some (.tup [kV q.1, q.2])) ∧
  (kvs.map (·.1)).Nodup ∧ ∀ l, H l = none → Q (.ref l) (upd H l (.dK kvs))
theorem paired_range {kvs : List (Key × V)} (vv : Nat → Value) (h : ∀ (i : Nat) q, kvs[i]? = some q → RelV q.2 (vv i)) (d : Key) : KV kvs ((List.range kvs.length).map fun j => ((kvs.map (·.1)).getD j d, vv j)) := by
  induction kvs generalizing vv with
  | nil => exact .nil
  | cons q kvs ih =>
    rw [List.length_cons, List.range_succ_eq_map, List.map_cons, List.map_map]
    exact .cons ⟨rfl, h 0 q rfl⟩ (ih (fun j => vv (j + 1)) fun i q' e => h (i + 1) q' e)
theorem range_keys (l : List Key) (d : Key) : (List.range l.length).map (fun j => l.getD j d) = l := by
  apply List.ext_getElem?
  intro i
  rw [List.getElem?_map]
  by_cases h : i < l.length
  · rw [List.getElem?_range h, Option.map_some, List.getD_eq_getElem?_getD, List.getElem?_eq_getElem h]
    rfl
  · rw [List.getElem?_eq_none (by simpa using h), List.getElem?_eq_none (by simpa using h)]
    rfl
theorem vals_ref : ∀ {ys : List V} {its : List Value} {j : Nat} {a : Addr}, Vals ys its → ys[j]? = some (.ref a) → its.toArray[j]? = some (.ref a) := fun {ys its j a} r e => by
  rw [List.getElem?_toArray]
  induction r generalizing j with
  | nil => cases e
  | cons r1 r2 ih =>
    cases j with
    | zero => cases e; cases r1; rfl
    | succ j => exact ih e
theorem call_dictOf {X : Cx} (hc : X.calm = true) : CallR X (.type "dict") rDictOf := by
  intro pins s σ H xs us Q I r h
  obtain ⟨p, ys, kvs, rfl, hp, hl, hk, hnd, q⟩ := h
  obtain ⟨u, rfl, rx⟩ := vals1 r
  cases rx
  have hf : H s.heap.objs.size = none := I.hok.fresh (Nat.le_refl _)
  have pr : ∀ i : Nat, ∃ t : Addr × Value × Value, ∀ q, kvs[i]? = some q → ys[i]? = some (.ref t.1) ∧ IsTup s.heap t.1 #[t.2.1, t.2.2] ∧ RelV (kV q.1) t.2.1 ∧ RelV q.2 t.2.2 := fun i => by
    cases e : kvs[i]? with
    | none => exact ⟨(0, .none, .none), fun q z => nomatch z⟩
    | some q =>
      obtain ⟨b, e1, e2⟩ := hk i q e
      obtain ⟨its, rv, ht, _⟩ := I.tuple (SqT.of e2)
      obtain ⟨u, v, rfl, r1, r2⟩ := vals2 rv
      refine ⟨(b, u, v), fun q' e' => ?_⟩
      cases e'
      exact ⟨e1, ht, r1, r2⟩
  obtain ⟨t, ht⟩ := Classical.axiomOfChoice pr
  have at_ : ∀ j, j < kvs.length → ys[j]? = some (.ref (t j).1) ∧ IsTup s.heap (t j).1 #[(t j).2.1, (t j).2.2] ∧ RelV (kV ((kvs.map (·.1)).getD j (Sum.inl 0))) (t j).2.1 := fun j hj => by
    obtain ⟨h1, h2, h3, h4⟩ := ht j _ (List.getElem?_eq_getElem hj)
    refine ⟨h1, h2, ?_⟩
    rw [List.getD_eq_getElem?_getD, List.getElem?_map, List.getElem?_eq_getElem hj]
    exact h3
  have hnd' : ((List.range kvs.length).map fun j => (kvs.map (·.1)).getD j (Sum.inl 0)).Nodup := by
    have e := range_keys (kvs.map (·.1)) (Sum.inl 0)
    rw [List.length_map] at e
    rw [e]
    exact hnd
  have fin : kvs.length ≤ sizeLine → ∀ h' t', (∀ b o, s.heap.get? b = some o → h'.get? b = some o) → h'.DictOf (mixKind X.prog X.w) s.heap.objs.size ((List.range kvs.length).map fun j => ((kvs.map (·.1)).getD j (Sum.inl 0), (t j).2.2)) →
      EP X pins σ Q (.ref s.heap.objs.size) { s with heap := h', toks := t' } := fun hz h' t' kp hd =>
    ⟨.ref s.heap.objs.size, _, I.laid (t' := t') (o := .dK kvs) kp (Nat.le_refl _) ⟨hz, beq_eq_false_iff_ne.mpr (Ne.symm (Nat.ne_of_lt I.big)), _, paired_range (fun j => (t j).2.2) (fun i q e => (ht i q e).2.2.2) (Sum.inl 0), hd⟩, rfl, q _ hf⟩
  rcases hp with hp | hp
  · obtain ⟨z, its, n, r', e⟩ := I.hok p _ hp
    have hlen : its.toArray.size = kvs.length := by rw [List.size_toArray, ← r'.length]; exact hl
    have hz : kvs.length ≤ sizeLine := by rw [← hl]; exact z
    refine call_dict_pairs (fun j => (t j).1) (fun j => (kvs.map (·.1)).getD j (Sum.inl 0)) (fun j => (t j).2.1) (fun j => (t j).2.2) (I.ok.hd hc) e rfl rfl rfl hlen (fun j hj => ?_) (fun j hj => kV_is (at_ j hj).2.2) (fun j hj => (at_ j hj).2.1) hnd' hz (fin hz)
    exact vals_ref r' (at_ j hj).1
  · obtain ⟨z, its, r', ⟨o, e, c1, n, d1⟩, nd⟩ := (show ObjOk X.prog X.w H s.heap p (.tup ys) from I.hok p _ hp)
    have hlen : its.toArray.size = kvs.length := by rw [List.size_toArray, ← r'.length]; exact hl
    have hz : kvs.length ≤ sizeLine := by rw [← hl]; exact z
    refine call_dict_pairsT (fun j => (t j).1) (fun j => (kvs.map (·.1)).getD j (Sum.inl 0)) (fun j => (t j).2.1) (fun j => (t j).2.2) (I.ok.hd hc) e c1 d1 (nd _ e) hlen (fun j hj => ?_) (fun j hj => kV_is (at_ j hj).2.2) (fun j hj => (at_ j hj).2.1) hnd' hz (fin hz)
    exact vals_ref r' (at_ j hj).1
end L2

set_option Elab.async false
set_option linter.all false
set_option maxRecDepth 100000
namespace HT
open PySem PySem.Spec PyProof.Rows
section
variable {prog : Program} {w : World} {A : Around} {E : Value → Shared → Prop} {s : Shared}
end
end HT
namespace L2
open PySem PySem.Spec PyProof.Rows
end L2

set_option Elab.async false
set_option linter.all false
set_option maxRecDepth 100000
namespace L2
open PySem PySem.Spec PyProof.Rows
/-! ### a row that is a list or a tuple -/
def SeqAt' (H : Hp) (a : Addr) (ys : List V) : Prop := H a = some (.lst ys) ∨ H a = some (.tup ys)
theorem SeqAt'.same {H H' : Hp} {a : Addr} {ys : List V} (s : Same H H') (h : SeqAt' H a ys) : SeqAt' H' a ys := h.imp (s _ _) (s _ _)
def JtAt (J : It) (a : Addr) (o : HO) (ys : List V) : Prop := ∀ H', H' a = some o → (∀ i, i < ys.length → J.go i H' ∧ ∀ x H'', J.yld i H' x H'' → H'' = H' ∧ x = ys.getD i .non) ∧ J.stop ys.length H'
def JtOk (J : It) (ys : List V) (H : Hp) : Prop := ∀ H', Same H H' → (∀ i, i < ys.length → J.go i H' ∧ ∀ x H'', J.yld i H' x H'' → H'' = H' ∧ x = ys.getD i .non) ∧ J.stop ys.length H'
theorem iSeq_var {K : PySem.W.Frag} {i : Nat} {a : Addr} {ys : List V} {σ : St} {H : Hp} {R : It → Hp → Prop} (hσ : σ[i]? = some (some (.ref a))) (hs : SeqAt' H a ys) (h : ∀ J, JtOk J ys H → R J H) : iOr (iList K (tVar i)) (iTup K (tVar i)) σ H R := by
  rcases hs with hs | hs
  · exact .inl ⟨_, hσ, a, rfl, ⟨_, SqL.of hs⟩, h _ (jt_list (SqL.of hs))⟩
  · exact .inr ⟨_, hσ, a, rfl, ⟨_, SqT.of hs⟩, h _ (jt_tup (SqT.of hs))⟩
theorem iSeq_at {K : PySem.W.Frag} {i : Nat} {a : Addr} {ys : List V} {σ : St} {H : Hp} {R : It → Hp → Prop} (hσ : σ[i]? = some (some (.ref a))) (hs : SeqAt' H a ys) (h : ∀ J o, H a = some o → JtAt J a o ys → R J H) : iOr (iList K (tVar i)) (iTup K (tVar i)) σ H R := by
  rcases hs with hs | hs
  · exact .inl ⟨_, hσ, a, rfl, ⟨_, SqL.of hs⟩, h _ _ hs fun H' e => jt_list (K := K) (SqL.of e) H' (Same.refl _)⟩
  · exact .inr ⟨_, hσ, a, rfl, ⟨_, SqT.of hs⟩, h _ _ hs fun H' e => jt_tup (K := K) (SqT.of e) H' (Same.refl _)⟩
theorem for_seq {J : It} {ys : List V} {a : Addr} {o : HO} {g : TG} {tb : TS} {D : Ends} {σ : St} {H : Hp} (hJ : JtAt J a o ys) (Pv : Nat → St → Hp → Prop) (h0 : Pv 0 σ H) (hsm : ∀ i σ H, Pv i σ H → H a = some o)
    (hs : ∀ i x σ H, ys[i]? = some x → Pv i σ H → g x σ H fun σ2 H2 => tb { D with nx := Pv (i + 1), ct := Pv (i + 1), bk := D.nx } σ2 H2) (hd : ∀ σ H, Pv ys.length σ H → D.nx σ H) :
    ∃ W : Nat → Nat → St → Hp → Prop, (∃ m, W 0 m σ H) ∧ ∀ i m σ H, W i m σ H →
      (J.stop i H ∧ D.nx σ H) ∨ (J.go i H ∧ ∃ N : St → Hp → Prop, (∀ σ' H', N σ' H' → ∃ m', m' < m ∧ W (i + 1) m' σ' H') ∧ ∀ x H', J.yld i H x H' → g x σ H' fun σ2 H2 => tb { D with nx := N, ct := N, bk := D.nx } σ2 H2) := by
  refine ⟨fun i m σ H => m = ys.length - i ∧ i ≤ ys.length ∧ Pv i σ H, ⟨ys.length, by simp, Nat.zero_le _, h0⟩, ?_⟩
  rintro i m σ H ⟨rfl, hi, p⟩
  obtain ⟨j1, j2⟩ := hJ H (hsm i σ H p)
  by_cases hlt : i < ys.length
  · refine .inr ⟨(j1 i hlt).1, Pv (i + 1), fun σ' H' p' => ⟨ys.length - (i + 1), by omega, rfl, hlt, p'⟩, fun x H' y => ?_⟩
    obtain ⟨e, e2⟩ := (j1 i hlt).2 x H' y
    subst e e2
    refine hs i _ σ _ ?_ p
    rw [List.getD_eq_getElem?_getD, List.getElem?_eq_getElem hlt]
    rfl
  · have e : i = ys.length := by omega
    subst e
    exact .inl ⟨j2, hd σ H p⟩
theorem len_seq {K : PySem.W.Frag} {H : Hp} {a : Addr} {ys : List V} (h : SeqAt' H a ys) : LenV K (.ref a) H ys.length := h.elim (fun h => .inl ⟨_, SqL.of h, rfl⟩) fun h => .inr ⟨_, SqT.of h, rfl⟩
theorem ix_seqK {X : Cx} (K : PySem.W.Frag) (h : X.K = K := by rfl) : IxR X (rIx K) := by subst h; exact ix_seq
theorem seq_ix {K : PySem.W.Frag} {H : Hp} {a : Addr} {ys : List V} {i : Int} {v : V} {Q : VK} (h : SeqAt' H a ys) (e : atI ys i = some v) (q : Q v H) : rIx K (.ref a) (.int i) H Q :=
  h.elim (fun h => .inl ⟨a, ys, i, v, rfl, rfl, SqL.of h, e, q⟩) fun h => .inr (.inl ⟨a, ys, i, v, rfl, rfl, SqT.of h, e, q⟩)
end L2

set_option Elab.async false
set_option linter.all false
set_option maxRecDepth 100000
namespace Sh
open PySem L2 PyProof.Rows
seal L2.PE L2.PS L2.PSs L2.PT L2.PW L2.PA L2.PI L2.PG L2.PGs L2.PO L2.PC L2.PCs L2.OpR L2.UnR L2.CallR L2.MtR L2.IxR L2.SlR
def top (i : Nat) : Stmt := PySem.Challenge.pw_shredjoin_k03_heap_deeds.main.body.getD i (.Pass ⟨0, 0, 0, 0⟩)
abbrev sIsWhole : Stmt := top 14
abbrev sIsLong : Stmt := top 15
abbrev sIsText : Stmt := top 16

structure Blt (mg : Str → Option Value) : Prop where
  isi : mg "isinstance" = none
  int : mg "int" = none
  bool : mg "bool" = none
  str : mg "str" = none
  tuple : mg "tuple" = none
  list : mg "list" = none
  len : mg "len" = none
  all : mg "all" = none
  range : mg "range" = none
  sum : mg "sum" = none
  min : mg "min" = none
  sorted : mg "sorted" = none
  letters : ∃ t, mg "LETTERS" = some (.str "abcdefghijklmnopqrstuvwxyz" t)
  most : ∃ t, mg "MOST_SIGNS" = some (.int 300 t)

section
variable {P : Program} {w : World} {K : PySem.W.Frag} {mg : Str → Option Value} {base : Heap}

/-! ### is_whole, is_long -/
def spWhole : Sp := fun vs H Q _ => ∃ (x : V) (n : String), vs = [x] ∧ TyB H x n ∧ Q (.bl (n == "int")) H
theorem scIsWhole : FnScope ["thing"] ["thing"] (defScope sIsWhole) := ⟨rfl, rfl, rfl, by decide +kernel, rfl, by decide +kernel, by decide +kernel⟩
theorem ok_is_whole (D : HasDef K mg "is_whole" sIsWhole ["thing"]) (B : Blt mg) : FOk P w K mg base 1 "is_whole" ["thing"] spWhole := by
  refine D.ok scIsWhole (fun vs H Q E h => ?_) (fun f cdv A outer s H vs Q E hr h => ?_)
  · obtain ⟨x, n, rfl, _⟩ := h
    rfl
  · obtain ⟨x, n, rfl, ty, k⟩ := h
    refine ⟨_, pss_one (ps_ret (pe_and (pe_callB call_isiB rfl B.isi b_isi (pa_cons (pv 0) (pa_cons (pe_ty rfl B.int b_int) pa_nil)))
      (pe_one (pe_not (pe_callB call_isiB rfl B.isi b_isi (pa_cons (pv 0) (pa_cons (pe_ty rfl B.bool b_bool) pa_nil))))))), ?_⟩
    refine ⟨_, rfl, x, "int", n, rfl, by decide, ty, _, rfl, ?_⟩
    refine ite2 (fun e => ?_) (fun e => ?_)
    · refine ⟨_, rfl, x, "bool", n, rfl, by decide, ty, _, rfl, ?_⟩
      rw [(isi_int n ty.mem).1 e]
      exact k
    · rw [(isi_int n ty.mem).2 e] at k
      exact k
def isLongV : V → Bool
  | .int i => decide (1 ≤ i) && decide (i ≤ 300)
  | _ => false
def spLong : Sp := fun vs H Q _ => ∃ (x : V) (n : String), vs = [x] ∧ TyB H x n ∧ Q (.bl (isLongV x)) H
theorem scIsLong : FnScope ["thing"] ["thing"] (defScope sIsLong) := ⟨rfl, rfl, rfl, by decide +kernel, rfl, by decide +kernel, by decide +kernel⟩
theorem ok_is_long (D : HasDef K mg "is_long" sIsLong ["thing"]) (B : Blt mg) (G1 : FOk P w K mg base 1 "is_whole" ["thing"] spWhole) : FOk P w K mg base 2 "is_long" ["thing"] spLong := by
  refine D.ok scIsLong (fun vs H Q E h => ?_) (fun f cdv A outer s H vs Q E hr h => ?_)
  · obtain ⟨x, n, rfl, _⟩ := h
    rfl
  · obtain ⟨x, n, rfl, ty, k⟩ := h
    obtain ⟨t3, m3⟩ := B.most
    refine ⟨_, pss_one (ps_ret (pe_and (pe_fn G1 hr (pa_cons (pv 0) pa_nil))
      (pe_one (pe_chain op_le op_le pe_int (pv 0) (pe_glob (v := .int 300) rfl m3 ⟨_, rfl⟩))))), ?_⟩
    refine ⟨_, rfl, x, n, rfl, ty, _, rfl, ?_⟩
    refine ite2 (fun e => ?_) (fun e => ?_)
    · cases ty with
      | int i =>
        refine ⟨_, rfl, _, _, rfl, rfl, _, rfl, ?_⟩
        refine ite2 (fun e1 => ?_) (fun e1 => ?_)
        · refine ⟨_, _, rfl, rfl, ?_⟩
          show Q (.bl (decide (i ≤ 300))) H
          have : (isLongV (.int i)) = decide (i ≤ 300) := by simp only [isLongV]; rw [e1]; rfl
          rw [← this]
          exact k
        · have : (isLongV (.int i)) = false := by simp only [isLongV]; rw [Bool.eq_false_iff.mpr e1]; rfl
          rw [this] at k
          exact k
      | _ => exact absurd e (by decide)
    · have : isLongV x = false := by
        cases ty with
        | int i => exact absurd rfl e
        | _ => rfl
      rw [this] at k
      exact k
/-! ### is_text -/
def okSign (c : Nat) : Bool := decide (97 ≤ c) && decide (c ≤ 122)
def isTextV : V → Bool
  | .str z => isLongV (.int z.length) && z.cps.toList.all okSign
  | _ => false
theorem letters_list : (("abcdefghijklmnopqrstuvwxyz" : Str)).cps.toList = (List.range 26).map (· + 97) := by decide +kernel
theorem occ_letters (c : Nat) : decide (c ∈ (("abcdefghijklmnopqrstuvwxyz" : Str)).cps.toList) = okSign c := by
  rw [letters_list, Bool.eq_iff_iff]
  simp only [decide_eq_true_eq, List.mem_map, List.mem_range, okSign, Bool.and_eq_true]
  constructor
  · rintro ⟨a, h, rfl⟩
    omega
  · rintro ⟨h1, h2⟩
    exact ⟨c - 97, by omega, by omega⟩
def spText : Sp := fun vs H Q _ => ∃ (x : V) (n : String), vs = [x] ∧ TyB H x n ∧ (∀ z, x = .str z → z.length ≤ sizeLine) ∧ ∀ H', Same H H' → Q (.bl (isTextV x)) H'
theorem scIsText : FnScope ["thing"] ["thing"] (defScope sIsText) := ⟨rfl, rfl, rfl, by decide +kernel, rfl, by decide +kernel, by decide +kernel⟩
theorem ok_is_text (D : HasDef K mg "is_text" sIsText ["thing"]) (B : Blt mg) (G1 : FOk P w K mg base 2 "is_long" ["thing"] spLong) : FOk P w K mg base 3 "is_text" ["thing"] spText := by
  refine D.ok scIsText (fun vs H Q E h => ?_) (fun f cdv A outer s H vs Q E hr h => ?_)
  · obtain ⟨x, n, rfl, _⟩ := h
    rfl
  · obtain ⟨x, n, rfl, ty, hz, k⟩ := h
    obtain ⟨t3, m3⟩ := B.letters
    refine ⟨_, pss_cons (ps_if (PW.pt (pw_or (pt_not (pt_val (pe_callB call_isiB rfl B.isi b_isi (pa_cons (pv 0) (pa_cons (pe_ty rfl B.str b_str) pa_nil)))))
        (pw_or1 (pt_not (pt_val (pe_fn G1 hr (pa_cons (pe_callB call_len rfl B.len b_len (pa_cons (pv 0) pa_nil)) pa_nil))))))) (pss_one (ps_ret pe_bl)) pss_nil)
      (pss_one (ps_ret (pe_callB (call_allL rfl) rfl B.all b_all (pa_cons (pe_lcomp (defScope sIsText) ["thing"] ["sign"] [] rfl (pi_str (pv 0)) (fun _ _ _ _ _ => pg_lc 0) (fun _ _ _ _ _ => pcs_nil)
        (fun _ _ _ _ _ => pe_cmpR op_in_str (pv 0) (pe_glob (v := .str _) rfl m3 ⟨_, rfl⟩) rfl)) pa_nil)))), ?_⟩
    refine ⟨_, rfl, x, "str", n, rfl, by decide, ty, _, rfl, ?_⟩
    cases hb : isiB n "str" with
    | false =>
      have e : isTextV x = false := by
        cases ty with
        | str z => exact absurd hb (by decide)
        | _ => rfl
      refine iteT (iteT ?_)
      rw [← e]
      exact k H (Same.refl H)
    | true =>
      cases ty with
      | str z =>
        have hz' := hz z rfl
        refine iteF ?_
        refine ⟨_, rfl, .str z, z.length, rfl, ⟨hz', rfl⟩, .int z.length, "int", rfl, .int _, _, rfl, ?_⟩
        cases hl : isLongV (.int z.length) with
        | false =>
          refine iteT ?_
          have e : isTextV (.str z) = false := by simp only [isTextV, hl, Bool.false_and]
          rw [← e]
          exact k H (Same.refl H)
        | true =>
          refine iteF ?_
          refine ⟨.str z, rfl, z, rfl, lc_map z.cps.size (fun i => .str ⟨#[z.cps.getD i 0]⟩) (fun i v _ => v = .bl (okSign (z.cps.getD i 0))) hz' (fun _ _ _ _ _ r => r) jt_str ?_ ?_⟩
          · intro i H1 Qe hi hs kq
            refine ⟨_, rfl, _, _, rfl, rfl, kq _ _ (Same.refl _) ?_⟩
            exact congrArg V.bl ((str1 _ _).trans (occ_letters _))
          · intro D vs H' hlv hr hs hD hDl
            have e := vs_range (f := fun i => V.bl (okSign (z.cps.getD i 0))) hlv hr
            have e2 : (List.range z.cps.size).map (fun i => okSign (z.cps.getD i 0)) = z.cps.toList.map okSign := by
              have q := congrArg (List.map okSign) (getD_range z.cps.toList)
              rw [List.map_map] at q
              rw [← q]
              simp [Function.comp_def, Array.getD_eq_getD_getElem?, List.getD_eq_getElem?_getD]
            refine ⟨D, z.cps.toList.map okSign, rfl, SqL.of ?_, ?_⟩
            · rw [hDl, e, ← e2, List.map_map]
              rfl
            · have e3 : isTextV (.str z) = (z.cps.toList.map okSign).all id := by
                simp only [isTextV, hl, Bool.true_and, List.all_map]
                rfl
              rw [← e3]
              exact k H' hs
      | _ => exact absurd hb (by decide)
end
end Sh

set_option Elab.async false
set_option linter.all false
set_option maxRecDepth 100000
namespace Sh
open PySem L2 PyProof.Rows
seal L2.PE L2.PS L2.PSs L2.PT L2.PW L2.PA L2.PI L2.PG L2.PGs L2.PO L2.PC L2.PCs L2.OpR L2.UnR L2.CallR L2.MtR L2.IxR L2.SlR
abbrev sMost : Stmt := top 17
abbrev sLongOf : Stmt := top 19
abbrev sSizeOf : Stmt := top 20

/-! ### a heap as it lies -/
abbrev Pr := Str × Int
def PairAt (H : Hp) (v : V) (p : Pr) : Prop := ∃ b, v = .ref b ∧ H b = some (.tup [.str p.1, .int p.2])
def HpAt (H : Hp) (v : V) (hp : List Pr) : Prop := ∃ a xs, v = .ref a ∧ H a = some (.tup xs) ∧ xs.length = hp.length ∧ ∀ i p, hp[i]? = some p → PairAt H (xs.getD i .non) p
theorem PairAt.same {H H' : Hp} (s : TSame H H') {v : V} {p : Pr} (h : PairAt H v p) : PairAt H' v p := by
  obtain ⟨b, e, q⟩ := h
  exact ⟨b, e, s _ _ q⟩
theorem HpAt.same {H H' : Hp} (s : TSame H H') {v : V} {hp : List Pr} (h : HpAt H v hp) : HpAt H' v hp := by
  obtain ⟨a, xs, e, q, l, r⟩ := h
  exact ⟨a, xs, e, s _ _ q, l, fun i p z => (r i p z).same s⟩
theorem atI_nat' {xs : List V} {i : Nat} {v : V} (h : xs[i]? = some v) : atI xs (i : Int) = some v := atI_nat h
structure Fits (hp : List Pr) : Prop where
  few : hp.length ≤ 100000
  len : ∀ p ∈ hp, p.1.length ≤ 100000
  lo : ∀ p ∈ hp, -1000 ≤ p.2
  hi : ∀ p ∈ hp, p.2 ≤ 1000

section
variable {P : Program} {w : World} {K : PySem.W.Frag} {mg : Str → Option Value} {base : Heap}

/-! ### most_pieces -/
def spMost : Sp := fun vs H Q _ => ∃ l : Int, vs = [.int l] ∧ Q (.int (300 + 1 - l)) H
theorem scMost : FnScope ["long"] ["long"] (defScope sMost) := ⟨rfl, rfl, rfl, by decide +kernel, rfl, by decide +kernel, by decide +kernel⟩
theorem ok_most (D : HasDef K mg "most_pieces" sMost ["long"]) (B : Blt mg) : FOk P w K mg base 1 "most_pieces" ["long"] spMost := by
  refine D.ok scMost (fun vs H Q E h => ?_) (fun f cdv A outer s H vs Q E hr h => ?_)
  · obtain ⟨l, rfl, _⟩ := h
    rfl
  · obtain ⟨l, rfl, k⟩ := h
    obtain ⟨t3, m3⟩ := B.most
    refine ⟨_, pss_one (ps_ret (pe_op op_sub (pe_op op_add (pe_glob (v := .int 300) rfl m3 ⟨_, rfl⟩) pe_int) (pv 0))), ?_⟩
    exact ⟨_, _, rfl, rfl, _, rfl, _, _, rfl, rfl, k⟩

/-! ### long_of, size_of -/
def spLongOf : Sp := fun vs H Q _ => ∃ (v : V) (p : Pr) (hp : List Pr), vs = [v] ∧ HpAt H v (p :: hp) ∧ Fits (p :: hp) ∧ Q (.int p.1.length) H
theorem scLongOf : FnScope ["H"] ["H"] (defScope sLongOf) := ⟨rfl, rfl, rfl, by decide +kernel, rfl, by decide +kernel, by decide +kernel⟩
theorem ok_long_of (D : HasDef K mg "long_of" sLongOf ["H"]) (B : Blt mg) : FOk P w K mg base 1 "long_of" ["H"] spLongOf := by
  refine D.ok scLongOf (fun vs H Q E h => ?_) (fun f cdv A outer s H vs Q E hr h => ?_)
  · obtain ⟨v, p, hp, rfl, _⟩ := h
    rfl
  · obtain ⟨v, p, hp, rfl, hA, hf, k⟩ := h
    obtain ⟨a, xs, rfl, ha, hl, hr'⟩ := hA
    obtain ⟨b, eb, hb⟩ := hr' 0 p rfl
    have ex : xs[0]? = some (.ref b) := by
      cases xs with
      | nil => cases hl
      | cons x r => exact congrArg some eb
    refine ⟨_, pss_one (ps_ret (pe_callB call_len rfl B.len b_len (pa_cons (pe_ix ix_tup (pe_ix ix_tup (pv 0) pe_int (fun _ _ => rfl)) pe_int (fun _ _ => rfl)) pa_nil))), ?_⟩
    exact ⟨_, rfl, a, xs, 0, _, rfl, rfl, SqT.of ha, atI_nat' (i := 0) ex, b, _, 0, .str p.1, rfl, rfl, SqT.of hb, atI_nat' (i := 0) rfl, .str p.1, p.1.length, rfl, ⟨size_small (Nat.le_trans (hf.len p (List.mem_cons_self)) (by decide)), rfl⟩, k⟩

theorem sum_small : ∀ (ns : List Int) (m : Nat), ns.length ≤ m → (∀ n ∈ ns, -1000 ≤ n ∧ n ≤ 1000) → -(1000 * (m : Int)) ≤ ns.sum ∧ ns.sum ≤ 1000 * (m : Int)
  | [], m, _, _ => by simp; omega
  | n :: ns, 0, h, _ => by simp at h
  | n :: ns, m + 1, h, hb => by
    have h1 := sum_small ns m (by simpa using h) fun x hx => hb x (List.mem_cons_of_mem _ hx)
    have h2 := hb n List.mem_cons_self
    rw [List.sum_cons]
    omega
theorem inLong_take {ns : List Int} (h : ns.length ≤ 100000) (hb : ∀ n ∈ ns, -1000 ≤ n ∧ n ≤ 1000) (k : Nat) : InLong (ns.take k).sum := by
  have h1 := sum_small (ns.take k) 100000 (by rw [List.length_take]; omega) fun x hx => hb x (List.mem_of_mem_take hx)
  unfold InLong
  omega
def spSizeOf : Sp := fun vs H Q _ => ∃ (v : V) (hp : List Pr), vs = [v] ∧ HpAt H v hp ∧ Fits hp ∧ ∀ H', Same H H' → Q (.int (hp.map (·.2)).sum) H'
theorem scSizeOf : FnScope ["H"] ["H"] (defScope sSizeOf) := ⟨rfl, rfl, rfl, by decide +kernel, rfl, by decide +kernel, by decide +kernel⟩
theorem ok_size_of (D : HasDef K mg "size_of" sSizeOf ["H"]) (B : Blt mg) : FOk P w K mg base 1 "size_of" ["H"] spSizeOf := by
  refine D.ok scSizeOf (fun vs H Q E h => ?_) (fun f cdv A outer s H vs Q E hr h => ?_)
  · obtain ⟨v, hp, rfl, _⟩ := h
    rfl
  · obtain ⟨v, hp, rfl, hA, hf, k⟩ := h
    obtain ⟨a, xs, rfl, ha, hl, hr'⟩ := hA
    refine ⟨_, pss_one (ps_ret (pe_callB (call_sumL rfl) rfl B.sum b_sum (pa_cons (pe_lcomp (defScope sSizeOf) ["H"] ["pair"] [] rfl (pi_tup (pv 0)) (fun _ _ _ _ _ => pg_lc 0) (fun _ _ _ _ _ => pcs_nil)
      (fun _ _ _ _ _ => pe_ix (ix_tupK K) (pv 0) pe_int (fun _ _ => rfl))) pa_nil))), ?_⟩
    refine ⟨_, rfl, a, rfl, ⟨_, SqT.of ha⟩, lc_map xs.length (fun i => xs.getD i .non) (fun i v _ => v = .int ((hp.map (·.2)).getD i 0)) (by rw [hl]; exact size_small (Nat.le_trans hf.few (by decide))) (fun _ _ _ _ _ r => r) (jt_tup (SqT.of ha)) ?_ ?_⟩
    · intro i H1 Qe hi hs kq
      have hi' : i < hp.length := by omega
      obtain ⟨b, eb, hb⟩ := hr' i hp[i] (List.getElem?_eq_getElem hi')
      refine ⟨_, rfl, b, _, 1, .int hp[i].2, ?_, rfl, SqT.of (hs _ _ hb), atI_nat' (i := 1) rfl, kq _ _ (Same.refl _) ?_⟩
      · exact eb
      · rw [List.getD_eq_getElem?_getD, List.getElem?_map, List.getElem?_eq_getElem hi']
        rfl
    · intro D vs H' hlv hr hs hD hDl
      have e := vs_range (f := fun i => V.int ((hp.map (·.2)).getD i 0)) hlv hr
      have e2 : vs = (hp.map (·.2)).map V.int := by
        apply List.ext_getElem?
        intro i
        by_cases hi : i < vs.length
        · have h1 := hr i _ (List.getElem?_eq_getElem hi)
          rw [List.getElem?_eq_getElem hi, h1, List.getElem?_map, List.getD_eq_getElem?_getD]
          have hi' : i < (hp.map (·.2)).length := by rw [List.length_map]; omega
          rw [List.getElem?_eq_getElem hi']
          rfl
        · rw [List.getElem?_eq_none (by omega), List.getElem?_eq_none (by rw [List.length_map, List.length_map]; omega)]
      have hb : ∀ n ∈ hp.map (·.2), -1000 ≤ n ∧ n ≤ 1000 := fun n hn => by
        obtain ⟨p, hp', rfl⟩ := List.mem_map.mp hn
        exact ⟨hf.lo p hp', hf.hi p hp'⟩
      refine ⟨D, hp.map (·.2), rfl, SqL.of (by rw [hDl, e2]), fun n hn => ?_, inLong_take (by rw [List.length_map]; exact hf.few) hb, k H' hs⟩
      have := hb n hn
      unfold InLong
      omega

/-! ### is_pair -/

/-! ### are_pieces, are_in_order -/
theorem strs_get {ss : List Str} {i : Nat} (h : i < ss.length) : (ss.map V.str).getD i .non = .str ss[i] := by
  rw [List.getD_eq_getElem?_getD, List.getElem?_map, List.getElem?_eq_getElem h]
  rfl

/-! ### is_heap, of a tuple of pairs of a text and a number -/
end
end Sh

set_option Elab.async false
set_option linter.all false
set_option maxRecDepth 100000
namespace Sh
open PySem L2 PyProof.Rows
seal L2.PE L2.PS L2.PSs L2.PT L2.PW L2.PA L2.PI L2.PG L2.PGs L2.PO L2.PC L2.PCs L2.OpR L2.UnR L2.CallR L2.MtR L2.IxR L2.SlR

section
variable {P : Program} {w : World} {K : PySem.W.Frag} {mg : Str → Option Value} {base : Heap}

/-! ### read_many, read_pair -/

end
end Sh

set_option Elab.async false
set_option linter.all false
set_option maxRecDepth 100000
namespace Sh
open PySem L2 PyProof.Rows
seal L2.PE L2.PS L2.PSs L2.PT L2.PW L2.PA L2.PI L2.PG L2.PGs L2.PO L2.PC L2.PCs L2.OpR L2.UnR L2.CallR L2.MtR L2.IxR L2.SlR
abbrev sLWhole : Stmt := top 29
abbrev sLSame : Stmt := top 31

section
variable {P : Program} {w : World} {K : PySem.W.Frag} {mg : Str → Option Value} {base : Heap}

/-! ### the law's own: whole, same heap -/
theorem scLWhole : FnScope ["_law_found"] ["_law_found"] (defScope sLWhole) := ⟨rfl, rfl, rfl, by decide +kernel, rfl, by decide +kernel, by decide +kernel⟩
theorem ok_l_whole (D : HasDef K mg "_law_whole" sLWhole ["_law_found"]) (B : Blt mg) : FOk P w K mg base 1 "_law_whole" ["_law_found"] spWhole := by
  refine D.ok scLWhole (fun vs H Q E h => ?_) (fun f cdv A outer s H vs Q E hr h => ?_)
  · obtain ⟨x, n, rfl, _⟩ := h
    rfl
  · obtain ⟨x, n, rfl, ty, k⟩ := h
    refine ⟨_, pss_one (ps_ret (pe_and (pe_callB call_isiB rfl B.isi b_isi (pa_cons (pv 0) (pa_cons (pe_ty rfl B.int b_int) pa_nil)))
      (pe_one (pe_not (pe_callB call_isiB rfl B.isi b_isi (pa_cons (pv 0) (pa_cons (pe_ty rfl B.bool b_bool) pa_nil))))))), ?_⟩
    refine ⟨_, rfl, x, "int", n, rfl, by decide, ty, _, rfl, ?_⟩
    refine ite2 (fun e => ?_) (fun e => ?_)
    · refine ⟨_, rfl, x, "bool", n, rfl, by decide, ty, _, rfl, ?_⟩
      rw [(isi_int n ty.mem).1 e]
      exact k
    · rw [(isi_int n ty.mem).2 e] at k
      exact k

def pairD (p : Pr) : PyData := .tuple [.str p.1, .int p.2]
def heapD (hp : List Pr) : PyData := .tuple (hp.map pairD)
theorem rep_pairs {H : Hp} : ∀ (hp : List Pr) (xs : List V), xs.length = hp.length → (∀ i p, hp[i]? = some p → PairAt H (xs.getD i .non) p) → RepA H (hp.map pairD) xs
  | [], xs, hl, _ => by
    rw [List.map_nil, RepA]
    exact List.length_eq_zero_iff.mp hl
  | p :: hp, [], hl, _ => by cases hl
  | p :: hp, x :: xs, hl, h => by
    rw [List.map_cons, RepA]
    obtain ⟨b, eb, hb⟩ := h 0 p rfl
    refine ⟨x, xs, rfl, ?_, rep_pairs hp xs (by simpa using hl) fun i q e => h (i + 1) q e⟩
    unfold pairD
    rw [RepD]
    refine ⟨b, _, eb, hb, ?_⟩
    rw [RepA]
    refine ⟨_, _, rfl, by rw [RepD], ?_⟩
    rw [RepA]
    exact ⟨_, _, rfl, by rw [RepD], by rw [RepA]⟩
theorem rep_heap {H : Hp} {v : V} {hp : List Pr} (h : HpAt H v hp) : RepD H (heapD hp) v := by
  obtain ⟨a, xs, e, ha, hl, r⟩ := h
  unfold heapD
  rw [RepD]
  exact ⟨a, xs, e, ha, rep_pairs hp xs hl r⟩
def CodesOk (hp : List Pr) : Prop := ∀ p ∈ hp, PyData.strOk p.1 = true
theorem lay_pairs : ∀ hp : List Pr, CodesOk hp → PyData.canLayAll0 (hp.map pairD) = true
  | [], _ => by simp [PyData.canLayAll0]
  | p :: hp, h => by
    rw [List.map_cons, PyData.canLayAll0, lay_pairs hp fun q hq => h q (List.mem_cons_of_mem _ hq)]
    simp [pairD, PyData.canLay0, PyData.canLayAll0, h p List.mem_cons_self]
theorem depth_pairs : ∀ hp : List Pr, PyData.depthAll (hp.map pairD) ≤ 1
  | [] => by simp [PyData.depthAll]
  | p :: hp => by
    have h := depth_pairs hp
    rw [List.map_cons, PyData.depthAll]
    have h2 : PyData.depth (pairD p) = 1 := by simp [pairD, PyData.depth, PyData.depthAll]
    omega
theorem shaped_heap {hp : List Pr} (h : CodesOk hp) : SeqAt.shaped (heapD hp) = true := by
  unfold SeqAt.shaped
  rw [Bool.and_eq_true]
  constructor
  · unfold heapD
    rw [PyData.canLay0]
    exact lay_pairs hp h
  · refine decide_eq_true ?_
    have h := depth_pairs hp
    unfold heapD
    rw [PyData.depth]
    omega
def spSame : Sp := fun vs H Q _ => ∃ (v u : V) (hp : List Pr), vs = [v, u] ∧ HpAt H v hp ∧ HpAt H u hp ∧ hp.length ≤ 100000 ∧ CodesOk hp ∧ Q (.bl true) H
theorem scSame : FnScope ["_law_found", "_law_due", "_law_pair"] ["_law_found", "_law_due"] (defScope sLSame) := ⟨rfl, rfl, rfl, by decide +kernel, rfl, by decide +kernel, by decide +kernel⟩
theorem ok_l_same (D : HasDef K mg "_law_same_heap" sLSame ["_law_found", "_law_due"]) (B : Blt mg) (G1 : FOk P w K mg base 1 "_law_whole" ["_law_found"] spWhole) : FOk P w K mg base 2 "_law_same_heap" ["_law_found", "_law_due"] spSame := by
  refine D.ok scSame (fun vs H Q E h => ?_) (fun f cdv A outer s H vs Q E hr h => ?_)
  · obtain ⟨v, u, hp, rfl, _⟩ := h
    rfl
  · obtain ⟨v, u, hp, rfl, hA, hB, hfew, hc, k⟩ := h
    obtain ⟨a, xs, rfl, ha, hl, hr'⟩ := id hA
    obtain ⟨b, ys, rfl, hb, hl2, _⟩ := id hB
    have hz : xs.length ≤ sizeLine := by rw [hl]; exact size_small (Nat.le_trans hfew (by decide))
    refine ⟨_, pss_cons (ps_if (PW.pt (pw_or (pt_not (pt_val (pe_callB call_isiB rfl B.isi b_isi (pa_cons (pv 0) (pa_cons (pe_ty rfl B.tuple b_tuple) pa_nil)))))
        (pw_or1 (pt_cmpR op_ne (pe_callB call_len rfl B.len b_len (pa_cons (pv 0) pa_nil)) (pe_callB call_len rfl B.len b_len (pa_cons (pv 1) pa_nil)) (nomark _))))) (pss_one (ps_ret pe_bl)) pss_nil)
      (pss_cons (ps_for PassesOwn.never rfl (pi_tup (pv 0)) (pg_name (i := 2) scSame.nd rfl (Or.inl rfl))
        (pss_one (ps_if (PW.pt (pw_or (pt_not (pt_val (pe_callB call_isiB rfl B.isi b_isi (pa_cons (pv 2) (pa_cons (pe_ty rfl B.tuple b_tuple) pa_nil)))))
          (pw_or (pt_cmpR op_ne (pe_callB call_len rfl B.len b_len (pa_cons (pv 2) pa_nil)) pe_int (nomark _))
          (pw_or (pt_not (pt_val (pe_callB call_isiB rfl B.isi b_isi (pa_cons (pe_ix ix_tup (pv 2) pe_int (fun _ _ => rfl)) (pa_cons (pe_ty rfl B.str b_str) pa_nil)))))
          (pw_or1 (pt_not (pt_val (pe_fn G1 hr (pa_cons (pe_ix ix_tup (pv 2) pe_int (fun _ _ => rfl)) pa_nil))))))))) (pss_one (ps_ret pe_bl)) pss_nil)))
      (pss_one (ps_ret (pe_cmpR (op_eqD hr.units) (pv 0) (pv 1) (nomark _))))), ?_⟩
    refine ⟨_, rfl, .ref a, "tuple", "tuple", rfl, by decide, .tup ha, _, rfl, iteF ?_⟩
    refine ⟨_, rfl, .ref a, _, rfl, .inr ⟨_, SqT.of ha, rfl⟩, _, rfl, .ref b, _, rfl, .inr ⟨_, SqT.of hb, rfl⟩, rfl, _, rfl, iteNS ?_ ?_⟩
    · rw [hl, hl2]
    refine ⟨_, rfl, a, rfl, ⟨_, SqT.of ha⟩, for_tup (K := K) (a := a) (xs := xs) (fun i σ H2 => (∃ z : Option V, σ = [some (.ref a), some (.ref b), z]) ∧ H2 = H) ⟨⟨none, rfl⟩, rfl⟩ (fun i σ H2 _ ⟨_, e⟩ => by rw [e]; exact SqT.of ha) ?_ ?_⟩
    · rintro i x σ H2 hi ⟨⟨z, rfl⟩, rfl⟩
      have hi' : i < hp.length := by
        have := (List.getElem?_eq_some_iff.mp hi).1
        omega
      obtain ⟨c, ec, hcc⟩ := hr' i _ (List.getElem?_eq_getElem hi')
      have ex : x = .ref c := by
        rw [List.getD_eq_getElem?_getD, hi] at ec
        exact ec
      subst ex
      refine ⟨_, rfl, .ref c, "tuple", "tuple", rfl, by decide, .tup hcc, _, rfl, iteF ?_⟩
      refine ⟨_, rfl, .ref c, 2, rfl, .inr ⟨_, SqT.of hcc, rfl⟩, rfl, _, rfl, iteF ?_⟩
      refine ⟨_, rfl, c, _, 0, _, rfl, rfl, SqT.of hcc, atI_nat' (i := 0) rfl, _, "str", "str", rfl, by decide, .str _, _, rfl, iteF ?_⟩
      refine ⟨_, rfl, c, _, 1, _, rfl, rfl, SqT.of hcc, atI_nat' (i := 1) rfl, _, "int", rfl, .int _, _, rfl, iteF ?_⟩
      exact ⟨⟨_, rfl⟩, rfl⟩
    · rintro σ H2 ⟨⟨z, rfl⟩, rfl⟩
      refine ⟨_, rfl, _, rfl, heapD hp, heapD hp, rep_heap hA, rep_heap hB, shaped_heap hc, shaped_heap hc, ?_⟩
      have e : PyData.eqv (heapD hp) (heapD hp) = true := SeqAt.eqv_refl _ (SeqAt.canLay_of_shaped (shaped_heap hc))
      rw [e]
      exact k

/-! ### the law's line -/
end
end Sh

set_option Elab.async false
set_option linter.all false
set_option maxRecDepth 100000
/-! the mathematics of lines: words parted by blanks, read back -/
namespace Sh
open PySem L2 PyProof.Rows

/-! ### codes -/
theorem codes_inj {a b : Str} (h : a.cps.toList = b.cps.toList) : a = b := by rw [← tx_eta a, ← tx_eta b, h]

/-! ### splitting a joined line gives the words -/

/-! ### a word read back -/
end Sh

set_option Elab.async false
set_option linter.all false
set_option maxRecDepth 100000
namespace Sh
open PySem L2 PyProof.Rows
seal L2.PE L2.PS L2.PSs L2.PT L2.PW L2.PA L2.PI L2.PG L2.PGs L2.PO L2.PC L2.PCs L2.OpR L2.UnR L2.CallR L2.MtR L2.IxR L2.SlR

structure IsHp (hp : List Pr) (L : Nat) : Prop where
  ne : hp ≠ []
  lo : 1 ≤ L
  hi : L ≤ 300
  len : ∀ p ∈ hp, p.1.length = L
  sg : ∀ p ∈ hp, p.1.cps.toList.all okSign = true
  pos : ∀ p ∈ hp, 1 ≤ p.2
  srt : (hp.map fun p => p.1.cps.toList).Pairwise (· < ·)
  sum : (hp.map (·.2)).sum + L ≤ 301

theorem len_le_sum : ∀ hp : List Pr, (∀ p ∈ hp, 1 ≤ p.2) → (hp.length : Int) ≤ (hp.map (·.2)).sum
  | [], _ => by simp
  | p :: r, h => by
    have h1 := len_le_sum r fun q hq => h q (List.mem_cons_of_mem _ hq)
    have h2 := h p List.mem_cons_self
    rw [List.map_cons, List.sum_cons, List.length_cons]
    omega
theorem le_sum : ∀ hp : List Pr, (∀ p ∈ hp, 1 ≤ p.2) → ∀ p ∈ hp, p.2 ≤ (hp.map (·.2)).sum
  | [], _, p, hp => by cases hp
  | q :: r, h, p, hp => by
    have h2 := h q List.mem_cons_self
    have h4 := len_le_sum r fun z hz => h z (List.mem_cons_of_mem _ hz)
    rw [List.map_cons, List.sum_cons]
    rcases List.mem_cons.mp hp with e | e
    · subst e
      omega
    · have h3 := le_sum r (fun z hz => h z (List.mem_cons_of_mem _ hz)) p e
      omega
section
variable {hp : List Pr} {L : Nat}
theorem IsHp.few (h : IsHp hp L) : hp.length ≤ 300 := by
  have h1 := len_le_sum hp h.pos
  have h2 := h.sum
  have h3 := h.lo
  omega
theorem IsHp.many (h : IsHp hp L) : ∀ p ∈ hp, p.2 ≤ 300 := fun p m => by
  have h1 := le_sum hp h.pos p m
  have h2 := h.sum
  have h3 := h.lo
  omega
theorem IsHp.fits (h : IsHp hp L) : Fits hp := by
  have h1 := h.few
  have h3 := h.hi
  refine ⟨by omega, fun p m => ?_, fun p m => ?_, fun p m => ?_⟩
  · have := h.len p m
    omega
  · have := h.pos p m
    omega
  · have := h.many p m
    omega
theorem okSign_lt {c : Nat} (h : okSign c = true) : 97 ≤ c ∧ c ≤ 122 := by
  simp only [okSign, Bool.and_eq_true, decide_eq_true_eq] at h
  exact h
end

/-! ### a shown pair is read back -/

section
variable {P : Program} {w : World} {K : PySem.W.Frag} {mg : Str → Option Value} {base : Heap}
end
end Sh

set_option Elab.async false
set_option linter.all false
set_option maxRecDepth 100000
namespace Sh
open PySem L2 PyProof.Rows
seal L2.PE L2.PS L2.PSs L2.PT L2.PW L2.PA L2.PI L2.PG L2.PGs L2.PO L2.PC L2.PCs L2.OpR L2.UnR L2.CallR L2.MtR L2.IxR L2.SlR
abbrev sLSeed : Stmt := top 27
abbrev sLAlph : Stmt := top 28

def seedStep (a c : Int) : Int := (a * 613 + c) % 999999937
def seedF (ns : List Int) : Int := (ns.foldl seedStep 4711) * 48271 % 2147483647
theorem seed_bd : ∀ (ns : List Int) (a : Int), 0 ≤ a → a < 999999937 → 0 ≤ ns.foldl seedStep a ∧ ns.foldl seedStep a < 999999937
  | [], a, h1, h2 => ⟨h1, h2⟩
  | n :: ns, a, _, _ => seed_bd ns (seedStep a n) (Int.emod_nonneg _ (by decide)) (Int.emod_lt_of_pos _ (by decide))
theorem cut63 (xs : List V) (h : xs.length ≤ 63) : cutV xs none (some 63) = xs := by
  have e1 : HT.sIx xs.length 0 none = 0 := rfl
  have e2 : HT.sIx xs.length xs.length (some 63) = xs.length := by
    unfold HT.sIx
    simp
    omega
  unfold cutV
  rw [e1, e2]
  simp
section
variable {P : Program} {w : World} {K : PySem.W.Frag} {mg : Str → Option Value} {base : Heap}
def spSeed (K : PySem.W.Frag) : Sp := fun vs H Q _ => ∃ (a : Addr) (ns : List Int), vs = [.ref a] ∧ SqL K H a (ns.map V.int) ∧ ns.length ≤ 63 ∧ ∀ H', Same H H' → Q (.int (seedF ns)) H'
theorem scSeed : FnScope ["_law_script", "_law_seed_here", "_law_cell"] ["_law_script"] (defScope sLSeed) := ⟨rfl, rfl, rfl, by decide +kernel, rfl, by decide +kernel, by decide +kernel⟩
theorem ok_l_seed (D : HasDef K mg "_law_seed" sLSeed ["_law_script"]) : FOk P w K mg base 1 "_law_seed" ["_law_script"] (spSeed K) := by
  refine D.ok scSeed (fun vs H Q E h => ?_) (fun f cdv A outer s H vs Q E hr h => ?_)
  · obtain ⟨a, ns, rfl, _⟩ := h
    rfl
  · obtain ⟨a, ns, rfl, ha, hl, k⟩ := h
    refine ⟨_, pss_cons (ps_set (i := 1) scSeed.nd rfl (Or.inl rfl) pe_int)
      (pss_cons (ps_for PassesOwn.never rfl (pi_list (pe_slice sl_list (pv 0) po_none (po_some pe_int))) (pg_name (i := 2) scSeed.nd rfl (Or.inl rfl))
        (pss_one (ps_set (i := 1) scSeed.nd rfl (Or.inl rfl) (pe_op op_mod (pe_op op_add (pe_op op_mul (pv 1) pe_int) (pv 2)) pe_int))))
      (pss_one (ps_ret (pe_op op_mod (pe_op op_mul (pv 1) pe_int) pe_int)))), ?_⟩
    refine ⟨_, rfl, _, rfl, a, _, rfl, ha, fun p hp => ?_⟩
    rw [cut63 (ns.map V.int) (by rw [List.length_map]; exact hl)]
    refine ⟨p, rfl, ⟨_, SqL.of upd_same⟩, for_list (K := K) (a := p) (xs := ns.map V.int) (fun i σ H2 => (∃ z : Option V, σ = [some (.ref a), some (.int ((ns.take i).foldl seedStep 4711)), z]) ∧ H2 = upd H p (.lst (ns.map V.int)))
      ⟨⟨none, rfl⟩, rfl⟩ (fun i σ H2 _ ⟨_, e⟩ => by rw [e]; exact SqL.of upd_same) ?_ ?_⟩
    · rintro i x σ H2 hi ⟨⟨z, rfl⟩, rfl⟩
      have hi' : i < ns.length := by
        have := (List.getElem?_eq_some_iff.mp hi).1
        rw [List.length_map] at this
        exact this
      rw [List.getElem?_map, List.getElem?_eq_getElem hi'] at hi
      have ex : x = V.int ns[i] := (Option.some.inj hi).symm
      subst ex
      have bd := seed_bd (ns.take i) 4711 (by decide) (by decide)
      refine ⟨_, rfl, _, _, rfl, rfl, .inr ⟨by decide, by decide⟩, _, rfl, _, _, rfl, rfl, _, _, rfl, rfl, (by show (0 : Int) < 999999937; decide), ?_⟩
      refine ⟨⟨some (.int ns[i]), ?_⟩, rfl⟩
      rw [List.take_succ_eq_append_getElem hi', List.foldl_append]
      rfl
    · rintro σ H2 ⟨⟨z, rfl⟩, rfl⟩
      have e : ns.take (ns.map V.int).length = ns := List.take_of_length_le (by rw [List.length_map]; exact Nat.le_refl _)
      rw [e]
      refine ⟨_, rfl, _, _, rfl, rfl, .inr ⟨by decide, by decide⟩, _, _, rfl, rfl, (by show (0 : Int) < 2147483647; decide), ?_⟩
      exact k _ (same_upd_new hp)

/-! ### letters -/
def stepL (sd : Int) : Int := [1, 3, 5, 7, 9, 11].getD (sd % 6).toNat 0
def letF (sd : Int) (k : Nat) : Nat := 97 + ((sd / 6 + k * stepL sd) % 26).toNat
def spAlph : Sp := fun vs H Q _ => ∃ (sd : Int) (few : Nat), vs = [.int sd, .int few] ∧ 0 ≤ sd ∧ few ≤ 26 ∧ ∀ p H', Same H H' → H' p = some (.lst ((List.range few).map fun k => V.str (tx [letF sd k]))) → Q (.ref p) H'
theorem scAlph : FnScope ["_law_seed_here", "_law_few", "_law_letters", "_law_step"] ["_law_seed_here", "_law_few"] (defScope sLAlph) := ⟨rfl, rfl, rfl, by decide +kernel, rfl, by decide +kernel, by decide +kernel⟩
theorem ok_l_alph (D : HasDef K mg "_law_alphabet" sLAlph ["_law_seed_here", "_law_few"]) (B : Blt mg) : FOk P w K mg base 1 "_law_alphabet" ["_law_seed_here", "_law_few"] spAlph := by
  refine D.ok scAlph (fun vs H Q E h => ?_) (fun f cdv A outer s H vs Q E hr h => ?_)
  · obtain ⟨sd, few, rfl, _⟩ := h
    rfl
  · obtain ⟨sd, few, rfl, h0, hf, k⟩ := h
    refine ⟨_, pss_cons (ps_set (i := 2) scAlph.nd rfl (Or.inr rfl) pe_str)
      (pss_cons (ps_set (i := 3) scAlph.nd rfl (Or.inr rfl) (pe_ix ix_list (pe_lst (pa_cons pe_int (pa_cons pe_int (pa_cons pe_int (pa_cons pe_int (pa_cons pe_int (pa_cons pe_int pa_nil))))))) (pe_op op_mod (pv 0) pe_int) (fun _ _ => rfl)))
      (pss_one (ps_ret (pe_lcomp (defScope sLAlph) ["_law_seed_here", "_law_few", "_law_letters", "_law_step"] ["_law_k"] [0, 2, 3] rfl (pi_range1 rfl B.range (pa_cons (pv 1) pa_nil)) (fun _ _ _ _ _ => pg_lc 0) (fun _ _ _ _ _ => pcs_nil)
        (fun _ _ _ _ _ => pe_ix ix_str (pv 2) (pe_op op_mod (pe_op op_add (pe_op op_fdiv (pv 1) pe_int) (pe_op op_mul (pv 0) (pv 3))) pe_int) (fun _ _ => rfl)))))), ?_⟩
    refine ⟨(show 6 ≤ sizeLine by rw [sizeLine_eq]; decide), fun p hp => ?_⟩
    have hm := Int.emod_nonneg sd (show (6 : Int) ≠ 0 by decide)
    have hm2 := Int.emod_lt_of_pos sd (show (0 : Int) < 6 by decide)
    refine ⟨_, rfl, _, _, rfl, rfl, (by show (0 : Int) < 6; decide), p, _, sd % 6, .int (stepL sd), rfl, rfl, SqL.of upd_same, ?_, ?_⟩
    · exact menu_at (ns := [1, 3, 5, 7, 9, 11]) hm hm2
    refine ⟨_, rfl, few, rfl, by omega, by omega, ?_⟩
    refine lc_map few (fun i => .int (0 + i)) (fun i v _ => v = .str (tx [letF sd i])) (size_small (by omega)) (fun _ _ _ _ _ r => r) ?_ ?_ ?_
    · rw [Int.toNat_natCast]
      exact jt_range
    · intro i H1 Qe hi hs kq
      have z1 := Int.emod_nonneg (sd / 6 + (0 + (i : Int)) * stepL sd) (show (26 : Int) ≠ 0 by decide)
      have z2 := Int.emod_lt_of_pos (sd / 6 + (0 + (i : Int)) * stepL sd) (show (0 : Int) < 26 by decide)
      refine ⟨_, rfl, _, rfl, _, _, rfl, rfl, ⟨by decide, by decide⟩, _, rfl, _, rfl, _, _, rfl, rfl, .inl ⟨by omega, by omega⟩, _, _, rfl, rfl, _, _, rfl, rfl, (by show (0 : Int) < 26; decide), _, _, letF sd i, rfl, rfl, ?_, ?_, kq _ _ (Same.refl _) rfl⟩
      · exact size_small (by decide)
      · refine item_at z1 ?_
        rw [letters_list, List.getElem?_map, List.getElem?_range (by omega), Int.zero_add]
        show some (((sd / 6 + (i : Int) * stepL sd) % 26).toNat + 97) = some (letF sd i)
        unfold letF
        rw [Nat.add_comm]
    · intro D1 vs H1 hlv hr1 hs1 hD1 hDl1
      have e := vs_range (f := fun i => V.str (tx [letF sd i])) hlv hr1
      exact k D1 H1 ((same_upd_new hp).trans hs1) (by rw [hDl1, e])

/-! ### the text -/
end
end Sh

set_option Elab.async false
set_option linter.all false
set_option maxRecDepth 100000
namespace L2
open PySem PySem.Spec PyProof.Rows
/-- list(d) of a dict -/
theorem call_listD {X : Cx} (hc : X.calm = true) : CallR X (.type "list") (fun xs H Q => ∃ (a : Addr) (kvs : List (Key × V)), xs = [.ref a] ∧ H a = some (.dK kvs) ∧ ∀ p, H p = none → Q (.ref p) (upd H p (.lst (kvs.map fun kv => kV kv.1)))) := by
  intro pins s σ H xs us Q I r h
  obtain ⟨a, kvs, rfl, ha, q⟩ := h
  obtain ⟨u, rfl, ru⟩ := vals1 r
  cases ru
  obtain ⟨hz, lo, vs, kv, dd⟩ := dk_of I.hok ha
  obtain ⟨ep, hat⟩ := dd.dictAt
  have hlen : kvs.length = vs.length := kv.length
  refine PySem.W.kdl_call (PySem.W.kdl_dict (knd := mixKind X.prog X.w) (kvs := vs) (ep := ep) lo) (I.ok.hd hc) hat (by omega) fun h' tk acc' c' hk hS hacc => ?_
  have hf : H s.heap.objs.size = none := I.hok.fresh (Nat.le_refl _)
  refine ⟨.ref s.heap.objs.size, _, I.laid (t' := tk) (o := .lst (kvs.map fun kv => kV kv.1)) hk (Nat.le_refl _) ?_, rfl, q _ hf⟩
  refine ⟨by rw [List.length_map]; exact hz, acc'.toList, c', ?_, by rw [hS, Array.toArray_toList]⟩
  have hsz : acc'.toList.length = kvs.length := by rw [Array.length_toList, hlen]; exact hacc.1
  have key : ∀ (ws : List V) (us : List Value), ws.length = us.length → (∀ (i : Nat) (w : V) (u : Value), ws[i]? = some w → us[i]? = some u → RelV w u) → Vals ws us := by
    intro ws
    induction ws with
    | nil =>
      intro us hl _
      have : us = [] := List.length_eq_zero_iff.mp hl.symm
      subst this
      exact .nil
    | cons w ws ih =>
      intro us hl h
      cases us with
      | nil => cases hl
      | cons u us => exact .cons (h 0 w u rfl rfl) (ih us (by simpa using hl) fun i w' u' e1 e2 => h (i + 1) w' u' e1 e2)
  refine key _ _ (by rw [List.length_map, hsz]) fun i w u e1 e2 => ?_
  obtain ⟨k, x, hx, hk⟩ := hacc.2 i u (by rw [← Array.getElem?_toList]; exact e2)
  have ek := congrArg (fun l : List Key => l[i]?) kv.keys
  simp only [List.getElem?_map] at ek
  rw [hx] at ek
  rw [List.getElem?_map] at e1
  cases ev : kvs[i]? with
  | none => rw [ev] at e1; cases e1
  | some p =>
    rw [ev] at ek e1
    have ek' : p.1 = k := Option.some.inj ek
    have e1' : kV p.1 = w := Option.some.inj e1
    subst e1'
    subst ek'
    rcases keyIs_shape hk with ⟨j, t, e3, e4⟩ | ⟨y, t, e3, e4⟩
    · rw [e3, e4]
      exact ⟨t, rfl⟩
    · rw [e3, e4]
      exact ⟨t, rfl⟩
end L2
namespace Sh
open PySem L2 PyProof.Rows
seal L2.PE L2.PS L2.PSs L2.PT L2.PW L2.PA L2.PI L2.PG L2.PGs L2.PO L2.PC L2.PCs L2.OpR L2.UnR L2.CallR L2.MtR L2.IxR L2.SlR
abbrev sLHeap : Stmt := top 30

/-! ### counting in a dict -/
def cD (ks ps : List Str) : List (Key × V) := ks.map fun x => ((Sum.inr x : Key), V.int (ps.count x))
theorem valV_ks (g : Str → V) (y : Str) : ∀ ks : List Str, valV (ks.map fun x => ((Sum.inr x : Key), g x)) (Sum.inr y) = if y ∈ ks then some (g y) else none
  | [] => rfl
  | x :: ks => by
    have ih := valV_ks g y ks
    by_cases e : x = y
    · subst e
      rw [List.map_cons, valV_pos rfl, if_pos List.mem_cons_self]
    · rw [List.map_cons, valV_neg (fun q => e (Sum.inr.inj q)), ih]
      have : (y ∈ x :: ks) ↔ y ∈ ks := by
        rw [List.mem_cons]
        exact ⟨fun h => h.elim (fun q => absurd q.symm e) id, .inr⟩
      simp only [this]
theorem put_ks_old (g : Str → V) (y : Str) (v : V) (ks : List Str) (h : y ∈ ks) : putK (ks.map fun x => ((Sum.inr x : Key), g x)) (Sum.inr y) v = ks.map fun x => ((Sum.inr x : Key), if x = y then v else g x) := by
  unfold putK
  rw [valV_any, valV_ks, if_pos h]
  simp only [Option.isSome_some, if_true, List.map_map]
  apply List.map_congr_left
  intro x _
  by_cases e : x = y
  · subst e
    simp
  · have : ¬ (Sum.inr x : Key) = Sum.inr y := fun q => e (Sum.inr.inj q)
    simp [this, e]
structure Cnt (ks ps : List Str) : Prop where
  nd : ks.Nodup
  mem : ∀ x, x ∈ ks ↔ x ∈ ps
theorem cnt_step {ks ps : List Str} (h : Cnt ks ps) (y : Str) : ∃ ks', Cnt ks' (ps ++ [y]) ∧ putK (cD ks ps) (Sum.inr y) (.int ((ps.count y : Int) + 1)) = cD ks' (ps ++ [y]) ∧ ks'.length ≤ ks.length + 1 := by
  have hc : ∀ x, (ps ++ [y]).count x = ps.count x + if y = x then 1 else 0 := fun x => by
    rw [List.count_append, List.count_singleton]
    simp [beq_iff_eq]
  by_cases m : y ∈ ks
  · refine ⟨ks, ⟨h.nd, fun x => ?_⟩, ?_, Nat.le_succ _⟩
    · rw [h.mem x, List.mem_append, List.mem_singleton]
      exact ⟨.inl, fun q => q.elim id fun e => by rw [e]; exact (h.mem y).mp m⟩
    · unfold cD
      rw [put_ks_old _ _ _ _ m]
      apply List.map_congr_left
      intro x _
      rw [hc x]
      by_cases e : x = y
      · subst e
        simp
      · have e' : ¬ y = x := fun q => e q.symm
        simp [e, e']
  · have hn : y ∉ ps := fun q => m ((h.mem y).mpr q)
    refine ⟨ks ++ [y], ⟨nd_snoc h.nd m, fun x => ?_⟩, ?_, by rw [List.length_append]; exact Nat.le_refl _⟩
    · rw [List.mem_append, List.mem_append, h.mem x]
    · unfold cD
      rw [putK_new _ (by rw [valV_ks, if_neg m]), List.map_append]
      congr 1
      · apply List.map_congr_left
        intro x hx
        rw [hc x]
        have e' : ¬ y = x := fun q => m (q ▸ hx)
        simp [e']
      · rw [List.map_singleton, hc y]
        simp
theorem nodup_le {α : Type} [DecidableEq α] : ∀ {l B : List α}, l.Nodup → (∀ x ∈ l, x ∈ B) → l.length ≤ B.length
  | [], B, _, _ => Nat.zero_le _
  | x :: l, B, nd, h => by
    have h1 := List.nodup_cons.mp nd
    have h2 := nodup_le (l := l) (B := B.erase x) h1.2 fun y hy => by
      have ne : y ≠ x := fun q => h1.1 (q ▸ hy)
      exact (List.mem_erase_of_ne ne).mpr (h y (List.mem_cons_of_mem _ hy))
    have h3 := List.length_erase_of_mem (h x List.mem_cons_self)
    have h4 : 0 < B.length := List.length_pos_of_mem (h x List.mem_cons_self)
    rw [List.length_cons]
    omega
/-! ### sorted texts -/
theorem rising_lt : ∀ (r : List Str) (p : Str), risingS p r = true → ∀ x ∈ r, ¬ x.cps.toList < p.cps.toList
  | [], _, _, x, hx => by cases hx
  | y :: r, p, h, x, hx => by
    have h' : (!Spec.ltCps y.cps.toList p.cps.toList && risingS y r) = true := h
    rw [Bool.and_eq_true, ltCps_eq] at h'
    have h1 : ¬ y.cps.toList < p.cps.toList := by
      have := h'.1
      simpa using this
    rcases List.mem_cons.mp hx with e | e
    · rw [e]
      exact h1
    · have h2 := rising_lt r y h'.2 x e
      intro q
      exact h1 (List.lt_of_le_of_lt (List.not_lt.mp h2) q)
theorem sorted_pair : ∀ (l : List Str), sortedS l = true → l.Nodup → (l.map fun x => x.cps.toList).Pairwise (· < ·)
  | [], _, _ => List.Pairwise.nil
  | p :: r, h, nd => by
    have h1 := rising_lt r p h
    have nd' := List.nodup_cons.mp nd
    rw [List.map_cons, List.pairwise_cons]
    refine ⟨fun z hz => ?_, ?_⟩
    · obtain ⟨x, hx, rfl⟩ := List.mem_map.mp hz
      have h2 := h1 x hx
      by_cases q : p.cps.toList < x.cps.toList
      · exact q
      · have e := List.le_antisymm (List.not_lt.mp h2) (List.not_lt.mp q)
        have : p = x := codes_inj e
        exact absurd (this ▸ hx) nd'.1
    · refine sorted_pair r ?_ nd'.2
      cases r with
      | nil => rfl
      | cons y q =>
        have h' : (!Spec.ltCps y.cps.toList p.cps.toList && risingS y q) = true := h
        exact (Bool.and_eq_true_iff.mp h').2
structure HeapOf (ps : List Str) (hp : List Pr) : Prop where
  srt : (hp.map fun p => p.1.cps.toList).Pairwise (· < ·)
  mem : ∀ x, x ∈ hp.map (·.1) ↔ x ∈ ps
  cnt : ∀ p ∈ hp, p.2 = ps.count p.1
section
variable {P : Program} {w : World} {K : PySem.W.Frag} {mg : Str → Option Value} {base : Heap}
def spHeap (K : PySem.W.Frag) : Sp := fun vs H Q _ => ∃ (a : Addr) (ps B : List Str), vs = [.ref a] ∧ SqL K H a (ps.map V.str) ∧ ps.length ≤ 1000 ∧ B.length ≤ 63 ∧ (∀ x ∈ ps, x ∈ B) ∧ ∀ v H' hp, Same H H' → HpAt H' v hp → HeapOf ps hp → Q v H'
theorem scHeap : FnScope ["_law_pieces_here", "_law_found", "_law_piece"] ["_law_pieces_here"] (defScope sLHeap) := ⟨rfl, rfl, rfl, by decide +kernel, rfl, by decide +kernel, by decide +kernel⟩
set_option maxHeartbeats 4000000 in
theorem ok_l_heap (D : HasDef K mg "_law_heap" sLHeap ["_law_pieces_here"]) (B : Blt mg) : FOk P w K mg base 1 "_law_heap" ["_law_pieces_here"] (spHeap K) := by
  refine D.ok scHeap (fun vs H Q E h => ?_) (fun f cdv A outer s H vs Q E hr h => ?_)
  · obtain ⟨a, ps, Bd, rfl, _⟩ := h
    rfl
  · obtain ⟨a, ps, Bd, rfl, ha, hl, hB, hsub, k⟩ := h
    have hu := hu_of hr
    refine ⟨_, pss_cons (ps_set (i := 1) scHeap.nd rfl (Or.inr rfl) pe_dnewK)
      (pss_cons (ps_for PassesOwn.never rfl (pi_list (pv 0)) (pg_name (i := 2) scHeap.nd rfl (Or.inl rfl))
        (pss_one (ps_dput hu (pv 1) (pv 2) (pe_op op_add (pe_dget2 hu (pv 1) (pv 2) pe_int ⟨rfl, rfl, rfl, rfl⟩) pe_int) rfl)))
      (pss_one (ps_ret (pe_callTy call_tuple_of rfl B.tuple b_tuple (pa_cons (pe_lcomp (defScope sLHeap) ["_law_pieces_here", "_law_found", "_law_piece"] ["_law_piece"] [1] rfl
        (pi_list (pe_callB call_sortedS rfl B.sorted b_sorted (pa_cons (pe_callTy (call_listD rfl) rfl B.list b_list (pa_cons (pv 1) pa_nil)) pa_nil))) (fun _ _ _ _ _ => pg_lc 0) (fun _ _ _ _ _ => pcs_nil)
        (fun _ _ _ _ _ => pe_tup (pa_cons (pv 0) (pa_cons (pe_dget hu (pv 1) (pv 0) (fun _ _ => rfl)) pa_nil)))) pa_nil))))), ?_⟩
    intro d hd
    have hs0 : Same H (upd H d (.dK [])) := same_upd_new hd
    refine ⟨_, rfl, a, rfl, ⟨_, hs0.seq ha⟩, for_list (K := K) (a := a) (xs := ps.map V.str) (fun i σ H2 => (∃ z : Option V, σ = [some (.ref a), some (.ref d), z]) ∧ Same H H2 ∧ ∃ ks, Cnt ks (ps.take i) ∧ ks.length ≤ i ∧ H2 d = some (.dK (cD ks (ps.take i))))
      ⟨⟨none, rfl⟩, hs0, [], ⟨List.nodup_nil, fun x => Iff.rfl⟩, Nat.le_refl _, upd_same⟩ (fun i σ H2 _ ⟨_, s2, _⟩ => s2.seq ha) ?_ ?_⟩
    · rintro i x σ H2 hi ⟨⟨z, rfl⟩, s2, ks, hk, hkl, hdd⟩
      have hi' : i < ps.length := by
        have := (List.getElem?_eq_some_iff.mp hi).1
        rw [List.length_map] at this
        exact this
      rw [List.getElem?_map, List.getElem?_eq_getElem hi'] at hi
      have ex : x = V.str ps[i] := (Option.some.inj hi).symm
      subst ex
      have hg : (valV (cD ks (ps.take i)) (Sum.inr ps[i] : Key)).getD (.int 0) = .int ((ps.take i).count ps[i]) := by
        unfold cD
        rw [valV_ks]
        split
        · rfl
        · rename_i m
          have : ps[i] ∉ ps.take i := fun q => m ((hk.mem _).mpr q)
          rw [List.count_eq_zero_of_not_mem this]
          rfl
      obtain ⟨ks', hk', ep, hl'⟩ := cnt_step hk ps[i]
      rw [← List.take_succ_eq_append_getElem hi'] at hk' ep
      refine ⟨_, rfl, d, rfl, .inl ⟨_, .inl hdd⟩, _, rfl, _, DGet.k (k := Sum.inr ps[i]) hdd, _, _, hg, rfl, _, rfl, _, rfl, d, _, rfl, DPut.k (k := Sum.inr ps[i]) hdd ?_, ?_⟩
      · unfold cD
        rw [List.length_map]
        exact small1000 (by omega)
      · refine ⟨⟨_, rfl⟩, fun b o e => ?_, ks', hk', by omega, ?_⟩
        · rw [upd_ne (ne_of_none e hd)]
          exact s2 b o e
        · rw [upd_same]
          exact congrArg (fun l => some (HO.dK l)) ep
    · rintro σ H2 ⟨⟨z, rfl⟩, s2, ks, hk, hkl, hdd⟩
      rw [List.take_of_length_le (by rw [List.length_map]; exact Nat.le_refl _)] at hk hdd
      have hk63 : ks.length ≤ 63 := Nat.le_trans (nodup_le hk.nd fun x hx => hsub x ((hk.mem x).mp hx)) hB
      refine ⟨_, rfl, d, _, rfl, hdd, fun p1 hp1 => ?_⟩
      have e1 : (cD ks ps).map (fun kv => kV kv.1) = ks.map V.str := by
        unfold cD
        rw [List.map_map]
        rfl
      refine ⟨p1, ks, rfl, SqL.of (by rw [upd_same, e1]), by omega, fun p2 ss hp2 hperm hsort => ?_⟩
      have hsA : Same H2 (upd (upd H2 p1 (.lst ((cD ks ps).map fun kv => kV kv.1))) p2 (.lst (ss.map V.str))) := (same_upd_new hp1).trans (same_upd_new hp2)
      have hsl : ss.length = ks.length := hperm.length_eq
      refine ⟨p2, rfl, ⟨_, SqL.of upd_same⟩, lc_map _ (fun i => (ss.map V.str).getD i .non) (fun i v H => ∀ x, ss[i]? = some x → PairAt H v (x, (ps.count x : Int))) (by rw [List.length_map]; exact size_small (by omega)) (fun i v H H' ts r x e => (r x e).same ts) (jt_list (SqL.of upd_same)) ?_ ?_⟩
      · intro i H3 Qe hi hs kq
        have hi' : i < ss.length := by rw [List.length_map] at hi; exact hi
        have hd3 : H3 d = some (.dK (cD ks ps)) := hs _ _ (hsA _ _ hdd)
        have hmem : ss[i] ∈ ks := hperm.mem_iff.mp (List.getElem_mem hi')
        rw [strs_get hi']
        have hg : DGet H3 d (.str ss[i]) (some (.int (ps.count ss[i]))) := by
          have := DGet.k (k := Sum.inr ss[i]) hd3
          unfold cD at this
          rw [valV_ks, if_pos hmem] at this
          exact this
        refine ⟨_, rfl, _, rfl, _, rfl, d, _, rfl, hg, (show 2 ≤ sizeLine by rw [sizeLine_eq]; decide), fun t ht => kq _ _ (same_upd_new ht) ?_⟩
        intro x e
        rw [List.getElem?_eq_getElem hi'] at e
        cases e
        exact ⟨t, rfl, upd_same⟩
      · intro D1 vs1 H3 hlv1 hr1 hs3 hD1 hDl1
        rw [List.length_map] at hlv1
        refine ⟨D1, vs1, rfl, .inl ⟨SqL.of hDl1, fun l hl0 => ?_⟩⟩
        refine k (.ref l) _ (ss.map fun x => (x, (ps.count x : Int))) (((s2.trans hsA).trans hs3).trans (same_upd_new hl0)) ?_ ⟨?_, ?_, ?_⟩
        · refine ⟨l, vs1, rfl, upd_same, by rw [List.length_map]; exact hlv1, fun i p e => ?_⟩
          rw [List.getElem?_map] at e
          cases ex : ss[i]? with
          | none => rw [ex] at e; cases e
          | some x =>
            rw [ex] at e
            cases e
            have hi : i < vs1.length := by
              have := (List.getElem?_eq_some_iff.mp ex).1
              omega
            rw [List.getD_eq_getElem?_getD, List.getElem?_eq_getElem hi]
            exact (hr1 i _ (List.getElem?_eq_getElem hi) x ex).same (same_upd_new hl0).tup
        · rw [List.map_map]
          exact sorted_pair ss hsort (hperm.nodup_iff.mpr hk.nd)
        · intro x
          rw [List.map_map]
          have : ss.map ((·.1) ∘ fun x => (x, (ps.count x : Int))) = ss := by
            conv => rhs; rw [← List.map_id ss]
            exact List.map_congr_left fun _ _ => rfl
          rw [this, hperm.mem_iff, hk.mem]
        · intro p hp
          obtain ⟨x, _, rfl⟩ := List.mem_map.mp hp
          rfl
end
end Sh

set_option Elab.async false
set_option linter.all false
set_option maxRecDepth 100000
namespace L2
open PySem PySem.Spec PyProof.Rows
end L2
namespace Sh
open PySem L2 PyProof.Rows

/-! ### pieces of a text -/
structure Per (T : List Nat) (p : Nat) (g : Nat → Nat) : Prop where
  lo : 1 ≤ p
  hi : p ≤ 63
  at' : ∀ i, i < T.length → T[i]? = some (g (i % p))
/-! ### the heap of the pieces -/
theorem ind_sum (y : Str) : ∀ ks : List Str, ks.Nodup → (ks.map fun x => if y = x then (1 : Int) else 0).sum = if y ∈ ks then 1 else 0
  | [], _ => rfl
  | x :: ks, nd => by
    have h1 := List.nodup_cons.mp nd
    have ih := ind_sum y ks h1.2
    rw [List.map_cons, List.sum_cons, ih]
    by_cases e : y = x
    · subst e
      rw [if_pos rfl, if_neg h1.1, if_pos List.mem_cons_self]
      rfl
    · have : (y ∈ x :: ks) ↔ y ∈ ks := by
        rw [List.mem_cons]
        exact ⟨fun h => h.elim (fun q => absurd q e) id, .inr⟩
      simp only [this]
      rw [if_neg e]
      omega
theorem sum_add (f g : Str → Int) : ∀ ks : List Str, (ks.map fun x => f x + g x).sum = (ks.map f).sum + (ks.map g).sum
  | [] => rfl
  | x :: ks => by
    have ih := sum_add f g ks
    simp only [List.map_cons, List.sum_cons]
    omega
theorem count_sum : ∀ (ps ks : List Str), ks.Nodup → (∀ x ∈ ps, x ∈ ks) → (ks.map fun x => (ps.count x : Int)).sum = ps.length
  | [], ks, _, _ => by
    have : ∀ ks : List Str, (ks.map fun x => ((([] : List Str).count x : Nat) : Int)).sum = 0 := by
      intro ks
      induction ks with
      | nil => rfl
      | cons x ks ih => rw [List.map_cons, List.sum_cons, ih]; rfl
    rw [this]
    rfl
  | y :: ps, ks, nd, h => by
    have ih := count_sum ps ks nd fun x hx => h x (List.mem_cons_of_mem _ hx)
    have e : (fun x => ((y :: ps).count x : Int)) = fun x => (ps.count x : Int) + if y = x then (1 : Int) else 0 := by
      funext x
      rw [List.count_cons]
      by_cases q : y = x
      · subst q
        simp
      · have q' : ¬ (y == x) = true := by simpa using q
        simp [q, q']
    rw [e, sum_add, ih, ind_sum y ks nd, if_pos (h y List.mem_cons_self)]
    rw [List.length_cons]
    omega
end Sh

set_option Elab.async false
set_option linter.all false
set_option maxRecDepth 100000
namespace Sh
open PySem L2 PyProof.Rows
seal L2.PE L2.PS L2.PSs L2.PT L2.PW L2.PA L2.PI L2.PG L2.PGs L2.PO L2.PC L2.PCs L2.OpR L2.UnR L2.CallR L2.MtR L2.IxR L2.SlR

theorem emod_bd (a : Int) {n : Int} (h : 0 < n) : 0 ≤ a % n ∧ a % n < n := ⟨Int.emod_nonneg _ (by omega), Int.emod_lt_of_pos _ h⟩
/-! ### the small heap of one piece -/

section
variable {P : Program} {w : World} {K : PySem.W.Frag} {mg : Str → Option Value} {base : Heap}
end
end Sh

set_option Elab.async false
set_option linter.all false
set_option maxRecDepth 100000
namespace L2
open PySem PySem.Spec PyProof.Rows
end L2
namespace Sh
open PySem L2 PyProof.Rows
seal L2.PE L2.PS L2.PSs L2.PT L2.PW L2.PA L2.PI L2.PG L2.PGs L2.PO L2.PC L2.PCs L2.OpR L2.UnR L2.CallR L2.MtR L2.IxR L2.SlR
abbrev sInRows : Stmt := top 21
abbrev sCounted : Stmt := top 22
section
variable {P : Program} {w : World} {K : PySem.W.Frag} {mg : Str → Option Value} {base : Heap}
/-! ### in_rows -/
abbrev nInRows : List Str := ["manys"]
theorem scInRows : FnScope nInRows ["manys"] (defScope sInRows) := ⟨rfl, rfl, rfl, by decide +kernel, rfl, by decide +kernel, by decide +kernel⟩
def spRows : Sp := fun vs H Q _ => ∃ (d : Addr) (ks : List Str) (g : Str → Int), vs = [.ref d] ∧ H d = some (.dK (ks.map fun x => ((Sum.inr x : Key), V.int (g x)))) ∧ ks.Nodup ∧ ks.length < 64 ∧
  ∀ v H' (ss : List Str), Same H H' → ss.Perm ks → (ss.map fun x => x.cps.toList).Pairwise (· < ·) → HpAt H' v (ss.map fun x => (x, g x)) → Q v H'
theorem ok_in_rows (D : HasDef K mg "in_rows" sInRows ["manys"]) (B : Blt mg) : FOk P w K mg base 1 "in_rows" ["manys"] spRows := by
  refine D.ok scInRows (fun vs H Q E h => ?_) (fun f cdv A outer s H vs Q E hr h => ?_)
  · obtain ⟨d, ks, g, rfl, _⟩ := h
    rfl
  · obtain ⟨d, ks, g, rfl, hd, nd, h64, k⟩ := h
    refine ⟨_, (pss_one (ps_ret (pe_callTy call_tuple_of rfl B.tuple b_tuple (pa_cons (pe_callB (call_sortedI rfl) rfl B.sorted b_sorted (pa_cons (pe_items (pv 0)) pa_nil)) pa_nil)))), ?_⟩
    refine ⟨_, rfl, d, _, rfl, hd, fun p hp => ⟨p, d, ks, fun x => .int (g x), rfl, upd_same, same_upd_new hp _ _ hd, nd, h64, fun D1 H1 vs ss hs1 hperm hsrt hD1 hl hv => ?_⟩⟩
    refine ⟨D1, vs, rfl, .inl ⟨SqL.of hD1, fun l hl0 => ?_⟩⟩
    refine k _ _ ss (((same_upd_new hp).trans hs1).trans (same_upd_new hl0)) hperm hsrt ⟨l, vs, rfl, upd_same, by rw [List.length_map]; exact hl, fun i q e => ?_⟩
    rw [List.getElem?_map] at e
    cases ex : ss[i]? with
    | none => rw [ex] at e; cases e
    | some x =>
      rw [ex] at e
      cases e
      obtain ⟨b, e1, e2⟩ := hv i x ex
      rw [List.getD_eq_getElem?_getD, e1]
      exact ⟨b, rfl, same_upd_new hl0 _ _ e2⟩
/-! ### counted -/
abbrev nCounted : List Str := ["pieces", "manys", "piece"]
theorem scCounted : FnScope nCounted ["pieces"] (defScope sCounted) := ⟨rfl, rfl, rfl, by decide +kernel, rfl, by decide +kernel, by decide +kernel⟩
end
end Sh

set_option Elab.async false
set_option linter.all false
set_option maxRecDepth 100000
namespace Sh
open PySem L2 PyProof.Rows
seal L2.PE L2.PS L2.PSs L2.PT L2.PW L2.PA L2.PI L2.PG L2.PGs L2.PO L2.PC L2.PCs L2.OpR L2.UnR L2.CallR L2.MtR L2.IxR L2.SlR

/-! ### heaps are one -/
theorem sorted_one : ∀ {l m : List (List Nat)}, l.Pairwise (· < ·) → m.Pairwise (· < ·) → (∀ x, x ∈ l ↔ x ∈ m) → l = m
  | [], [], _, _, _ => rfl
  | [], y :: m, _, _, h => absurd ((h y).mpr List.mem_cons_self) (by simp)
  | x :: l, [], _, _, h => absurd ((h x).mp List.mem_cons_self) (by simp)
  | x :: l, y :: m, hl, hm, h => by
    have h1 := List.pairwise_cons.mp hl
    have h2 := List.pairwise_cons.mp hm
    have e : x = y := by
      rcases List.mem_cons.mp ((h x).mp List.mem_cons_self) with z | z
      · exact z
      · rcases List.mem_cons.mp ((h y).mpr List.mem_cons_self) with z2 | z2
        · exact z2.symm
        · exact absurd (List.lt_trans (h1.1 y z2) (h2.1 x z)) (List.lt_irrefl _)
    subst e
    have ih := sorted_one h1.2 h2.2 fun z => by
      constructor
      · intro hz
        rcases List.mem_cons.mp ((h z).mp (List.mem_cons_of_mem _ hz)) with q | q
        · subst q
          exact absurd (h1.1 z hz) (List.lt_irrefl _)
        · exact q
      · intro hz
        rcases List.mem_cons.mp ((h z).mpr (List.mem_cons_of_mem _ hz)) with q | q
        · subst q
          exact absurd (h2.1 z hz) (List.lt_irrefl _)
        · exact q
    rw [ih]
theorem heap_one {ps : List Str} {h1 h2 : List Pr} (a : HeapOf ps h1) (b : HeapOf ps h2) : h1 = h2 := by
  have mem : ∀ (h : List Pr), HeapOf ps h → ∀ x, x ∈ (h.map fun p => p.1.cps.toList) ↔ ∃ z ∈ ps, z.cps.toList = x := fun h hh x => by
    constructor
    · intro q
      obtain ⟨p, hp, e⟩ := List.mem_map.mp q
      exact ⟨p.1, (hh.mem p.1).mp (List.mem_map.mpr ⟨p, hp, rfl⟩), e⟩
    · rintro ⟨z, hz, e⟩
      obtain ⟨p, hp, e2⟩ := List.mem_map.mp ((hh.mem z).mpr hz)
      exact List.mem_map.mpr ⟨p, hp, by rw [e2, e]⟩
  have e := sorted_one a.srt b.srt fun x => (mem h1 a x).trans (mem h2 b x).symm
  have hl : h1.length = h2.length := by have := congrArg List.length e; simpa using this
  apply List.ext_getElem hl
  intro i hi1 hi2
  have e1 : h1[i].1.cps.toList = h2[i].1.cps.toList := by
    have := congrArg (fun l : List (List Nat) => l[i]?) e
    simpa [hi1, hi2] using this
  have e2 : h1[i].1 = h2[i].1 := codes_inj e1
  have e3 : h1[i].2 = h2[i].2 := by rw [a.cnt _ (List.getElem_mem hi1), b.cnt _ (List.getElem_mem hi2), e2]
  exact Prod.ext e2 e3

/-! ### a text, as the law draws it -/
structure TextIs (T : List Nat) : Prop where
  lo : 1 ≤ T.length
  hi : T.length ≤ 300
  ok : T.all okSign = true
  per : ∃ p g, Per T p g
theorem TextIs.size {T : List Nat} (h : TextIs T) : (tx T).length ≤ sizeLine := by
  have h2 := h.hi
  rw [tx_len]
  exact size_small (by omega)

section
variable {P : Program} {w : World} {K : PySem.W.Frag} {mg : Str → Option Value} {base : Heap}
/-! ### torn -/

/-! ### things that are no text -/

/-! ### things that are no long -/
end
end Sh

set_option Elab.async false
set_option linter.all false
set_option maxRecDepth 100000
namespace Sh
open PySem L2 PyProof.Rows
seal L2.PE L2.PS L2.PSs L2.PT L2.PW L2.PA L2.PI L2.PG L2.PGs L2.PO L2.PC L2.PCs L2.OpR L2.UnR L2.CallR L2.MtR L2.IxR L2.SlR
section
variable {P : Program} {w : World} {K : PySem.W.Frag} {mg : Str → Option Value} {base : Heap}
/-! ### are_pieces of any row -/
def lenV : V → Nat
  | .str z => z.length
  | _ => 0
def areV (ys : List V) : Bool := !ys.isEmpty && ys.all isTextV && ys.all fun y => decide (lenV y = lenV (ys.headD .non))
structure RowIs (H : Hp) (ys : List V) : Prop where
  few : ys.length ≤ 100000
  ty : ∀ y ∈ ys, ∃ n, TyB H y n
  len : ∀ y ∈ ys, ∀ z, y = .str z → z.length ≤ 100000
theorem RowIs.same {H H' : Hp} {ys : List V} (s : Same H H') (h : RowIs H ys) : RowIs H' ys := ⟨h.few, fun y m => (h.ty y m).imp fun n t => t.same s, h.len⟩
abbrev nArePieces : List Str := ["things"]
abbrev sArePieces : Stmt := top 18
theorem scArePieces : FnScope nArePieces ["things"] (defScope sArePieces) := ⟨rfl, rfl, rfl, by decide +kernel, rfl, by decide +kernel, by decide +kernel⟩
def spAreA : Sp := fun vs H Q _ => ∃ (a : Addr) (ys : List V), vs = [.ref a] ∧ SeqAt' H a ys ∧ RowIs H ys ∧ ∀ H', Same H H' → Q (.bl (areV ys)) H'
theorem bools_of {vs ys : List V} {g : V → Bool} (hl : vs.length = ys.length) (hr : ∀ (i : Nat) (v : V), vs[i]? = some v → v = V.bl (g (ys.getD i .non))) : vs = (ys.map g).map V.bl := by
  apply List.ext_getElem?
  intro i
  by_cases hi : i < vs.length
  · have hi' : i < ys.length := by omega
    rw [List.getElem?_eq_getElem hi, hr i _ (List.getElem?_eq_getElem hi), List.getElem?_map, List.getElem?_map, List.getElem?_eq_getElem hi', List.getD_eq_getElem?_getD, List.getElem?_eq_getElem hi']
    rfl
  · rw [List.getElem?_eq_none (by omega), List.getElem?_eq_none (by rw [List.length_map, List.length_map]; omega)]
theorem getD_mem {ys : List V} {i : Nat} (h : i < ys.length) : ys.getD i .non ∈ ys := by
  rw [List.getD_eq_getElem?_getD, List.getElem?_eq_getElem h]
  exact List.getElem_mem h
set_option maxHeartbeats 4000000 in
theorem ok_are_piecesA (D : HasDef K mg "are_pieces" sArePieces ["things"]) (B : Blt mg) (G_is_text : FOk P w K mg base 3 "is_text" ["thing"] spText) : FOk P w K mg base 4 "are_pieces" ["things"] spAreA := by
  refine D.ok scArePieces (fun vs H Q E h => ?_) (fun f cdv A outer s H vs Q E hr h => ?_)
  · obtain ⟨a, ys, rfl, _⟩ := h
    rfl
  · obtain ⟨a, ys, rfl, ha, hR, k⟩ := h
    have hfew := hR.few
    refine ⟨_, (pss_cons (ps_if (PW.pt (pw_or (pt_cmpR op_eq (pe_callB call_len rfl B.len b_len (pa_cons (pv 0) pa_nil)) pe_int (nomark _)) (pw_or1 (pt_not (pt_val (pe_callB (call_allL rfl) rfl B.all b_all (pa_cons (pe_lcomp (defScope sArePieces) nArePieces ["thing"] [] rfl (pi_or (pi_list (pv 0)) (pi_tup (pv 0))) (fun _ _ _ _ _ => pg_lc 0) (fun _ _ _ _ _ => pcs_nil) (fun _ _ _ _ _ => (pe_fn G_is_text hr (pa_cons (pv 0) pa_nil)))) pa_nil))))))) (pss_one (ps_ret pe_bl)) pss_nil)
      (pss_one (ps_ret (pe_callB (call_allL rfl) rfl B.all b_all (pa_cons (pe_lcomp (defScope sArePieces) nArePieces ["piece"] [0] rfl (pi_or (pi_list (pv 0)) (pi_tup (pv 0))) (fun _ _ _ _ _ => pg_lc 0) (fun _ _ _ _ _ => pcs_nil) (fun _ _ _ _ _ => (pe_cmpR op_eq (pe_callB (call_lenK K) rfl B.len b_len (pa_cons (pv 0) pa_nil)) (pe_callB (call_lenK K) rfl B.len b_len (pa_cons (pe_ix (ix_seqK K) (pv 1) pe_int (fun _ _ => rfl)) pa_nil)) (nomark _)))) pa_nil))))), ?_⟩
    refine ⟨_, rfl, .ref a, _, rfl, len_seq ha, rfl, _, rfl, ?_⟩
    by_cases h0 : ys.length = 0
    · have e : ys = [] := List.length_eq_zero_iff.mp h0
      subst e
      exact iteP rfl (iteT (k H (Same.refl H)))
    refine iteM (int_ne (by omega)) ?_
    refine iSeq_var rfl ha fun J hJ => lc_map ys.length (fun i => ys.getD i .non) (fun i v _ => v = .bl (isTextV (ys.getD i .non))) (size_small (Nat.le_trans hfew (by decide))) (fun _ _ _ _ _ r => r) hJ ?_ ?_
    · intro i H1 Qe hi hs kq
      have hm := getD_mem hi
      obtain ⟨n, ty⟩ := hR.ty _ hm
      exact ⟨_, rfl, _, n, rfl, ty.same hs, fun z e => size_small (Nat.le_trans (hR.len _ hm z e) (by decide)), fun H6 hs6 => kq _ _ hs6 rfl⟩
    intro D1 vs1 H1 hlv1 hr1 hs1 hD1 hDl1
    have e1 := bools_of (g := isTextV) hlv1 hr1
    refine ⟨D1, ys.map isTextV, rfl, SqL.of (by rw [hDl1, e1]), _, rfl, ?_⟩
    have ne : ys.isEmpty = false := by
      cases ys with
      | nil => exact absurd rfl h0
      | cons y r => rfl
    cases eb : ys.all isTextV with
    | false =>
      have : (ys.map isTextV).all id = false := by rw [List.all_map]; exact eb
      rw [this]
      refine iteT ?_
      have e : areV ys = false := by unfold areV; rw [eb, Bool.and_false, Bool.false_and]
      rw [← e]
      exact k H1 hs1
    | true =>
      have : (ys.map isTextV).all id = true := by rw [List.all_map]; exact eb
      rw [this]
      refine iteF ?_
      have ha1 := ha.same hs1
      have hstr : ∀ i, i < ys.length → ∃ z, ys.getD i .non = .str z ∧ z.length ≤ sizeLine := fun i hi => by
        have hm := getD_mem hi
        have ht := List.all_eq_true.mp eb _ hm
        cases ec : ys.getD i .non with
        | str z => exact ⟨z, rfl, size_small (Nat.le_trans (hR.len _ hm z ec) (by decide))⟩
        | _ => rw [ec] at ht; cases ht
      obtain ⟨z0, ez0, lz0⟩ := hstr 0 (by omega)
      have hd0 : ys.headD .non = .str z0 := by
        cases ys with
        | nil => exact absurd rfl h0
        | cons y r => exact ez0
      have at0 : atI ys 0 = some (.str z0) := by
        rw [← ez0]
        exact atI_nat (j := 0) (by rw [List.getD_eq_getElem?_getD, List.getElem?_eq_getElem (show 0 < ys.length by omega)]; rfl)
      refine iSeq_var rfl ha1 fun J hJ => lc_map ys.length (fun i => ys.getD i .non) (fun i v _ => v = .bl (decide (lenV (ys.getD i .non) = lenV (ys.headD .non)))) (size_small (Nat.le_trans hfew (by decide))) (fun _ _ _ _ _ r => r) hJ ?_ ?_
      · intro i H2 Qe hi hs kq
        obtain ⟨z, ez, lz⟩ := hstr i hi
        rw [ez]
        refine ⟨_, rfl, .str z, _, rfl, ⟨lz, rfl⟩, _, rfl, seq_ix (ha1.same hs) at0 ⟨.str z0, _, rfl, ⟨lz0, rfl⟩, rfl, kq _ _ (Same.refl _) ?_⟩⟩
        rw [hd0, ez]
        show V.bl (decide (V.int (z.length : Int) = V.int (z0.length : Int))) = V.bl (decide (z.length = z0.length))
        congr 1
        rw [Bool.eq_iff_iff, decide_eq_true_eq, decide_eq_true_eq]
        constructor
        · intro q
          injection q with q
          omega
        · intro q
          rw [q]
      intro D2 vs2 H2 hlv2 hr2 hs2 hD2 hDl2
      have e2 := bools_of (g := fun y => decide (lenV y = lenV (ys.headD .non))) hlv2 hr2
      refine ⟨D2, _, rfl, SqL.of (by rw [hDl2, e2]), ?_⟩
      have e : areV ys = (ys.map fun y => decide (lenV y = lenV (ys.headD .non))).all id := by
        unfold areV
        rw [eb, ne, List.all_map]
        rfl
      rw [← e]
      exact k H2 (hs1.trans hs2)
/-! ### counted, of a list or a tuple -/
abbrev nCountedS : List Str := ["pieces", "manys", "piece"]
def spCntA : Sp := fun vs H Q _ => ∃ (a : Addr) (ps B : List Str), vs = [.ref a] ∧ SeqAt' H a (ps.map V.str) ∧ ps.length ≤ 1000 ∧ B.length ≤ 63 ∧ (∀ x ∈ ps, x ∈ B) ∧ ∀ v H' hp, Same H H' → HpAt H' v hp → HeapOf ps hp → Q v H'
set_option maxHeartbeats 4000000 in
theorem ok_countedA (D : HasDef K mg "counted" sCounted ["pieces"]) (B : Blt mg) (G1 : FOk P w K mg base 1 "in_rows" ["manys"] spRows) : FOk P w K mg base 2 "counted" ["pieces"] spCntA := by
  refine D.ok scCounted (fun vs H Q E h => ?_) (fun f cdv A outer s H vs Q E hr h => ?_)
  · obtain ⟨a, ps, Bd, rfl, _⟩ := h
    rfl
  · obtain ⟨a, ps, Bd, rfl, ha, hl, hB, hsub, k⟩ := h
    have hu := hu_of hr
    refine ⟨_, (pss_cons (ps_set (i := 1) scCounted.nd rfl (Or.inl rfl) pe_dnewK)
      (pss_cons (ps_for PassesOwn.never rfl (pi_or (pi_list (pv 0)) (pi_tup (pv 0))) (pg_name (i := 2) scCounted.nd rfl (Or.inl rfl))
        (pss_one (ps_dput hu (pv 1) (pv 2) (pe_op op_add (pe_dget2 hu (pv 1) (pv 2) pe_int ⟨rfl, rfl, rfl, rfl⟩) pe_int) rfl)))
      (pss_one (ps_ret (pe_fn G1 hr (pa_cons (pv 1) pa_nil)))))), ?_⟩
    intro d hd
    have hs0 : Same H (upd H d (.dK [])) := same_upd_new hd
    refine iSeq_at rfl (ha.same hs0) fun J o ho hJ => for_seq hJ (fun i σ H2 => (∃ z : Option V, σ = [some (.ref a), some (.ref d), z]) ∧ Same H H2 ∧ ∃ ks, Cnt ks (ps.take i) ∧ ks.length ≤ i ∧ H2 d = some (.dK (cD ks (ps.take i))))
      ⟨⟨none, rfl⟩, hs0, [], ⟨List.nodup_nil, fun x => Iff.rfl⟩, Nat.le_refl _, upd_same⟩ ?_ ?_ ?_
    · rintro i σ H2 ⟨_, s2, _⟩
      have hdne : a ≠ d := by
        rintro rfl
        rcases ha with q | q <;> rw [hd] at q <;> cases q
      rw [upd_ne hdne] at ho
      exact s2 _ _ ho
    · rintro i x σ H2 hi ⟨⟨z, rfl⟩, s2, ks, hk, hkl, hdd⟩
      have hi' : i < ps.length := by
        have := (List.getElem?_eq_some_iff.mp hi).1
        rw [List.length_map] at this
        exact this
      rw [List.getElem?_map, List.getElem?_eq_getElem hi'] at hi
      have ex : x = V.str ps[i] := (Option.some.inj hi).symm
      subst ex
      have hg : (valV (cD ks (ps.take i)) (Sum.inr ps[i] : Key)).getD (.int 0) = .int ((ps.take i).count ps[i]) := by
        unfold cD
        rw [valV_ks]
        split
        · rfl
        · rename_i m
          have : ps[i] ∉ ps.take i := fun q => m ((hk.mem _).mpr q)
          rw [List.count_eq_zero_of_not_mem this]
          rfl
      obtain ⟨ks', hk', ep, hl'⟩ := cnt_step hk ps[i]
      rw [← List.take_succ_eq_append_getElem hi'] at hk' ep
      refine ⟨_, rfl, d, rfl, .inl ⟨_, .inl hdd⟩, _, rfl, _, DGet.k (k := Sum.inr ps[i]) hdd, _, _, hg, rfl, _, rfl, _, rfl, d, _, rfl, DPut.k (k := Sum.inr ps[i]) hdd ?_, ?_⟩
      · unfold cD
        rw [List.length_map]
        exact small1000 (by omega)
      · refine ⟨⟨_, rfl⟩, fun b o e => ?_, ks', hk', by omega, ?_⟩
        · rw [upd_ne (ne_of_none e hd)]
          exact s2 b o e
        · rw [upd_same]
          exact congrArg (fun l => some (HO.dK l)) ep
    · rintro σ H2 ⟨⟨z, rfl⟩, s2, ks, hk, hkl, hdd⟩
      rw [List.take_of_length_le (by rw [List.length_map]; exact Nat.le_refl _)] at hk hdd
      have hk63 : ks.length ≤ 63 := Nat.le_trans (nodup_le hk.nd fun x hx => hsub x ((hk.mem x).mp hx)) hB
      refine ⟨_, rfl, d, ks, fun x => (ps.count x : Int), rfl, hdd, hk.nd, by omega, fun v H3 ss hs3 hperm hsrt hA => ?_⟩
      refine k v H3 _ (s2.trans hs3) hA ⟨?_, ?_, ?_⟩
      · rw [List.map_map]
        exact hsrt
      · intro x
        rw [List.map_map]
        have : ss.map ((·.1) ∘ fun x => (x, (ps.count x : Int))) = ss := by
          conv => rhs; rw [← List.map_id ss]
          exact List.map_congr_left fun _ _ => rfl
        rw [this, hperm.mem_iff, hk.mem]
      · intro p hp
        obtain ⟨x, _, rfl⟩ := List.mem_map.mp hp
        rfl
end
end Sh

set_option Elab.async false
set_option linter.all false
set_option maxRecDepth 100000
namespace Sh
open PySem L2 PyProof.Rows
seal L2.PE L2.PS L2.PSs L2.PT L2.PW L2.PA L2.PI L2.PG L2.PGs L2.PO L2.PC L2.PCs L2.OpR L2.UnR L2.CallR L2.MtR L2.IxR L2.SlR
/-! ### dicts of texts and numbers, by their keys -/
def gD (ks : List Str) (g : Str → Int) : List (Key × V) := ks.map fun x => ((Sum.inr x : Key), V.int (g x))
theorem gD_len (ks : List Str) (g : Str → Int) : (gD ks g).length = ks.length := by unfold gD; rw [List.length_map]
theorem gD_val (ks : List Str) (g : Str → Int) (y : Str) : valV (gD ks g) (Sum.inr y) = if y ∈ ks then some (.int (g y)) else none := valV_ks (fun x => V.int (g x)) y ks
theorem gD_congr {ks : List Str} {g g' : Str → Int} (h : ∀ x ∈ ks, g x = g' x) : gD ks g = gD ks g' := by
  unfold gD
  exact List.map_congr_left fun x m => by rw [h x m]
theorem gD_put (ks : List Str) (g : Str → Int) (y : Str) (n : Int) : putK (gD ks g) (Sum.inr y) (.int n) = gD (if y ∈ ks then ks else ks ++ [y]) fun x => if x = y then n else g x := by
  by_cases m : y ∈ ks
  · rw [if_pos m]
    unfold gD
    rw [put_ks_old _ _ _ _ m]
    apply List.map_congr_left
    intro x _
    dsimp only
    by_cases e : x = y
    · rw [if_pos e, if_pos e]
    · rw [if_neg e, if_neg e]
  · rw [if_neg m, putK_new _ (by rw [gD_val, if_neg m])]
    unfold gD
    rw [List.map_append, List.map_singleton]
    dsimp only
    rw [if_pos rfl]
    congr 1
    apply List.map_congr_left
    intro x hx
    have ne : ¬ x = y := by
      intro e
      rw [e] at hx
      exact m hx
    rw [if_neg ne]
theorem gD_drop (ks : List Str) (g : Str → Int) (y : Str) : dropK (gD ks g) (Sum.inr y) = gD (ks.filter fun x => decide (x ≠ y)) g := by
  unfold dropK gD
  induction ks with
  | nil => rfl
  | cons x ks ih =>
    rw [List.map_cons, List.filter_cons, List.filter_cons, ih]
    by_cases e : x = y
    · subst e
      simp
    · have h1 : decide ((Sum.inr x : Key) ≠ Sum.inr y) = true := decide_eq_true fun q => e (by injection q)
      have h2 : decide (x ≠ y) = true := decide_eq_true e
      rw [if_pos h1, if_pos h2, List.map_cons]
theorem heap_gD {ps : List Str} {hp : List Pr} (h : HeapOf ps hp) : (hp.map fun p => ((Sum.inr p.1 : Key), V.int p.2)) = gD (hp.map (·.1)) fun x => (ps.count x : Int) := by
  unfold gD
  rw [List.map_map]
  exact List.map_congr_left fun p m => by rw [h.cnt p m]; rfl
theorem heap_nd {ps : List Str} {hp : List Pr} (h : HeapOf ps hp) : (hp.map (·.1)).Nodup := by
  have h1 := h.srt
  rw [List.pairwise_map] at h1
  exact List.pairwise_map.mpr (h1.imp fun {a b} q e => by
    have e' : a.1 = b.1 := e
    rw [e'] at q
    exact absurd q (List.lt_irrefl _))
theorem keys_nd' {ks : List Str} {g : Str → Int} (h : ks.Nodup) : ((gD ks g).map (·.1)).Nodup := by
  unfold gD
  rw [List.map_map]
  exact List.pairwise_map.mpr (h.imp fun {a b} q e => q (by
    have e' : (Sum.inr a : Key) = Sum.inr b := e
    injection e'))
theorem heap_of_rows {ss ks ps : List Str} {g : Str → Int} (hperm : ss.Perm ks) (hsrt : (ss.map fun x => x.cps.toList).Pairwise (· < ·)) (hm : ∀ x, x ∈ ks ↔ x ∈ ps) (hg : ∀ x ∈ ks, g x = ps.count x) : HeapOf ps (ss.map fun x => (x, g x)) := by
  refine ⟨?_, fun x => ?_, fun p m => ?_⟩
  · rw [List.map_map]
    exact hsrt
  · rw [List.map_map]
    have : ss.map ((·.1) ∘ fun x => (x, g x)) = ss := by
      conv => rhs; rw [← List.map_id ss]
      exact List.map_congr_left fun _ _ => rfl
    rw [this, hperm.mem_iff, hm]
  · obtain ⟨x, mx, rfl⟩ := List.mem_map.mp m
    exact hg x (hperm.mem_iff.mp mx)
/-- the argument of dict(..) -/
theorem hp_pairs {H : Hp} {v : V} {hp : List Pr} (h : HpAt H v hp) : ∃ a xs, v = .ref a ∧ H a = some (.tup xs) ∧ xs.length = hp.length ∧ ∀ (i : Nat) p, hp[i]? = some p → ∃ b, xs[i]? = some (.ref b) ∧ H b = some (.tup [.str p.1, .int p.2]) := by
  obtain ⟨a, xs, rfl, ha, hl, hr⟩ := h
  refine ⟨a, xs, rfl, ha, hl, fun i p e => ?_⟩
  obtain ⟨b, e1, e2⟩ := hr i p e
  have hi : i < xs.length := by rw [hl]; exact (List.getElem?_eq_some_iff.mp e).1
  rw [List.getD_eq_getElem?_getD, List.getElem?_eq_getElem hi] at e1
  exact ⟨b, by rw [List.getElem?_eq_getElem hi]; exact congrArg some e1, e2⟩
section
variable {P : Program} {w : World} {K : PySem.W.Frag} {mg : Str → Option Value} {base : Heap}
abbrev sHeapOf : Stmt := top 23
abbrev sHeaped : Stmt := top 24
abbrev sLessOne : Stmt := top 25
/-! ### heap_of -/
abbrev nHeapOf : List Str := ["pieces"]
theorem scHeapOf : FnScope nHeapOf ["pieces"] (defScope sHeapOf) := ⟨rfl, rfl, rfl, by decide +kernel, rfl, by decide +kernel, by decide +kernel⟩
structure RowOk (ps : List Str) (L : Nat) : Prop where
  ne : ps ≠ []
  lo : 1 ≤ L
  len : ∀ p ∈ ps, p.length = L
  sg : ∀ p ∈ ps, p.cps.toList.all okSign = true
  few : ps.length + L ≤ 301
/-- no row of pieces, or too long a row -/
inductive NoRow (H : Hp) : V → Prop
  | kind {x : V} {n : String} (h : TyB H x n) (h1 : isiB n "tuple" = false) (h2 : isiB n "list" = false) : NoRow H x
  | bad {a : Addr} {ys : List V} (h : SeqAt' H a ys) (hR : RowIs H ys) (hb : areV ys = false) : NoRow H (.ref a)
  | many {a : Addr} {ps : List Str} {L : Nat} (h : SeqAt' H a (ps.map V.str)) (hl : ps.length ≤ 1000) (hA : areV (ps.map V.str) = true) (hL : ∀ p ∈ ps, p.length = L) (hz : L ≤ 300) (hb : 301 < ps.length + L) : NoRow H (.ref a)
def spHeapOf (C : Addr) : Sp := fun vs H Q E => ∃ x : V, vs = [x] ∧ ((NoRow H x ∧ ∀ H', Same H H' → E (.ref C) none H') ∨
  ∃ (a : Addr) (ps B : List Str) (L : Nat), x = .ref a ∧ SeqAt' H a (ps.map V.str) ∧ RowOk ps L ∧ B.length ≤ 63 ∧ (∀ p ∈ ps, p ∈ B) ∧ ∀ v H' hp, Same H H' → HpAt H' v hp → HeapOf ps hp → Q v H')
theorem row_is {H : Hp} {ps : List Str} {L : Nat} (h1 : ps.length ≤ 1000) (hL : ∀ p ∈ ps, p.length = L) (hz : L ≤ 300) : RowIs H (ps.map V.str) := by
  refine ⟨by rw [List.length_map]; omega, fun y m => ?_, fun y m z e => ?_⟩
  · obtain ⟨p, _, rfl⟩ := List.mem_map.mp m
    exact ⟨"str", .str p⟩
  · obtain ⟨p, mp, rfl⟩ := List.mem_map.mp m
    cases e
    have := hL _ mp
    omega
theorem RowOk.are {ps : List Str} {L : Nat} (h : RowOk ps L) : areV (ps.map V.str) = true := by
  have h1 := h.lo
  have h2 := h.few
  unfold areV
  cases ps with
  | nil => exact absurd rfl h.ne
  | cons p r =>
    simp only [List.map_cons, List.isEmpty_cons, Bool.not_false, Bool.true_and, List.headD_cons, Bool.and_eq_true, List.all_eq_true]
    constructor
    · intro y m
      rw [← List.map_cons (f := V.str)] at m
      obtain ⟨q, mq, rfl⟩ := List.mem_map.mp m
      have l1 := h.len q mq
      rw [List.length_cons] at h2
      simp only [isTextV, isLongV, h.sg q mq, Bool.and_true, Bool.and_eq_true, decide_eq_true_eq]
      omega
    · intro y m
      rw [← List.map_cons (f := V.str)] at m
      obtain ⟨q, mq, rfl⟩ := List.mem_map.mp m
      exact decide_eq_true ((h.len q mq).trans (h.len p List.mem_cons_self).symm)
theorem seq_ty {H : Hp} {a : Addr} {ys : List V} (h : SeqAt' H a ys) : ∃ n, TyB H (.ref a) n ∧ (["tuple", "list"].any (isiB n)) = true := h.elim (fun h => ⟨"list", .lst h, by decide⟩) fun h => ⟨"tuple", .tup h, by decide⟩
set_option maxHeartbeats 4000000 in
theorem ok_heap_of {C : Addr} {bm : List Value} (D : HasDef K mg "heap_of" sHeapOf ["pieces"]) (B : Blt mg) (c : XCls K mg "NoHeap" C bm) (G_are_pieces : FOk P w K mg base 4 "are_pieces" ["things"] spAreA) (G_most_pieces : FOk P w K mg base 4 "most_pieces" ["long"] spMost)
    (G_counted : FOk P w K mg base 4 "counted" ["pieces"] spCntA) : FOkX P w K mg base 5 "heap_of" ["pieces"] (spHeapOf C) := by
  refine D.okX scHeapOf (fun vs H Q E h => ?_) (fun f cdv A outer s vs H Q E L hr h => ?_)
  · obtain ⟨x, rfl, _⟩ := h
    rfl
  · obtain ⟨x, rfl, h⟩ := h
    refine ⟨_, (pss_cons (ps_if (PW.pt (pw_or (pt_not (pt_val (pe_callB call_isi2 rfl B.isi b_isi (pa_cons (pv 0) (pa_cons (pe_tup (pa_cons (pe_ty rfl B.tuple b_tuple) (pa_cons (pe_ty rfl B.list b_list) pa_nil))) pa_nil))))) (pw_or1 (pt_not (pt_val (pe_fn G_are_pieces hr (pa_cons (pv 0) pa_nil))))))) (pss_one (ps_raise L c rfl (pa_cons pe_str pa_nil))) pss_nil)
      (pss_cons (ps_if (pt_cmpR op_gt (pe_callB call_len rfl B.len b_len (pa_cons (pv 0) pa_nil)) (pe_fn G_most_pieces hr (pa_cons (pe_callB call_len rfl B.len b_len (pa_cons (pe_ix ix_seq (pv 0) pe_int (fun _ _ => rfl)) pa_nil)) pa_nil)) (nomark _)) (pss_one (ps_raise L c rfl (pa_cons pe_str pa_nil))) pss_nil)
      (pss_one (ps_ret (pe_fn G_counted hr (pa_cons (pv 0) pa_nil)))))), ?_⟩
    have one : (1 : Nat) ≤ sizeLine := by rw [sizeLine_eq]; decide
    refine ⟨_, rfl, (show 2 ≤ sizeLine by rw [sizeLine_eq]; decide), fun t ht => ?_⟩
    have s1 : Same H (upd H t (.tup [.ty "tuple", .ty "list"])) := same_upd_new ht
    rcases h with ⟨hN, kE⟩ | ⟨a, ps, Bs, L0, rfl, ha, hO, hB, hBs, k⟩
    · cases hN with
      | @kind x n ty h1 h2 =>
        refine ⟨x, t, ["tuple", "list"], n, rfl, upd_same, by decide, ty.same s1, _, rfl, ?_⟩
        have : (["tuple", "list"].any (isiB n)) = false := by simp [h1, h2]
        rw [this]
        exact iteT (iteT ⟨one, kE _ s1⟩)
      | @bad a ys ha hR hb =>
        obtain ⟨n, ty, e⟩ := seq_ty (ha.same s1)
        refine ⟨.ref a, t, ["tuple", "list"], n, rfl, upd_same, by decide, ty, _, rfl, ?_⟩
        rw [e]
        refine iteF ?_
        refine ⟨_, rfl, a, ys, rfl, ha.same s1, hR.same s1, fun H2 s2 => ⟨_, rfl, ?_⟩⟩
        rw [hb]
        exact iteT ⟨one, kE _ (s1.trans s2)⟩
      | @many a ps L1 ha hl hA hL hz hb =>
        obtain ⟨n, ty, e⟩ := seq_ty (ha.same s1)
        refine ⟨.ref a, t, ["tuple", "list"], n, rfl, upd_same, by decide, ty, _, rfl, ?_⟩
        rw [e]
        refine iteF ?_
        refine ⟨_, rfl, a, _, rfl, ha.same s1, row_is hl hL hz, fun H2 s2 => ⟨_, rfl, ?_⟩⟩
        rw [hA]
        refine iteF ?_
        have ha2 := ha.same (s1.trans s2)
        have hp0 : 0 < ps.length := by omega
        have l0 := hL _ (List.getElem_mem hp0)
        have at0 : atI (ps.map V.str) 0 = some (.str ps[0]) := atI_nat (j := 0) (by rw [List.getElem?_map, List.getElem?_eq_getElem hp0]; rfl)
        refine ⟨_, rfl, .ref a, _, rfl, len_seq ha2, _, rfl, seq_ix ha2 at0 ⟨.str ps[0], _, rfl, ⟨size_small (by omega), rfl⟩, _, rfl, _, _, rfl, rfl, _, rfl, iteP (decide_eq_true ?_) ⟨one, kE _ (s1.trans s2)⟩⟩⟩
        rw [List.length_map, l0]
        omega
    · obtain ⟨n, ty, e⟩ := seq_ty (ha.same s1)
      have hfew := hO.few
      have hlo := hO.lo
      have hp0 : 0 < ps.length := List.length_pos_iff.mpr hO.ne
      refine ⟨.ref a, t, ["tuple", "list"], n, rfl, upd_same, by decide, ty, _, rfl, ?_⟩
      rw [e]
      refine iteF ?_
      refine ⟨_, rfl, a, _, rfl, ha.same s1, row_is (L := L0) (by omega) hO.len (by omega), fun H2 s2 => ⟨_, rfl, ?_⟩⟩
      rw [hO.are]
      refine iteF ?_
      have ha2 := ha.same (s1.trans s2)
      have l0 := hO.len _ (List.getElem_mem hp0)
      have at0 : atI (ps.map V.str) 0 = some (.str ps[0]) := atI_nat (j := 0) (by rw [List.getElem?_map, List.getElem?_eq_getElem hp0]; rfl)
      refine ⟨_, rfl, .ref a, _, rfl, len_seq ha2, _, rfl, seq_ix ha2 at0 ⟨.str ps[0], _, rfl, ⟨size_small (by omega), rfl⟩, _, rfl, _, _, rfl, rfl, _, rfl, iteM (decide_eq_false ?_) ?_⟩⟩
      · rw [List.length_map, l0]
        omega
      exact ⟨_, rfl, a, ps, Bs, rfl, ha2, by omega, hB, hBs, fun v H3 hp s3 hA hO' => k v H3 hp ((s1.trans s2).trans s3) hA hO'⟩
/-! ### heaped -/
abbrev nHeaped : List Str := ["one", "other", "manys", "piece", "many"]
theorem scHeaped : FnScope nHeaped ["one", "other"] (defScope sHeaped) := ⟨rfl, rfl, rfl, by decide +kernel, rfl, by decide +kernel, by decide +kernel⟩
def spHeaped (C : Addr) : Sp := fun vs H Q E => ∃ (v1 v2 : V) (hp1 hp2 : List Pr) (L1 L2 : Nat), vs = [v1, v2] ∧ HpAt H v1 hp1 ∧ HpAt H v2 hp2 ∧ IsHp hp1 L1 ∧ IsHp hp2 L2 ∧
  (((L1 ≠ L2 ∨ 301 < (hp1.map (·.2)).sum + (hp2.map (·.2)).sum + L1) ∧ ∀ H', Same H H' → E (.ref C) none H') ∨
   (L1 = L2 ∧ (hp1.map (·.2)).sum + (hp2.map (·.2)).sum + L1 ≤ 301 ∧ ∃ ps1 ps2 B : List Str, HeapOf ps1 hp1 ∧ HeapOf ps2 hp2 ∧ B.length ≤ 63 ∧ (∀ p ∈ ps1 ++ ps2, p ∈ B) ∧ ∀ v H' hp, Same H H' → HpAt H' v hp → HeapOf (ps1 ++ ps2) hp → Q v H'))
theorem long_head {hp : List Pr} {L : Nat} (h : IsHp hp L) : ∃ p r, hp = p :: r ∧ p.1.length = L := by
  cases hp with
  | nil => exact absurd rfl h.ne
  | cons p r => exact ⟨p, r, rfl, h.len p List.mem_cons_self⟩
set_option maxHeartbeats 4000000 in
theorem ok_heaped {C : Addr} {bm : List Value} (D : HasDef K mg "heaped" sHeaped ["one", "other"]) (B : Blt mg) (Bd : mg "dict" = none) (c : XCls K mg "NoHeap" C bm) (G_long_of : FOk P w K mg base 4 "long_of" ["H"] spLongOf) (G_size_of : FOk P w K mg base 4 "size_of" ["H"] spSizeOf) (G_most_pieces : FOk P w K mg base 4 "most_pieces" ["long"] spMost)
    (G_in_rows : FOk P w K mg base 4 "in_rows" ["manys"] spRows) : FOkX P w K mg base 5 "heaped" ["one", "other"] (spHeaped C) := by
  refine D.okX scHeaped (fun vs H Q E h => ?_) (fun f cdv A outer s vs H Q E L hr h => ?_)
  · obtain ⟨v1, v2, hp1, hp2, L1, L2, rfl, _⟩ := h
    rfl
  · obtain ⟨v1, v2, hp1, hp2, L1, L2, rfl, hA1, hA2, hH1, hH2, h⟩ := h
    have hu := hu_of hr
    refine ⟨_, (pss_cons (ps_if (pt_cmpR op_ne (pe_fn G_long_of hr (pa_cons (pv 0) pa_nil)) (pe_fn G_long_of hr (pa_cons (pv 1) pa_nil)) (nomark _)) (pss_one (ps_raise L c rfl (pa_cons pe_str pa_nil))) pss_nil)
      (pss_cons (ps_if (pt_cmpR op_gt (pe_op op_add (pe_fn G_size_of hr (pa_cons (pv 0) pa_nil)) (pe_fn G_size_of hr (pa_cons (pv 1) pa_nil))) (pe_fn G_most_pieces hr (pa_cons (pe_fn G_long_of hr (pa_cons (pv 0) pa_nil)) pa_nil)) (nomark _)) (pss_one (ps_raise L c rfl (pa_cons pe_str pa_nil))) pss_nil)
      (pss_cons (ps_set (i := 2) scHeaped.nd rfl (Or.inl rfl) (pe_callTy (call_dictOf rfl) rfl Bd b_dict (pa_cons (pv 0) pa_nil)))
      (pss_cons (PS.nox (ps_for PassesOwn.never rfl (pi_tup (pv 1)) (pg_tupK 2 K rfl (pgs_cons (pg_name (i := 3) scHeaped.nd rfl (Or.inl rfl)) (pgs_cons (pg_name (i := 4) scHeaped.nd rfl (Or.inl rfl)) pgs_nil)))
        (pss_one (ps_dput hu (pv 2) (pv 3) (pe_op op_add (pe_dget2 hu (pv 2) (pv 3) pe_int ⟨rfl, rfl, rfl, rfl⟩) (pv 4)) rfl))))
      (pss_one (ps_ret (pe_fn G_in_rows hr (pa_cons (pv 2) pa_nil)))))))), ?_⟩
    have one : (1 : Nat) ≤ sizeLine := by rw [sizeLine_eq]; decide
    obtain ⟨p1, r1, e1, l1⟩ := long_head hH1
    obtain ⟨p2, r2, e2, l2⟩ := long_head hH2
    refine ⟨_, rfl, v1, p1, r1, rfl, e1 ▸ hA1, e1 ▸ hH1.fits, _, rfl, v2, p2, r2, rfl, e2 ▸ hA2, e2 ▸ hH2.fits, rfl, _, rfl, ?_⟩
    rw [l1, l2]
    by_cases hL : L1 = L2
    · subst hL
      refine iteM (by rw [decide_eq_true rfl]; rfl) ?_
      refine ⟨_, rfl, v1, hp1, rfl, hA1, hH1.fits, fun H1 s1 => ⟨_, rfl, v2, hp2, rfl, hA2.same s1.tup, hH2.fits, fun H2 s2 => ?_⟩⟩
      have s12 := s1.trans s2
      refine ⟨_, _, rfl, rfl, _, rfl, v1, p1, r1, rfl, e1 ▸ hA1.same s12.tup, e1 ▸ hH1.fits, _, rfl, _, _, rfl, rfl, _, rfl, ?_⟩
      rw [l1]
      rcases h with ⟨hb, kE⟩ | ⟨_, hs, ps1, ps2, Bs, hO1, hO2, hB, hBs, k⟩
      · rcases hb with q | q
        · exact absurd rfl q
        · exact iteP (decide_eq_true (by omega)) ⟨one, kE H2 s12⟩
      · refine iteM (decide_eq_false (by omega)) ?_
        obtain ⟨a1, xs1, rfl, ha1, hl1, hq1⟩ := hp_pairs (hA1.same s12.tup)
        obtain ⟨a2, xs2, rfl, ha2, hl2, hq2⟩ := hp_pairs (hA2.same s12.tup)
        have hf2 := hH2.few
        refine ⟨_, rfl, a1, xs1, hp1.map fun p => ((Sum.inr p.1 : Key), V.int p.2), rfl, .inr ha1, by rw [List.length_map]; exact hl1, fun i q e => ?_, ?_, fun d hd => ?_⟩
        · rw [List.getElem?_map] at e
          cases ep : hp1[i]? with
          | none => rw [ep] at e; cases e
          | some p => rw [ep] at e; cases e; exact hq1 i p ep
        · rw [heap_gD hO1]
          exact keys_nd' (heap_nd hO1)
        rw [heap_gD hO1]
        have sd := same_upd_new (o := .dK (gD (hp1.map (·.1)) fun x => (ps1.count x : Int))) hd
        have bnd : ∀ ks : List Str, ks.Nodup → (∀ x ∈ ks, x ∈ ps1 ++ ps2) → ks.length ≤ 63 := fun ks nd h => Nat.le_trans (nodup_le nd fun x hx => hBs x (h x hx)) hB
        refine ⟨_, rfl, a2, rfl, ⟨_, SqT.of (sd _ _ ha2)⟩, for_tup (K := K) (a := a2) (xs := xs2) (fun i σ H3 => (∃ z3 z4 : Option V, σ = [some (.ref a1), some (.ref a2), some (.ref d), z3, z4]) ∧ Same H2 H3 ∧ ∃ (ks : List Str) (g : Str → Int), ks.Nodup ∧ (∀ x, x ∈ ks ↔ x ∈ ps1 ∨ x ∈ (hp2.take i).map (·.1)) ∧
            (∀ x ∈ ks, g x = ps1.count x + if x ∈ (hp2.take i).map (·.1) then (ps2.count x : Int) else 0) ∧ H3 d = some (.dK (gD ks g)))
          ⟨⟨none, none, rfl⟩, sd, hp1.map (·.1), fun x => (ps1.count x : Int), heap_nd hO1, fun x => by simpa using hO1.mem x, fun x _ => by simp, upd_same⟩ (fun i σ H3 _ ⟨_, s3, _⟩ => SqT.of (s3 _ _ ha2)) ?_ ?_⟩
        · rintro i x σ H3 hi ⟨⟨z3, z4, rfl⟩, s3, ks, g, nd, hm, hg, hdd⟩
          have hi' : i < hp2.length := by rw [← hl2]; exact (List.getElem?_eq_some_iff.mp hi).1
          obtain ⟨b, eb, hb⟩ := hq2 i _ (List.getElem?_eq_getElem hi')
          rw [hi] at eb
          cases eb
          have nty : hp2[i].1 ∉ (hp2.take i).map (·.1) := fun q => by
            have h1 := heap_nd hO2
            rw [← List.take_append_drop i hp2, List.map_append, List.nodup_append] at h1
            refine h1.2.2 _ q _ ?_ rfl
            rw [List.drop_eq_getElem_cons hi', List.map_cons]
            exact List.mem_cons_self
          have hyc : hp2[i].2 = ps2.count hp2[i].1 := hO2.cnt _ (List.getElem_mem hi')
          have hyv : (valV (gD ks g) (Sum.inr hp2[i].1)).getD (.int 0) = .int (ps1.count hp2[i].1) := by
            rw [gD_val]
            split
            · rename_i m
              rw [hg _ m, if_neg nty]
              simp
            · rename_i m
              have : hp2[i].1 ∉ ps1 := fun q => m ((hm _).mpr (.inl q))
              rw [List.count_eq_zero_of_not_mem this]
              rfl
          have mem1 : ∀ x, x ∈ (hp2.take (i + 1)).map (·.1) ↔ x ∈ (hp2.take i).map (·.1) ∨ x = hp2[i].1 := fun x => by
            rw [List.take_succ_eq_append_getElem hi', List.map_append, List.mem_append]
            simp
          have mem2 : hp2[i].1 ∈ ps2 := (hO2.mem _).mp (List.mem_map.mpr ⟨_, List.getElem_mem hi', rfl⟩)
          have hkl : ks.length ≤ 63 := bnd ks nd fun x hx => by
            rcases (hm x).mp hx with q | q
            · exact List.mem_append_left _ q
            · exact List.mem_append_right _ ((hO2.mem x).mp (by
                obtain ⟨p, mp, e⟩ := List.mem_map.mp q
                exact List.mem_map.mpr ⟨p, List.mem_of_mem_take mp, e⟩))
          refine ⟨b, _, rfl, SqT.of (s3 _ _ hb), rfl, _, _, rfl, _, _, rfl, rfl, ?_⟩
          refine ⟨_, rfl, d, rfl, .inl ⟨_, .inl hdd⟩, _, rfl, _, DGet.k (k := Sum.inr hp2[i].1) hdd, _, rfl, _, _, hyv, rfl, _, rfl, _, rfl, d, _, rfl, DPut.k (k := Sum.inr hp2[i].1) hdd ?_, ?_⟩
          · rw [gD_len]
            exact small1000 (by omega)
          refine ⟨⟨_, _, rfl⟩, same_new_upd s3 hd, if hp2[i].1 ∈ ks then ks else ks ++ [hp2[i].1], (fun x => if x = hp2[i].1 then (ps1.count hp2[i].1 : Int) + hp2[i].2 else g x), ?_, fun x => ?_, fun x hx => ?_, ?_⟩
          rotate_left 3
          · rw [upd_same, gD_put]
          · split
            · exact nd
            · rename_i m
              exact nd_snoc nd m
          · rw [mem1]
            split
            · rename_i m
              rw [hm]
              constructor
              · rintro (q | q)
                · exact .inl q
                · exact .inr (.inl q)
              · rintro (q | q | q)
                · exact .inl q
                · exact .inr q
                · exact (hm x).mp (q ▸ m)
            · rw [List.mem_append, hm, List.mem_singleton, or_assoc]
          · dsimp only
            by_cases e : x = hp2[i].1
            · rw [if_pos e, if_pos ((mem1 x).mpr (.inr e)), e, hyc]
            · rw [if_neg e]
              have hxk : x ∈ ks := by
                split at hx
                · exact hx
                · rcases List.mem_append.mp hx with q | q
                  · exact q
                  · exact absurd (List.mem_singleton.mp q) e
              rw [hg x hxk]
              congr 1
              by_cases q : x ∈ (hp2.take i).map (·.1)
              · rw [if_pos q, if_pos ((mem1 x).mpr (.inl q))]
              · rw [if_neg q, if_neg fun z => ((mem1 x).mp z).elim q e]
        · rintro σ H3 ⟨⟨z3, z4, rfl⟩, s3, ks, g, nd, hm, hg, hdd⟩
          rw [List.take_of_length_le (by omega)] at hm hg
          have hm' : ∀ x, x ∈ ks ↔ x ∈ ps1 ++ ps2 := fun x => by rw [hm, hO2.mem, List.mem_append]
          have hkl := bnd ks nd fun x hx => (hm' x).mp hx
          refine ⟨_, rfl, d, ks, g, rfl, hdd, nd, by omega, fun v H4 ss s4 hperm hsrt hA => ?_⟩
          refine k v H4 _ ((s12.trans s3).trans s4) hA (heap_of_rows hperm hsrt hm' fun x hx => ?_)
          rw [hg x hx, List.count_append]
          split
          · simp
          · rename_i q
            have : x ∉ ps2 := fun z => q ((hO2.mem x).mpr z)
            rw [List.count_eq_zero_of_not_mem this]
            simp
    · refine iteP (by rw [int_ne (by omega)]; rfl) ?_
      rcases h with ⟨_, kE⟩ | ⟨q, _⟩
      · exact ⟨one, kE H (Same.refl H)⟩
      · exact absurd q hL
/-! ### less_one -/
abbrev nLessOne : List Str := ["H", "piece", "manys"]
theorem scLessOne : FnScope nLessOne ["H", "piece"] (defScope sLessOne) := ⟨rfl, rfl, rfl, by decide +kernel, rfl, by decide +kernel, by decide +kernel⟩
def spLess (C : Addr) : Sp := fun vs H Q E => ∃ (v : V) (hp : List Pr) (ps : List Str) (x : Str), vs = [v, .str x] ∧ HpAt H v hp ∧ HeapOf ps hp ∧ hp.length ≤ 63 ∧
  ((x ∉ ps ∧ ∀ H', Same H H' → E (.ref C) none H') ∨ (x ∈ ps ∧ ∀ v' H' hp', Same H H' → HpAt H' v' hp' → HeapOf (ps.erase x) hp' → Q v' H'))
set_option maxHeartbeats 4000000 in
theorem ok_less_one {C : Addr} {bm : List Value} (D : HasDef K mg "less_one" sLessOne ["H", "piece"]) (B : Blt mg) (Bd : mg "dict" = none) (c : XCls K mg "NoPiece" C bm) (G_in_rows : FOk P w K mg base 4 "in_rows" ["manys"] spRows) : FOkX P w K mg base 5 "less_one" ["H", "piece"] (spLess C) := by
  refine D.okX scLessOne (fun vs H Q E h => ?_) (fun f cdv A outer s vs H Q E L hr h => ?_)
  · obtain ⟨v, hp, ps, x, rfl, _⟩ := h
    rfl
  · obtain ⟨v, hp, ps, x, rfl, hA, hO, hl, h⟩ := h
    have hu := hu_of hr
    refine ⟨_, (pss_cons (ps_set (i := 2) scLessOne.nd rfl (Or.inl rfl) (pe_callTy (call_dictOf rfl) rfl Bd b_dict (pa_cons (pv 0) pa_nil)))
      (pss_cons (ps_if (pt_cmp (pc_dnotin hu (pv 1) (pv 2))) (pss_one (ps_raise L c rfl (pa_cons pe_str pa_nil))) pss_nil)
      (pss_cons (ps_dput hu (pv 2) (pv 1) (pe_op op_sub (pe_dget hu (pv 2) (pv 1) (fun _ _ => rfl)) pe_int) rfl)
      (pss_cut (ps_if (pt_cmpR op_eq (pe_dget hu (pv 2) (pv 1) (fun _ _ => rfl)) pe_int (nomark _)) (pss_one (ps_expr (pe_dpop1 (pv 2) (pv 1) ⟨rfl, rfl, rfl, rfl⟩))) pss_nil)
      (pss_one (ps_ret (pe_fn G_in_rows hr (pa_cons (pv 2) pa_nil)))))))), ?_⟩
    have one : (1 : Nat) ≤ sizeLine := by rw [sizeLine_eq]; decide
    obtain ⟨a, xs, rfl, ha, hlx, hq⟩ := hp_pairs hA
    refine ⟨_, rfl, a, xs, hp.map fun p => ((Sum.inr p.1 : Key), V.int p.2), rfl, .inr ha, by rw [List.length_map]; exact hlx, fun i q e => ?_, ?_, fun d hd => ?_⟩
    · rw [List.getElem?_map] at e
      cases ep : hp[i]? with
      | none => rw [ep] at e; cases e
      | some p => rw [ep] at e; cases e; exact hq i p ep
    · rw [heap_gD hO]
      exact keys_nd' (heap_nd hO)
    rw [heap_gD hO]
    have sd := same_upd_new (o := .dK (gD (hp.map (·.1)) fun x => (ps.count x : Int))) hd
    have nd := heap_nd hO
    have hm := hO.mem
    generalize hks : hp.map (·.1) = ks at sd nd hm
    have hkl : ks.length ≤ 63 := by rw [← hks, List.length_map]; exact hl
    have hdd : (upd H d (.dK (gD ks fun x => (ps.count x : Int)))) d = some (.dK (gD ks fun x => (ps.count x : Int))) := upd_same
    refine ⟨_, rfl, _, rfl, d, _, rfl, DGet.k (k := Sum.inr x) hdd, _, rfl, ?_⟩
    rw [gD_val]
    rcases h with ⟨hx, kE⟩ | ⟨hx, k⟩
    · rw [if_neg fun q => hx ((hm x).mp q)]
      exact iteT ⟨one, kE _ sd⟩
    · have hxk := (hm x).mpr hx
      rw [if_pos hxk]
      refine iteF ?_
      have dg : DGet (upd H d (.dK (gD ks fun x => (ps.count x : Int)))) d (.str x) (some (.int (ps.count x))) := by
        have := DGet.k (k := Sum.inr x) hdd
        rw [gD_val, if_pos hxk] at this
        exact this
      refine ⟨_, rfl, _, rfl, d, _, rfl, dg, _, _, rfl, rfl, _, rfl, _, rfl, d, _, rfl, DPut.k (k := Sum.inr x) hdd ?_, ?_⟩
      · rw [gD_len]
        exact small1000 (by omega)
      dsimp only
      rw [gD_put, if_pos hxk]
      have cpos : 1 ≤ ps.count x := List.count_pos_iff.mpr hx
      have s2 : Same H (upd (upd H d (.dK (gD ks fun x => (ps.count x : Int)))) d (.dK (gD ks fun y => if y = x then (ps.count x : Int) - 1 else (ps.count y : Int)))) := same_new_upd sd hd
      generalize hH2 : upd (upd H d (.dK (gD ks fun x => (ps.count x : Int)))) d (.dK (gD ks fun y => if y = x then (ps.count x : Int) - 1 else (ps.count y : Int))) = H2 at s2
      have hdd2 : H2 d = some (.dK (gD ks fun y => if y = x then (ps.count x : Int) - 1 else (ps.count y : Int))) := by rw [← hH2]; exact upd_same
      have gv2 : valV (gD ks fun y => if y = x then (ps.count x : Int) - 1 else (ps.count y : Int)) (Sum.inr x) = some (.int ((ps.count x : Int) - 1)) := by
        rw [gD_val, if_pos hxk, if_pos rfl]
      have cnt : ∀ y, (ps.erase x).count y = if y = x then ps.count x - 1 else ps.count y := fun y => by
        by_cases e : y = x
        · rw [if_pos e, e, List.count_erase_self]
        · rw [if_neg e, List.count_erase_of_ne e]
      refine ⟨fun σ' H' => ∃ (ks' : List Str) (g : Str → Int), σ' = [some (.ref a), some (.str x), some (.ref d)] ∧ Same H H' ∧ ks'.Nodup ∧ ks'.length ≤ 63 ∧ (∀ y, y ∈ ks' ↔ y ∈ ps.erase x) ∧ (∀ y ∈ ks', g y = (ps.erase x).count y) ∧ H' d = some (.dK (gD ks' g)), ?_, ?_⟩
      · have dg2 : DGet H2 d (.str x) (some (.int ((ps.count x : Int) - 1))) := by
          have := DGet.k (k := Sum.inr x) hdd2
          rw [gv2] at this
          exact this
        refine ⟨_, rfl, _, rfl, d, _, rfl, dg2, rfl, _, rfl, ?_⟩
        by_cases c1 : ps.count x = 1
        · refine iteP (int_is (by omega)) ?_
          refine ⟨_, rfl, d, rfl, .inl ⟨_, .inl hdd2⟩, _, rfl, _, Sum.inr x, _, hdd2, rfl, gv2, ?_⟩
          rw [gD_drop]
          have nx : x ∉ ps.erase x := fun q => by
            have := List.count_pos_iff.mpr q
            rw [cnt x, if_pos rfl] at this
            omega
          refine ⟨_, _, rfl, same_new_upd s2 hd, nd.filter _, Nat.le_trans (List.length_filter_le _ _) hkl, fun y => ?_, fun y my => ?_, upd_same⟩
          · rw [List.mem_filter, hm, decide_eq_true_eq]
            constructor
            · rintro ⟨q1, q2⟩
              exact (List.mem_erase_of_ne q2).mpr q1
            · intro q
              have ne : y ≠ x := fun e => nx (e ▸ q)
              exact ⟨(List.mem_erase_of_ne ne).mp q, ne⟩
          · have ne : y ≠ x := by
              rw [List.mem_filter, decide_eq_true_eq] at my
              exact my.2
            rw [if_neg ne, cnt y, if_neg ne]
        · refine iteM (int_ne (by omega)) ?_
          refine ⟨ks, _, rfl, s2, nd, hkl, fun y => ?_, fun y my => ?_, hdd2⟩
          · rw [hm, ← List.count_pos_iff, ← List.count_pos_iff, cnt y]
            by_cases e : y = x
            · rw [if_pos e, e]
              constructor <;> intro _ <;> omega
            · rw [if_neg e]
          · rw [cnt y]
            by_cases e : y = x
            · rw [if_pos e, if_pos e]
              omega
            · rw [if_neg e, if_neg e]
      · rintro σ' H3 ⟨ks', g, rfl, s3, nd', hl', hm', hg', hd3⟩
        refine ⟨_, rfl, d, ks', g, rfl, hd3, nd', by omega, fun v' H4 ss s4 hperm hsrt hA' => ?_⟩
        exact k v' H4 _ (s3.trans s4) hA' (heap_of_rows hperm hsrt hm' hg')
end
end Sh

set_option Elab.async false
set_option linter.all false
set_option maxRecDepth 100000
namespace Sh
open PySem L2 PyProof.Rows
seal L2.PE L2.PS L2.PSs L2.PT L2.PW L2.PA L2.PI L2.PG L2.PGs L2.PO L2.PC L2.PCs L2.OpR L2.UnR L2.CallR L2.MtR L2.IxR L2.SlR
abbrev sLAsked : Stmt := top 33
abbrev sLRefused : Stmt := top 34
structure Er3 (K : PySem.W.Frag) (mg : Str → Option Value) (S Ch Cp A1 A2 A3 A4 A5 A6 A7 : Addr) : Prop where
  sh : XCls K mg "ShredError" S (mroX K S)
  th : XCls K mg "NoHeap" Ch (mroX K Ch)
  tp : XCls K mg "NoPiece" Cp (mroX K Cp)
  uph : (mroX K Ch).contains (.ref S) = true
  upp : (mroX K Cp).contains (.ref S) = true
  atth : XAttr K Ch
  attp : XAttr K Cp
  veh : PySem.W.kitOne K (.ref Ch) (.type "ValueError") = some true
  vep : PySem.W.kitOne K (.ref Cp) (.type "ValueError") = some true
  xhp : PySem.W.kitOne K (.ref Ch) (.ref Cp) = some false
  xph : PySem.W.kitOne K (.ref Cp) (.ref Ch) = some false
  oth : PySem.W.kitAny K (.ref Ch) [.ref A1, .ref A2, .ref A3, .ref A4, .ref A5, .ref A6, .ref A7] = some false
  otp : PySem.W.kitAny K (.ref Cp) [.ref A1, .ref A2, .ref A3, .ref A4, .ref A5, .ref A6, .ref A7] = some false
  g1 : mg "Apart" = some (.ref A1)
  g2 : mg "NoDeed" = some (.ref A2)
  g3 : mg "NoLine" = some (.ref A3)
  g4 : mg "NoNumber" = some (.ref A4)
  g5 : mg "NoText" = some (.ref A5)
  g6 : mg "NoTexts" = some (.ref A6)
  g7 : mg "Unlike" = some (.ref A7)
  vn : mg "ValueError" = none
/-- what is refused, by the way it is asked -/
inductive Refd (H : Hp) : Int → V → V → Prop
  | row {x y : V} (h : NoRow H x) : Refd H 0 x y
  | heap {v1 v2 : V} {hp1 hp2 : List Pr} {L1 L2 : Nat} (h1 : HpAt H v1 hp1) (h2 : HpAt H v2 hp2) (h3 : IsHp hp1 L1) (h4 : IsHp hp2 L2) (hb : L1 ≠ L2 ∨ 301 < (hp1.map (·.2)).sum + (hp2.map (·.2)).sum + L1) : Refd H 1 v1 v2
  | piece {v : V} {hp : List Pr} {ps : List Str} {x : Str} (h1 : HpAt H v hp) (h2 : HeapOf ps hp) (h3 : hp.length ≤ 63) (hx : x ∉ ps) : Refd H 2 v (.str x)
theorem TyB.sameN {H H' : Hp} (s : Same H H') {x : V} (h : NoRow H x) : NoRow H' x := by
  cases h with
  | kind h h1 h2 => exact .kind (h.same s) h1 h2
  | bad h hR hb => exact .bad (h.same s) (hR.same s) hb
  | many h hl hA hL hz hb => exact .many (h.same s) hl hA hL hz hb
theorem Refd.same {H H' : Hp} (s : Same H H') {way : Int} {x y : V} (h : Refd H way x y) : Refd H' way x y := by
  cases h with
  | row h => exact .row (TyB.sameN s h)
  | heap h1 h2 h3 h4 hb => exact .heap (h1.same s.tup) (h2.same s.tup) h3 h4 hb
  | piece h1 h2 h3 hx => exact .piece (h1.same s.tup) h2 h3 hx
section
variable {P : Program} {w : World} {K : PySem.W.Frag} {mg : Str → Option Value} {base : Heap} {S Ch Cp A1 A2 A3 A4 A5 A6 A7 : Addr}
abbrev nLAsked : List Str := ["_law_way", "_law_one", "_law_other"]
theorem scLAsked : FnScope nLAsked ["_law_way", "_law_one", "_law_other"] (defScope sLAsked) := ⟨rfl, rfl, rfl, by decide +kernel, rfl, by decide +kernel, by decide +kernel⟩
def spAsked (Ch Cp : Addr) : Sp := fun vs H Q E => ∃ (way : Int) (x y : V), vs = [.int way, x, y] ∧ Refd H way x y ∧ (way < 2 → ∀ H', Same H H' → E (.ref Ch) none H') ∧ (way = 2 → ∀ H', Same H H' → E (.ref Cp) none H')
set_option maxHeartbeats 4000000 in
theorem ok_l_asked (D : HasDef K mg "_law_asked" sLAsked ["_law_way", "_law_one", "_law_other"]) (G_heap_of : FOkX P w K mg base 5 "heap_of" ["pieces"] (spHeapOf Ch)) (G_heaped : FOkX P w K mg base 5 "heaped" ["one", "other"] (spHeaped Ch)) (G_less_one : FOkX P w K mg base 5 "less_one" ["H", "piece"] (spLess Cp)) :
    FOkX P w K mg base 6 "_law_asked" ["_law_way", "_law_one", "_law_other"] (spAsked Ch Cp) := by
  refine D.okX scLAsked (fun vs H Q E h => ?_) (fun f cdv A outer s vs H Q E L hr h => ?_)
  · obtain ⟨way, x, y, rfl, _⟩ := h
    rfl
  · obtain ⟨way, x, y, rfl, hR, kh, kp⟩ := h
    refine ⟨_, (pss_cons (ps_if (pt_cmpR op_eq (pv 0) pe_int (nomark _)) (pss_one (ps_ret (pe_fnX G_heap_of L hr (pa_cons (pv 1) pa_nil)))) pss_nil)
      (pss_cons (ps_if (pt_cmpR op_eq (pv 0) pe_int (nomark _)) (pss_one (ps_ret (pe_fnX G_heaped L hr (pa_cons (pv 1) (pa_cons (pv 2) pa_nil))))) pss_nil)
      (pss_one (ps_ret (pe_fnX G_less_one L hr (pa_cons (pv 1) (pa_cons (pv 2) pa_nil))))))), ?_⟩
    cases hR with
    | @row x y h =>
      refine ⟨_, rfl, rfl, _, rfl, iteT ?_⟩
      exact ⟨_, rfl, x, rfl, .inl ⟨h, kh (by decide)⟩⟩
    | @heap v1 v2 hp1 hp2 L1 L2 h1 h2 h3 h4 hb =>
      refine ⟨_, rfl, rfl, _, rfl, iteF ⟨_, rfl, rfl, _, rfl, iteT ?_⟩⟩
      exact ⟨_, rfl, _, rfl, _, _, hp1, hp2, L1, L2, rfl, h1, h2, h3, h4, .inl ⟨hb, kh (by decide)⟩⟩
    | @piece v hp ps x h1 h2 h3 hx =>
      refine ⟨_, rfl, rfl, _, rfl, iteF ⟨_, rfl, rfl, _, rfl, iteF ?_⟩⟩
      exact ⟨_, rfl, _, rfl, _, hp, ps, _, rfl, h1, h2, h3, .inl ⟨hx, kp rfl⟩⟩
abbrev nLRefused : List Str := ["_law_way", "_law_one", "_law_other", "_law_own", "error"]
theorem scLRefused : FnScope nLRefused ["_law_way", "_law_one", "_law_other"] (defScope sLRefused) := ⟨rfl, rfl, rfl, by decide +kernel, rfl, by decide +kernel, by decide +kernel⟩
def spRefused : Sp := fun vs H Q _ => ∃ (way : Int) (x y : V), vs = [.int way, x, y] ∧ Refd H way x y ∧ ∀ H', Same H H' → Q (.bl true) H'
set_option maxHeartbeats 4000000 in
theorem ok_l_refused (D : HasDef K mg "_law_refused" sLRefused ["_law_way", "_law_one", "_law_other"]) (B : Blt mg) (Er : Er3 K mg S Ch Cp A1 A2 A3 A4 A5 A6 A7) (G1 : FOkX P w K mg base 6 "_law_asked" ["_law_way", "_law_one", "_law_other"] (spAsked Ch Cp)) :
    FOk P w K mg base 7 "_law_refused" ["_law_way", "_law_one", "_law_other"] spRefused := by
  refine D.ok scLRefused (fun vs H Q E h => ?_) (fun f cdv A outer s H vs Q E hr h => ?_)
  · obtain ⟨way, x, y, rfl, _⟩ := h
    rfl
  · obtain ⟨way, x, y, rfl, hR, k⟩ := h
    refine ⟨_, (pss_cons (ps_set (i := 3) scLRefused.nd rfl (Or.inl rfl) (pe_lst pa_nil))
      (pss_cut (ps_try 4 rfl rfl rfl G1 hr Er.sh (fun _ => pa_cons (pv 0) (pa_cons (pv 1) (pa_cons (pv 2) pa_nil))) (fun ea oe pn hm =>
        (pss_cons (ps_set (i := 3) scLRefused.nd rfl (Or.inl rfl) (pe_lst (pa_cons (pe_callB (call_isiE hm) rfl B.isi b_isi (pa_cons (pv 4) (pa_cons (pe_glob (v := .ref Ch) rfl Er.th.bound rfl) pa_nil))) (pa_cons (pe_callB (call_isiE hm) rfl B.isi b_isi (pa_cons (pv 4) (pa_cons (pe_glob (v := .ref Cp) rfl Er.tp.bound rfl) pa_nil))) (pa_cons (pe_callB (call_isiE hm) rfl B.isi b_isi (pa_cons (pv 4) (pa_cons (pe_ty rfl Er.vn b_VE) pa_nil))) pa_nil)))))
        (pss_one (ps_expr (pe_bmK K F.plainAttrs_list F.slot_list_append F.type_list_append mt_appendR (pv 3) (pa_cons (pe_callB (call_isiT hm) rfl B.isi b_isi (pa_cons (pv 4) (pa_cons (pe_tup (pa_cons (pe_glob (v := .ref A1) rfl Er.g1 rfl) (pa_cons (pe_glob (v := .ref A2) rfl Er.g2 rfl) (pa_cons (pe_glob (v := .ref A3) rfl Er.g3 rfl) (pa_cons (pe_glob (v := .ref A4) rfl Er.g4 rfl) (pa_cons (pe_glob (v := .ref A5) rfl Er.g5 rfl) (pa_cons (pe_glob (v := .ref A6) rfl Er.g6 rfl) (pa_cons (pe_glob (v := .ref A7) rfl Er.g7 rfl) pa_nil)))))))) pa_nil))) pa_nil)))))) scLRefused.nd)
      (pss_one (ps_ret (pe_cmpR (op_eqD hr.units) (pv 3) (pe_lst (pa_cons (pe_cmpR op_lt (pv 0) pe_int (nomark _)) (pa_cons (pe_cmpR op_eq (pv 0) pe_int (nomark _)) (pa_cons pe_bl (pa_cons pe_bl pa_nil))))) (nomark _)))))), ?_⟩
    refine ⟨Nat.zero_le _, fun p0 hp0 => ?_⟩
    have s0 := same_upd_new (o := .lst []) hp0
    have three : (3 : Nat) ≤ sizeLine := by rw [sizeLine_eq]; decide
    have way2 : way < 2 ∨ way = 2 := by cases hR with
      | row => exact .inl (by decide)
      | heap => exact .inl (by decide)
      | piece => exact .inr rfl
    refine ⟨fun σ H' => ∃ p a1 a2 a4, σ = [some (.int way), a1, a2, some (.ref p), a4] ∧ Same H H' ∧ H' p = some (.lst ([decide (way < 2), decide (way = 2), true, false].map V.bl)), ?_, ?_⟩
    · refine ⟨_, rfl, _, rfl, _, rfl, way, x, y, rfl, hR.same s0, fun hw => ?_, fun hw => ?_⟩
      · intro H1 hs1
        refine ⟨⟨_, _, _, rfl, Er.th, Er.uph⟩, fun ea oe hoe hn => ?_⟩
        refine ⟨_, rfl, .ref Ch, Ch, .ref Ch, true, rfl, hoe, Er.atth, rfl, kit_self, _, rfl, .ref Cp, Ch, .ref Cp, false, rfl, hoe, Er.atth, rfl, Er.xhp, _, rfl, .ty "ValueError", Ch, _, true, rfl, hoe, Er.atth, rfl, Er.veh, three, fun p hp => ?_⟩
        have s1 := same_upd_new (o := .lst [.bl true, .bl false, .bl true]) hp
        refine ⟨_, rfl, .inl ⟨rfl, _, SqL.of upd_same⟩, _, rfl, (show 7 ≤ sizeLine by rw [sizeLine_eq]; decide), fun t ht => ?_⟩
        have s2 := same_upd_new (o := .tup [.ref A1, .ref A2, .ref A3, .ref A4, .ref A5, .ref A6, .ref A7]) ht
        refine ⟨t, Ch, [A1, A2, A3, A4, A5, A6, A7], false, rfl, hoe, Er.atth, upd_same, Er.oth, p, _, _, rfl, rfl, s2 _ _ upd_same, (show 3 < sizeLine by rw [sizeLine_eq]; decide), ?_⟩
        refine ⟨p, _, _, _, rfl, fun b o e => ?_, ?_⟩
        · have e1 := hs1 b o (s0 b o e)
          rw [upd_ne (ne_of_none e1 hp)]
          exact s2 b o (s1 b o e1)
        · rw [upd_same, decide_eq_true hw, decide_eq_false (show ¬ way = 2 by omega)]
          rfl
      · intro H1 hs1
        refine ⟨⟨_, _, _, rfl, Er.tp, Er.upp⟩, fun ea oe hoe hn => ?_⟩
        refine ⟨_, rfl, .ref Ch, Cp, .ref Ch, false, rfl, hoe, Er.attp, rfl, Er.xph, _, rfl, .ref Cp, Cp, .ref Cp, true, rfl, hoe, Er.attp, rfl, kit_self, _, rfl, .ty "ValueError", Cp, _, true, rfl, hoe, Er.attp, rfl, Er.vep, three, fun p hp => ?_⟩
        have s1 := same_upd_new (o := .lst [.bl false, .bl true, .bl true]) hp
        refine ⟨_, rfl, .inl ⟨rfl, _, SqL.of upd_same⟩, _, rfl, (show 7 ≤ sizeLine by rw [sizeLine_eq]; decide), fun t ht => ?_⟩
        have s2 := same_upd_new (o := .tup [.ref A1, .ref A2, .ref A3, .ref A4, .ref A5, .ref A6, .ref A7]) ht
        refine ⟨t, Cp, [A1, A2, A3, A4, A5, A6, A7], false, rfl, hoe, Er.attp, upd_same, Er.otp, p, _, _, rfl, rfl, s2 _ _ upd_same, (show 3 < sizeLine by rw [sizeLine_eq]; decide), ?_⟩
        refine ⟨p, _, _, _, rfl, fun b o e => ?_, ?_⟩
        · have e1 := hs1 b o (s0 b o e)
          rw [upd_ne (ne_of_none e1 hp)]
          exact s2 b o (s1 b o e1)
        · rw [upd_same, decide_eq_false (show ¬ way < 2 by omega), decide_eq_true hw]
          rfl
    · rintro σ H' ⟨p, a1, a2, a4, rfl, sH, hp⟩
      refine ⟨_, rfl, _, rfl, _, _, rfl, rfl, _, rfl, rfl, (show 4 ≤ sizeLine by rw [sizeLine_eq]; decide), fun q hq => ?_⟩
      have eq2 : decide (V.int way = V.int 2) = decide (way = 2) := by
        rcases way2 with h | h
        · rw [int_ne (show ¬ way = 2 by omega), decide_eq_false (show ¬ way = 2 by omega)]
        · rw [int_is h, decide_eq_true h]
      dsimp only
      rw [eq2]
      have s1 := same_upd_new (o := .lst ([decide (way < 2), decide (way = 2), true, false].map V.bl)) hq
      rcases way2 with h | h
      · rw [decide_eq_true h, decide_eq_false (show ¬ way = 2 by omega)] at s1 hp ⊢
        refine ⟨_, _, rep_blist (bs := [true, false, true, false]) (s1 _ _ hp), rep_blist (bs := [true, false, true, false]) upd_same, by decide +kernel, by decide +kernel, ?_⟩
        exact k _ (sH.trans s1)
      · rw [decide_eq_false (show ¬ way < 2 by omega), decide_eq_true h] at s1 hp ⊢
        refine ⟨_, _, rep_blist (bs := [false, true, true, false]) (s1 _ _ hp), rep_blist (bs := [false, true, true, false]) upd_same, by decide +kernel, by decide +kernel, ?_⟩
        exact k _ (sH.trans s1)
end
end Sh

set_option Elab.async false
set_option linter.all false
set_option maxRecDepth 100000
namespace L2
open PySem PySem.Spec PyProof.Rows
theorem op_neD {X : Cx} (hu : X.A.units + 64 < cLine) : OpR X (compareOp .NotEq) (fun x y H Q => ∃ da db, RepD H da x ∧ RepD H db y ∧ SeqAt.shaped da = true ∧ SeqAt.shaped db = true ∧ Q (.bl (!PyData.eqv da db)) H) := by
  intro pins s σ H x y v u Q I rx ry h
  obtain ⟨da, db, r1, r2, s1, s2, q⟩ := h
  obtain ⟨as, q1⟩ := RepD.reads I da x v r1 rx
  obtain ⟨bs, q2⟩ := RepD.reads I db y u r2 ry
  exact ne_dataH q1 q2 s1 s2 hu ⟨.bl _, H, I, rfl, q⟩
theorem mt_popAtR {X : Cx} : MtR X "list.pop" rPopAt := mt_popAt
theorem rep_strs {H : Hp} : ∀ ps : List Str, RepA H (ps.map PyData.str) (ps.map V.str)
  | [] => by rw [List.map_nil, RepA]; rfl
  | p :: ps => by
    rw [List.map_cons, RepA]
    exact ⟨.str p, ps.map V.str, rfl, by rw [RepD], rep_strs ps⟩
theorem rep_slist {H : Hp} {a : Addr} {ps : List Str} (h : H a = some (.lst (ps.map V.str))) : RepD H (.list (ps.map PyData.str)) (.ref a) := by
  rw [RepD]
  exact ⟨a, _, rfl, h, rep_strs ps⟩
end L2
namespace Sh
open PySem L2 PyProof.Rows
seal L2.PE L2.PS L2.PSs L2.PT L2.PW L2.PA L2.PI L2.PG L2.PGs L2.PO L2.PC L2.PCs L2.OpR L2.UnR L2.CallR L2.MtR L2.IxR L2.SlR
abbrev sLCounted : Stmt := top 37
abbrev sLTakenOut : Stmt := top 38
theorem row_sum {ps : List Str} {hp : List Pr} (h : HeapOf ps hp) : (hp.map (·.2)).sum = (ps.length : Int) := by
  rw [← count_sum ps (hp.map (·.1)) (heap_nd h) fun x hx => (h.mem x).mpr hx, List.map_map]
  exact congrArg List.sum (List.map_congr_left fun p m => h.cnt p m)
theorem row_heap {ps : List Str} {L : Nat} {hp : List Pr} (hO : RowOk ps L) (h : HeapOf ps hp) : IsHp hp L := by
  have hs := row_sum h
  have hf := hO.few
  have h0 := List.length_pos_iff.mpr hO.ne
  have hmem : ∀ p ∈ hp, p.1 ∈ ps := fun p m => (h.mem p.1).mp (List.mem_map.mpr ⟨p, m, rfl⟩)
  refine ⟨?_, hO.lo, by omega, fun p m => hO.len _ (hmem p m), fun p m => hO.sg _ (hmem p m), fun p m => ?_, h.srt, by omega⟩
  · intro z
    obtain ⟨x, hx⟩ := List.exists_mem_of_ne_nil _ hO.ne
    have := (h.mem x).mpr hx
    rw [z] at this
    cases this
  · rw [h.cnt p m]
    have := List.count_pos_iff.mpr (hmem p m)
    omega
theorem row_few {ps B : List Str} {hp : List Pr} (h : HeapOf ps hp) (hB : B.length ≤ 63) (hBs : ∀ p ∈ ps, p ∈ B) : hp.length ≤ 63 := by
  have := nodup_le (heap_nd h) fun x hx => hBs x ((h.mem x).mp hx)
  rw [List.length_map] at this
  omega
theorem heap_nil {hp : List Pr} (h : HeapOf [] hp) : hp = [] := by
  cases hp with
  | nil => rfl
  | cons p r => exact absurd ((h.mem p.1).mp (by simp)) (by simp)
theorem row_codes {ps : List Str} {hp : List Pr} (hsg : ∀ p ∈ ps, p.cps.toList.all okSign = true) (h : HeapOf ps hp) : CodesOk hp := fun p m => by
  have h1 := List.all_eq_true.mp (hsg p.1 ((h.mem p.1).mp (List.mem_map.mpr ⟨p, m, rfl⟩)))
  unfold PyData.strOk
  rw [← Array.all_toList, List.all_eq_true]
  intro c hc
  have := okSign_lt (h1 c hc)
  exact decide_eq_true (by omega)
theorem strOk_of {p : Str} (h : p.cps.toList.all okSign = true) : PyData.strOk p = true := by
  have h1 := List.all_eq_true.mp h
  unfold PyData.strOk
  rw [← Array.all_toList, List.all_eq_true]
  intro c hc
  have := okSign_lt (h1 c hc)
  exact decide_eq_true (by omega)
theorem lay_strs : ∀ ps : List Str, (∀ p ∈ ps, p.cps.toList.all okSign = true) → PyData.canLayAll0 (ps.map PyData.str) = true
  | [], _ => by simp [PyData.canLayAll0]
  | p :: ps, h => by
    rw [List.map_cons, PyData.canLayAll0, lay_strs ps fun q hq => h q (List.mem_cons_of_mem _ hq)]
    simp [PyData.canLay0, strOk_of (h p List.mem_cons_self)]
theorem depth_strs : ∀ ps : List Str, PyData.depthAll (ps.map PyData.str) = 0
  | [] => by simp [PyData.depthAll]
  | p :: ps => by
    rw [List.map_cons, PyData.depthAll, depth_strs ps]
    simp [PyData.depth]
theorem shaped_strs {ps : List Str} (h : ∀ p ∈ ps, p.cps.toList.all okSign = true) : SeqAt.shaped (.list (ps.map PyData.str)) = true := by
  unfold SeqAt.shaped
  rw [Bool.and_eq_true]
  constructor
  · rw [PyData.canLay0]
    exact lay_strs ps h
  · refine decide_eq_true ?_
    rw [PyData.depth, depth_strs ps]
    decide
theorem eqv_strs {ps : List Str} (h : ∀ p ∈ ps, p.cps.toList.all okSign = true) : PyData.eqv (.list (ps.map PyData.str)) (.list (ps.map PyData.str)) = true := SeqAt.eqv_refl _ (SeqAt.canLay_of_shaped (shaped_strs h))
theorem HeapOf.perm {ps qs : List Str} {hp : List Pr} (p : ps.Perm qs) (h : HeapOf ps hp) : HeapOf qs hp := ⟨h.srt, fun x => (h.mem x).trans p.mem_iff, fun q m => by rw [h.cnt q m, p.count_eq]⟩
theorem cons_eraseIdx : ∀ (l : List Str) (k : Nat) (h : k < l.length), (l[k] :: l.eraseIdx k).Perm l
  | [], k, h => absurd h (Nat.not_lt_zero _)
  | x :: l, 0, h => by exact List.Perm.refl _
  | x :: l, k + 1, h => by
    have h' : k < l.length := by simpa using h
    have ih := cons_eraseIdx l k h'
    show (l[k] :: x :: l.eraseIdx k).Perm (x :: l)
    exact (List.Perm.swap _ _ _).trans (ih.cons x)
theorem map_eraseIdx : ∀ (l : List Str) (k : Nat), (l.map V.str).eraseIdx k = (l.eraseIdx k).map V.str
  | [], k => rfl
  | x :: l, 0 => rfl
  | x :: l, k + 1 => by
    show V.str x :: (l.map V.str).eraseIdx k = V.str x :: (l.eraseIdx k).map V.str
    rw [map_eraseIdx l k]
theorem erase_idx {ps : List Str} {k : Nat} (h : k < ps.length) : (ps.erase ps[k]).Perm (ps.eraseIdx k) := by
  have h1 : (ps[k] :: ps.eraseIdx k).Perm ps := cons_eraseIdx ps k h
  have h2 := (h1.erase ps[k]).symm
  rw [List.erase_cons_head] at h2
  exact h2
section
variable {P : Program} {w : World} {K : PySem.W.Frag} {mg : Str → Option Value} {base : Heap} {Ch Cp : Addr}
abbrev nLCounted : List Str := ["_law_row", "_law_handed", "_law_due", "_law_found"]
theorem scLCounted : FnScope nLCounted ["_law_row"] (defScope sLCounted) := ⟨rfl, rfl, rfl, by decide +kernel, rfl, by decide +kernel, by decide +kernel⟩
def spLCounted : Sp := fun vs H Q _ => ∃ (a : Addr) (ps B : List Str) (L : Nat), vs = [.ref a] ∧ H a = some (.lst (ps.map V.str)) ∧ RowOk ps L ∧ B.length ≤ 63 ∧ (∀ p ∈ ps, p ∈ B) ∧ ∀ H', Same H H' → Q (.bl true) H'
set_option maxHeartbeats 4000000 in
theorem ok_l_counted (D : HasDef K mg "_law_counted" sLCounted ["_law_row"]) (B : Blt mg) (G__law_heap : FOk P w K mg base 5 "_law_heap" ["_law_pieces_here"] (spHeap K)) (G_heap_of : FOkX P w K mg base 5 "heap_of" ["pieces"] (spHeapOf Ch)) (G__law_same_heap : FOk P w K mg base 5 "_law_same_heap" ["_law_found", "_law_due"] spSame)
    (G_size_of : FOk P w K mg base 5 "size_of" ["H"] spSizeOf) (G__law_whole : FOk P w K mg base 5 "_law_whole" ["_law_found"] spWhole) : FOk P w K mg base 6 "_law_counted" ["_law_row"] spLCounted := by
  refine D.ok scLCounted (fun vs H Q E h => ?_) (fun f cdv A outer s H vs Q E hr h => ?_)
  · obtain ⟨a, ps, Bs, L, rfl, _⟩ := h
    rfl
  · obtain ⟨a, ps, Bs, L, rfl, ha, hO, hB, hBs, k⟩ := h
    refine ⟨_, (pss_cons (ps_set (i := 1) scLCounted.nd rfl (Or.inl rfl) (pe_callTy call_list_of rfl B.list b_list (pa_cons (pv 0) pa_nil)))
      (pss_cons (ps_set (i := 2) scLCounted.nd rfl (Or.inl rfl) (pe_fn G__law_heap hr (pa_cons (pv 0) pa_nil)))
      (pss_cons (ps_if (PW.pt (pw_or (pt_not (pt_val (pe_fn G__law_same_heap hr (pa_cons (pe_fnN G_heap_of hr (pa_cons (pv 1) pa_nil)) (pa_cons (pv 2) pa_nil))))) (pw_or (pt_cmpR (op_neD hr.units) (pv 1) (pv 0) (nomark _)) (pw_or1 (pt_not (pt_val (pe_fn G__law_same_heap hr (pa_cons (pe_fnN G_heap_of hr (pa_cons (pe_callTy call_tuple_of rfl B.tuple b_tuple (pa_cons (pv 0) pa_nil)) pa_nil)) (pa_cons (pv 2) pa_nil))))))))) (pss_one (ps_ret pe_bl)) pss_nil)
      (pss_cons (ps_set (i := 3) scLCounted.nd rfl (Or.inl rfl) (pe_fn G_size_of hr (pa_cons (pv 2) pa_nil)))
      (pss_one (ps_ret (pe_and (pe_fn G__law_whole hr (pa_cons (pv 3) pa_nil)) (pe_one (pe_cmpR op_eq (pv 3) (pe_callB call_len rfl B.len b_len (pa_cons (pv 0) pa_nil)) (nomark _)))))))))), ?_⟩
    have hfew := hO.few
    have hlo := hO.lo
    refine ⟨_, rfl, a, _, rfl, .inl (SqL.of ha), fun p1 hp1 => ?_⟩
    have s1 := same_upd_new (o := .lst (ps.map V.str)) hp1
    refine ⟨_, rfl, a, ps, Bs, rfl, SqL.of (s1 _ _ ha), by omega, hB, hBs, fun v H2 hp s2 hA hH => ?_⟩
    have s12 := s1.trans s2
    have hI := row_heap hO hH
    have hf2 := hI.few
    refine ⟨_, rfl, .ref p1, rfl, .inr ⟨p1, ps, Bs, L, rfl, .inl (s2 _ _ upd_same), hO, hB, hBs, fun v3 H3 hp3 s3 hA3 hH3 => ?_⟩⟩
    have e3 : hp3 = hp := heap_one hH3 hH
    subst e3
    refine ⟨_, rfl, v3, v, hp3, rfl, hA3, hA.same s3.tup, by omega, row_codes hO.sg hH, _, rfl, iteF ?_⟩
    refine ⟨_, rfl, _, rfl, _, _, rep_slist (s3 _ _ (s2 _ _ upd_same)), rep_slist (s3 _ _ (s12 _ _ ha)), shaped_strs hO.sg, shaped_strs hO.sg, _, rfl, ?_⟩
    rw [eqv_strs hO.sg]
    refine iteF ?_
    have s13 := s12.trans s3
    refine ⟨_, rfl, a, _, rfl, .inl ⟨SqL.of (s13 _ _ ha), fun p4 hp4 => ?_⟩⟩
    have s4 := same_upd_new (o := .tup (ps.map V.str)) hp4
    refine ⟨.ref p4, rfl, .inr ⟨p4, ps, Bs, L, rfl, .inr upd_same, hO, hB, hBs, fun v5 H5 hp5 s5 hA5 hH5 => ?_⟩⟩
    have e5 : hp5 = hp3 := heap_one hH5 hH
    subst e5
    refine ⟨_, rfl, v5, v, hp5, rfl, hA5, hA.same ((s3.trans s4).trans s5).tup, by omega, row_codes hO.sg hH, _, rfl, iteF ?_⟩
    refine ⟨_, rfl, v, hp5, rfl, hA.same ((s3.trans s4).trans s5).tup, hI.fits, fun H6 s6 => ?_⟩
    rw [row_sum hH]
    have s16 := ((s13.trans s4).trans s5).trans s6
    refine ⟨_, rfl, .int ps.length, "int", rfl, .int _, _, rfl, iteT ?_⟩
    refine ⟨_, rfl, _, rfl, .ref a, ps.length, rfl, .inl ⟨_, SqL.of (s16 _ _ ha), by rw [List.length_map]⟩, rfl, ?_⟩
    have e : decide (V.int (ps.length : Int) = V.int (ps.length : Int)) = true := decide_eq_true rfl
    dsimp only
    rw [e]
    exact k H6 s16
/-! ### pieces taken out, one by one -/
abbrev nLTakenOut : List Str := ["_law_row", "_law_cell", "_law_left", "_law_heap_here", "_law_k", "_law_piece"]
theorem scLTakenOut : FnScope nLTakenOut ["_law_row", "_law_cell"] (defScope sLTakenOut) := ⟨rfl, rfl, rfl, by decide +kernel, rfl, by decide +kernel, by decide +kernel⟩
def spTaken : Sp := fun vs H Q _ => ∃ (a : Addr) (ps B : List Str) (cell : Int), vs = [.ref a, .int cell] ∧ H a = some (.lst (ps.map V.str)) ∧ ps.length ≤ 1000 ∧ (∀ p ∈ ps, p.cps.toList.all okSign = true) ∧ B.length ≤ 63 ∧ (∀ p ∈ ps, p ∈ B) ∧ ∀ H', Same H H' → Q (.bl true) H'
theorem seqIndex_nat {k n : Nat} (h : k < n) : seqIndex? (k : Int) n = some k := by
  unfold seqIndex?
  simp
  omega
set_option maxHeartbeats 4000000 in
theorem ok_l_taken (D : HasDef K mg "_law_taken_out" sLTakenOut ["_law_row", "_law_cell"]) (B : Blt mg) (G__law_heap : FOk P w K mg base 5 "_law_heap" ["_law_pieces_here"] (spHeap K)) (G_less_one : FOkX P w K mg base 5 "less_one" ["H", "piece"] (spLess Cp)) (G__law_same_heap : FOk P w K mg base 5 "_law_same_heap" ["_law_found", "_law_due"] spSame) :
    FOk P w K mg base 6 "_law_taken_out" ["_law_row", "_law_cell"] spTaken := by
  refine D.ok scLTakenOut (fun vs H Q E h => ?_) (fun f cdv A outer s H vs Q E hr h => ?_)
  · obtain ⟨a, ps, Bs, cell, rfl, _⟩ := h
    rfl
  · obtain ⟨a, ps, Bs, cell, rfl, ha, hl, hsg, hB, hBs, k⟩ := h
    refine ⟨_, (pss_cons (ps_set (i := 2) scLTakenOut.nd rfl (Or.inl rfl) (pe_callTy call_list_of rfl B.list b_list (pa_cons (pv 0) pa_nil)))
      (pss_cons (ps_set (i := 3) scLTakenOut.nd rfl (Or.inl rfl) (pe_fn G__law_heap hr (pa_cons (pv 2) pa_nil)))
      (pss_cons (ps_for PassesOwn.never rfl (pi_range1 rfl B.range (pa_cons pe_int pa_nil)) (pg_name (i := 4) scLTakenOut.nd rfl (Or.inl rfl))
        (pss_one (ps_if (pt_cmpR (op_neD hr.units) (pv 2) (pe_lst pa_nil) (nomark _)) (pss_cons (ps_set (i := 5) scLTakenOut.nd rfl (Or.inl rfl) (pe_bm F.plainAttrs_list F.slot_list_pop F.type_list_pop mt_popAtR (pv 2) (pa_cons (pe_op op_mod (pe_op op_add (pv 1) (pe_op op_mul (pv 4) (pv 4))) (pe_callB call_len rfl B.len b_len (pa_cons (pv 2) pa_nil))) pa_nil)))
      (pss_cons (ps_set (i := 3) scLTakenOut.nd rfl (Or.inl rfl) (pe_fnN G_less_one hr (pa_cons (pv 3) (pa_cons (pv 5) pa_nil))))
      (pss_one (ps_if (pt_not (pt_val (pe_fn G__law_same_heap hr (pa_cons (pv 3) (pa_cons (pe_fn G__law_heap hr (pa_cons (pv 2) pa_nil)) pa_nil))))) (pss_one (ps_ret pe_bl)) pss_nil)))) pss_nil)))
      (pss_one (ps_ret pe_bl))))), ?_⟩
    refine ⟨_, rfl, a, _, rfl, .inl (SqL.of ha), fun p hp => ?_⟩
    have s1 := same_upd_new (o := .lst (ps.map V.str)) hp
    refine ⟨_, rfl, p, ps, Bs, rfl, SqL.of upd_same, hl, hB, hBs, fun v H2 hp0 s2 hA hH => ?_⟩
    refine ⟨_, rfl, by decide, by decide, for_range (n := 12) (fun i σ H3 => ∃ (qs : List Str) (v : V) (hq : List Pr) (z4 z5 : Option V), σ = [some (.ref a), some (.int cell), some (.ref p), some v, z4, z5] ∧ Same H H3 ∧ H3 p = some (.lst (qs.map V.str)) ∧ HpAt H3 v hq ∧ HeapOf qs hq ∧ qs.length ≤ 1000 ∧ ∀ q ∈ qs, q ∈ ps)
      ⟨ps, v, hp0, none, none, rfl, s1.trans s2, s2 _ _ upd_same, hA, hH, hl, fun q m => m⟩ ?_ ?_⟩
    · rintro i σ H3 hi ⟨qs, v, hq, z4, z5, rfl, s3, h3, hA3, hH3, hl3, hsub⟩
      have hsg3 : ∀ q ∈ qs, q.cps.toList.all okSign = true := fun q m => hsg q (hsub q m)
      refine ⟨_, rfl, Nat.zero_le _, fun e he => ?_⟩
      have se := same_upd_new (o := .lst []) he
      refine ⟨_, _, rep_slist (se _ _ h3), rep_slist (ps := []) upd_same, shaped_strs hsg3, by decide +kernel, _, rfl, ?_⟩
      by_cases h0 : qs = []
      · subst h0
        refine iteF ?_
        exact ⟨[], v, hq, _, _, rfl, s3.trans se, se _ _ h3, hA3.same se.tup, hH3, hl3, hsub⟩
      have ev : PyData.eqv (.list (qs.map PyData.str)) (.list (([] : List Str).map PyData.str)) = false := by
        cases qs with
        | nil => exact absurd rfl h0
        | cons q r => simp [PyData.eqv, PyData.eqvAll]
      rw [ev]
      refine iteT ?_
      have hpos := List.length_pos_iff.mpr h0
      have mb := emod_bd (cell + (0 + (i : Int)) * (0 + (i : Int))) (show (0 : Int) < (qs.length : Int) by omega)
      generalize hj : (cell + (0 + (i : Int)) * (0 + (i : Int))) % (qs.length : Int) = j0 at mb
      obtain ⟨j, rfl⟩ := Int.eq_ofNat_of_zero_le mb.1
      have hj' : j < qs.length := by omega
      refine ⟨_, rfl, .inl ⟨rfl, _, SqL.of (se _ _ h3)⟩, _, rfl, _, rfl, _, rfl, _, _, rfl, rfl, .inl ⟨by omega, by omega⟩, _, _, rfl, rfl, _, rfl, .ref p, qs.length, rfl, .inl ⟨_, SqL.of (se _ _ h3), by rw [List.length_map]⟩, _, _, rfl, rfl, (by show (0 : Int) < (qs.length : Int); omega), ?_⟩
      dsimp only
      rw [hj]
      refine ⟨p, _, _, j, .str qs[j], rfl, rfl, se _ _ h3, by omega, by omega, by rw [List.length_map]; exact seqIndex_nat hj', by rw [List.getElem?_map, List.getElem?_eq_getElem hj']; rfl, ?_⟩
      have e6 : (qs.map V.str).eraseIdx j = (qs.eraseIdx j).map V.str := map_eraseIdx qs j
      rw [e6]
      have hpn : H p = none := hp
      have s4 : Same H (upd (upd H3 e (.lst [])) p (.lst ((qs.eraseIdx j).map V.str))) := same_new_upd (s3.trans se) hpn
      have ts : TSame H3 (upd (upd H3 e (.lst [])) p (.lst ((qs.eraseIdx j).map V.str))) := se.tup.trans (tsame_upd_lst (se _ _ h3))
      have h4 : (upd (upd H3 e (.lst [])) p (.lst ((qs.eraseIdx j).map V.str))) p = some (.lst ((qs.eraseIdx j).map V.str)) := upd_same
      generalize (upd (upd H3 e (.lst [])) p (.lst ((qs.eraseIdx j).map V.str))) = H4 at s4 ts h4
      have hsub' : ∀ q ∈ qs.eraseIdx j, q ∈ ps := fun q m => hsub q (List.mem_of_mem_eraseIdx m)
      have hl4 : (qs.eraseIdx j).length ≤ 1000 := Nat.le_trans (List.length_eraseIdx_le qs j) hl3
      refine ⟨_, rfl, _, rfl, v, hq, qs, qs[j], rfl, hA3.same ts, hH3, row_few hH3 hB fun q m => hBs q (hsub q m), .inr ⟨List.getElem_mem hj', fun v5 H5 hp5 s5 hA5 hH5 => ?_⟩⟩
      have hH5' := HeapOf.perm (erase_idx hj') hH5
      refine ⟨_, rfl, _, rfl, p, qs.eraseIdx j, Bs, rfl, SqL.of (s5 _ _ h4), hl4, hB, fun q m => hBs q (hsub' q m), fun v6 H6 hp6 s6 hA6 hH6 => ?_⟩
      have e7 : hp6 = hp5 := heap_one hH6 hH5'
      subst e7
      have hf := row_few hH6 hB fun q m => hBs q (hsub' q m)
      refine ⟨v5, v6, hp6, rfl, hA5.same s6.tup, hA6, by omega, row_codes (fun q m => hsg q (hsub' q m)) hH6, _, rfl, iteF ?_⟩
      exact ⟨qs.eraseIdx j, v5, hp6, _, _, rfl, (s4.trans s5).trans s6, s6 _ _ (s5 _ _ h4), hA5.same s6.tup, hH6, hl4, hsub'⟩
    · rintro σ H3 ⟨qs, v, hq, z4, z5, rfl, s3, _⟩
      exact k H3 s3
end
end Sh

set_option Elab.async false
set_option linter.all false
set_option maxRecDepth 100000
namespace L2
open PySem PySem.Spec PyProof.Rows
theorem rep_ints {H : Hp} : ∀ ns : List Int, RepA H (ns.map PyData.int) (ns.map V.int)
  | [] => by rw [List.map_nil, RepA]; rfl
  | p :: ps => by
    rw [List.map_cons, RepA]
    exact ⟨.int p, ps.map V.int, rfl, by rw [RepD], rep_ints ps⟩
theorem lay_ints : ∀ ns : List Int, PyData.canLayAll0 (ns.map PyData.int) = true
  | [] => by simp [PyData.canLayAll0]
  | p :: ps => by
    rw [List.map_cons, PyData.canLayAll0, lay_ints ps]
    simp [PyData.canLay0]
theorem depth_ints : ∀ ns : List Int, PyData.depthAll (ns.map PyData.int) = 0
  | [] => by simp [PyData.depthAll]
  | p :: ps => by
    rw [List.map_cons, PyData.depthAll, depth_ints ps]
    simp [PyData.depth]
theorem shaped_ints (ns : List Int) : SeqAt.shaped (.list (ns.map PyData.int)) = true := by
  unfold SeqAt.shaped
  rw [Bool.and_eq_true]
  constructor
  · rw [PyData.canLay0]
    exact lay_ints ns
  · refine decide_eq_true ?_
    rw [PyData.depth, depth_ints ns]
    decide
/-- a list of numbers == [] -/
theorem op_eqE {X : Cx} (hu : X.A.units + 64 < cLine) : OpR X (compareOp .Eq) (fun x y H Q => ∃ (a b : Addr) (ns : List Int), x = .ref a ∧ y = .ref b ∧ SqL X.K H a (ns.map V.int) ∧ H b = some (.lst []) ∧ Q (.bl ns.isEmpty) H) := by
  intro pins s σ H x y v u Q I rx ry h
  obtain ⟨a, b, ns, rfl, rfl, ha, hb, q⟩ := h
  cases rx
  obtain ⟨its, rv, ⟨o, n, h1, h2, _, h3⟩, _⟩ := I.list ha
  obtain ⟨as, q3⟩ := RepA.reads I (ns.map PyData.int) (ns.map V.int) its (rep_ints ns) rv
  obtain ⟨bs, q2⟩ := RepD.reads I (.list []) (.ref b) u (by rw [RepD]; exact ⟨b, [], rfl, hb, by rw [RepA]⟩) ry
  refine eq_dataH (.list h1 h2 h3 (by simpa using q3)) q2 (shaped_ints ns) (by decide +kernel) hu ⟨.bl _, H, I, rfl, ?_⟩
  have e : PyData.eqv (.list (ns.map PyData.int)) (.list []) = ns.isEmpty := by
    cases ns with
    | nil => simp [PyData.eqv, PyData.eqvAll]
    | cons n r => simp [PyData.eqv, PyData.eqvAll]
  rw [e]
  exact q
end L2
namespace Sh
open PySem L2 PyProof.Rows
seal L2.PE L2.PS L2.PSs L2.PT L2.PW L2.PA L2.PI L2.PG L2.PGs L2.PO L2.PC L2.PCs L2.OpR L2.UnR L2.CallR L2.MtR L2.IxR L2.SlR
abbrev sLPieces : Stmt := top 32
section
variable {P : Program} {w : World} {K : PySem.W.Frag} {mg : Str → Option Value} {base : Heap}
abbrev nLPieces : List Str := ["_law_script", "_law_seed_here", "_law_few", "_law_some", "_law_long", "_law_found", "_law_cell", "_law_number", "_law_piece", "_law_k"]
theorem scLPieces : FnScope nLPieces ["_law_script", "_law_seed_here"] (defScope sLPieces) := ⟨rfl, rfl, rfl, by decide +kernel, rfl, by decide +kernel, by decide +kernel⟩
structure RowB (ps B : List Str) (L : Nat) : Prop where
  ok : RowOk ps L
  nine : L ≤ 9
  few : B.length ≤ 63
  sub : ∀ p ∈ ps, p ∈ B
def spLPieces (K : PySem.W.Frag) : Sp := fun vs H Q _ => ∃ (a : Addr) (ns : List Int) (sd : Int), vs = [.ref a, .int sd] ∧ SqL K H a (ns.map V.int) ∧ ns.length ≤ 63 ∧ 0 ≤ sd ∧ sd < 2147483647 ∧ ∀ (p : Addr) (ps B : List Str) (L : Nat) (H' : Hp), Same H H' → H' p = some (.lst (ps.map V.str)) → RowB ps B L → Q (.ref p) H'
theorem rep_take {α : Type} {l : List α} {n m : Nat} : ∀ x ∈ ((List.replicate n l).flatten).take m, x ∈ l := fun x h => by
  obtain ⟨q, mq, mx⟩ := List.mem_flatten.mp (List.mem_of_mem_take h)
  rw [(List.mem_replicate.mp mq).2] at mx
  exact mx
theorem flat_len {α : Type} (n : Nat) (l : List α) : ((List.replicate n l).flatten).length = n * l.length := by
  induction n with
  | zero => simp
  | succ n ih => rw [List.replicate_succ, List.flatten_cons, List.length_append, ih, Nat.succ_mul, Nat.add_comm]
theorem flat_map {α β : Type} (f : α → β) (n : Nat) (l : List α) : ((List.replicate n (l.map f)).flatten) = ((List.replicate n l).flatten).map f := by
  induction n with
  | zero => rfl
  | succ n ih => rw [List.replicate_succ, List.flatten_cons, List.replicate_succ, List.flatten_cons, List.map_append, ih]
theorem letF_ok (sd : Int) (k : Nat) : okSign (letF sd k) = true := by
  have h1 := Int.emod_nonneg (sd / 6 + k * stepL sd) (show (26 : Int) ≠ 0 by decide)
  have h2 := Int.emod_lt_of_pos (sd / 6 + k * stepL sd) (show (0 : Int) < 26 by decide)
  unfold letF
  generalize (sd / 6 + k * stepL sd) % 26 = z at h1 h2
  simp only [okSign, Bool.and_eq_true, decide_eq_true_eq]
  constructor <;> omega
theorem app_codes (a b : Str) : (a ++ b).cps.toList = a.cps.toList ++ b.cps.toList := by simp [Str.cps_append]
theorem take_sg {z : List Nat} {c : Nat} (h : z.all okSign = true) (hc : okSign c = true) : (z ++ [c]).all okSign = true := by
  rw [List.all_append, h]
  simp [hc]
set_option maxHeartbeats 8000000 in
theorem ok_l_pieces (D : HasDef K mg "_law_pieces" sLPieces ["_law_script", "_law_seed_here"]) (B : Blt mg) (G__law_alphabet : FOk P w K mg base 1 "_law_alphabet" ["_law_seed_here", "_law_few"] spAlph) : FOk P w K mg base 2 "_law_pieces" ["_law_script", "_law_seed_here"] (spLPieces K) := by
  refine D.ok scLPieces (fun vs H Q E h => ?_) (fun f cdv A outer s H vs Q E hr h => ?_)
  · obtain ⟨a, ns, sd, rfl, _⟩ := h
    rfl
  · obtain ⟨a, ns, sd, rfl, ha, hl, h0, h1, k⟩ := h
    refine ⟨_, (pss_cons (ps_set (i := 2) scLPieces.nd rfl (Or.inl rfl) (pe_op op_add pe_int (pe_op op_mod (pv 1) pe_int)))
      (pss_cons (ps_set (i := 3) scLPieces.nd rfl (Or.inl rfl) (pe_fn G__law_alphabet hr (pa_cons (pe_op op_fdiv (pv 1) pe_int) (pa_cons (pv 2) pa_nil))))
      (pss_cons (ps_set (i := 4) scLPieces.nd rfl (Or.inl rfl) (pe_op op_add pe_int (pe_op op_mod (pe_op op_fdiv (pv 1) pe_int) pe_int)))
      (pss_cons (ps_set (i := 5) scLPieces.nd rfl (Or.inl rfl) (pe_lst pa_nil))
      (pss_cons (ps_for PassesOwn.never rfl (pi_list (pe_op op_cat (pe_slice sl_list (pv 0) po_none (po_some pe_int)) (pe_slice sl_list (pe_lst (pa_cons (pv 1) pa_nil)) po_none (po_some (pe_callTy call_int1 rfl B.int b_int (pa_cons (pe_cmpR (op_eqE hr.units) (pv 0) (pe_lst pa_nil) (nomark _)) pa_nil)))))) (pg_name (i := 6) scLPieces.nd rfl (Or.inl rfl))
        (pss_cons (ps_set (i := 7) scLPieces.nd rfl (Or.inl rfl) (pe_op op_mod (pv 6) (pe_op op_pow pe_int pe_int)))
      (pss_cons (ps_set (i := 8) scLPieces.nd rfl (Or.inl rfl) pe_str)
      (pss_cons (ps_for PassesOwn.never rfl (pi_range1 rfl B.range (pa_cons (pv 4) pa_nil)) (pg_name (i := 9) scLPieces.nd rfl (Or.inl rfl))
        (pss_cons (ps_set (i := 8) scLPieces.nd rfl (Or.inl rfl) (pe_op op_add_str (pv 8) (pe_ix ix_list (pv 3) (pe_op op_mod (pv 7) (pv 2)) (fun _ _ => rfl))))
      (pss_one (ps_set (i := 7) scLPieces.nd rfl (Or.inl rfl) (pe_op op_add (pe_op op_fdiv (pv 7) (pv 2)) (pe_ix ix_list (pe_lst (pa_cons pe_int (pa_cons (pv 1) pa_nil))) (pe_op op_mod (pe_op op_fdiv (pv 1) pe_int) pe_int) (fun _ _ => rfl)))))))
      (pss_one (ps_expr (pe_bm F.plainAttrs_list F.slot_list_append F.type_list_append mt_appendR (pv 5) (pa_cons (pv 8) pa_nil))))))))
      (pss_cons (ps_if (pt_cmpR op_eq (pe_op op_mod (pe_op op_fdiv (pv 1) pe_int) pe_int) pe_int (nomark _)) (pss_one (ps_set (i := 5) scLPieces.nd rfl (Or.inl rfl) (pe_slice sl_list (pe_op op_rep (pv 5) pe_int) po_none (po_some (pe_op op_sub pe_int (pv 4)))))) pss_nil)
      (pss_one (ps_ret (pv 5))))))))), ?_⟩
    have two : (2 : Nat) ≤ sizeLine := by rw [sizeLine_eq]; decide
    have m2 := emod_bd sd (show (0 : Int) < 2 by decide)
    have m9 := emod_bd (sd / 7) (show (0 : Int) < 9 by decide)
    have m5 := emod_bd (sd / 5) (show (0 : Int) < 2 by decide)
    refine ⟨_, rfl, _, _, rfl, rfl, (by show (0 : Int) < 2; decide), _, _, rfl, rfl, ?_⟩
    obtain ⟨few, ef⟩ : ∃ few : Nat, 2 + sd % 2 = few := ⟨(2 + sd % 2).toNat, by omega⟩
    obtain ⟨L, eL⟩ : ∃ L : Nat, 1 + sd / 7 % 9 = L := ⟨(1 + sd / 7 % 9).toNat, by omega⟩
    have hf : 2 ≤ few ∧ few ≤ 3 := by omega
    have hL : 1 ≤ L ∧ L ≤ 9 := by omega
    dsimp only
    rw [ef]
    refine ⟨_, rfl, _, _, rfl, rfl, ⟨by decide, by decide⟩, _, rfl, sd / 2, few, rfl, by omega, by omega, fun pl H1 s1 hpl => ?_⟩
    refine ⟨_, rfl, _, _, rfl, rfl, ⟨by decide, by decide⟩, _, _, rfl, rfl, (by show (0 : Int) < 9; decide), _, _, rfl, rfl, ?_⟩
    dsimp only
    rw [eL]
    refine ⟨Nat.zero_le _, fun pf hpf => ?_⟩
    have s2 := same_upd_new (o := .lst []) hpf
    have s12 := s1.trans s2
    refine ⟨_, rfl, _, rfl, a, _, rfl, s12.seq ha, fun p3 hp3 => ?_⟩
    rw [cut63 (ns.map V.int) (by rw [List.length_map]; exact hl)]
    have s3 := same_upd_new (o := .lst (ns.map V.int)) hp3
    refine ⟨_, rfl, (show 1 ≤ sizeLine by rw [sizeLine_eq]; decide), fun p4 hp4 => ?_⟩
    have s4 := same_upd_new (o := .lst [.int sd]) hp4
    refine ⟨_, rfl, Nat.zero_le _, fun p5 hp5 => ?_⟩
    have s5 := same_upd_new (o := .lst []) hp5
    refine ⟨a, p5, ns, rfl, rfl, (((s12.trans s3).trans s4).trans s5).seq ha, upd_same, .inr ⟨_, rfl, _, rfl, p4, _, rfl, SqL.of (s5 _ _ upd_same), fun p6 hp6 => ?_⟩⟩
    have ecs : ∃ cs : List Int, ns.map V.int ++ cutV [V.int sd] none (some (if ns.isEmpty = true then 1 else 0)) = cs.map V.int ∧ 1 ≤ cs.length ∧ cs.length ≤ 63 := by
      cases ns with
      | nil => exact ⟨[sd], by rfl, Nat.le_refl _, (show 1 ≤ 63 by decide)⟩
      | cons n r =>
        refine ⟨n :: r, ?_, by simp, hl⟩
        have : cutV [V.int sd] none (some (if (n :: r).isEmpty = true then 1 else 0)) = [] := by rfl
        rw [this, List.append_nil]
    have s6 := same_upd_new (o := .lst (cutV [V.int sd] none (some (if ns.isEmpty = true then 1 else 0)))) hp6
    obtain ⟨cs, e1, c1, c2⟩ := ecs
    refine ⟨p3, p6, _, _, rfl, rfl, s6 _ _ (s5 _ _ (s4 _ _ upd_same)), upd_same, ?_, fun p7 hp7 => ?_⟩
    · have := congrArg List.length e1
      rw [List.length_append] at this
      rw [this, List.length_map]
      exact size_small (by omega)
    rw [e1]
    have s7 := same_upd_new (o := .lst (cs.map V.int)) hp7
    have sA : Same H1 (upd H1 pf (.lst [])) := s2
    have sB := ((((s3.trans s4).trans s5).trans s6).trans s7)
    refine ⟨p7, rfl, ⟨_, SqL.of upd_same⟩, for_list (K := K) (a := p7) (xs := cs.map V.int) (fun i σ H3 => ∃ (bs : List Str) (z6 z7 z8 z9 : Option V), σ = [some (.ref a), some (.int sd), some (.int few), some (.ref pl), some (.int L), some (.ref pf), z6, z7, z8, z9] ∧ Same H1 H3 ∧ H3 pf = some (.lst (bs.map V.str)) ∧ H3 p7 = some (.lst (cs.map V.int)) ∧ bs.length = i ∧ (∀ b ∈ bs, b.length = L) ∧ ∀ b ∈ bs, b.cps.toList.all okSign = true)
      ⟨[], none, none, none, none, rfl, sA.trans sB, sB _ _ upd_same, upd_same, rfl, fun b m => (by cases m), fun b m => (by cases m)⟩ (fun i σ H3 _ ⟨_, _, _, _, _, _, _, _, e, _⟩ => SqL.of e) ?_ ?_⟩
    · rintro i x σ H3 hi ⟨bs, z6, z7, z8, z9, rfl, s3', h3, h7, hbl, hbL, hbs⟩
      have hi' : i < cs.length := by
        have := (List.getElem?_eq_some_iff.mp hi).1
        rw [List.length_map] at this
        exact this
      rw [List.getElem?_map, List.getElem?_eq_getElem hi'] at hi
      have ex : x = V.int cs[i] := (Option.some.inj hi).symm
      subst ex
      refine ⟨_, rfl, _, _, rfl, rfl, ⟨by decide, by decide, by decide⟩, _, _, rfl, rfl, (by show (0 : Int) < 10 ^ 18; decide), ?_⟩
      refine ⟨_, rfl, _, rfl, by omega, by omega, ?_⟩
      rw [Int.toNat_natCast]
      refine for_range (n := L) (fun j σ H4 => ∃ (z : List Nat) (num : Int) (z9 : Option V), σ = [some (.ref a), some (.int sd), some (.int few), some (.ref pl), some (.int L), some (.ref pf), some (.int cs[i]), some (.int num), some (.str (tx z)), z9] ∧ Same H3 H4 ∧ z.length = j ∧ z.all okSign = true)
        ⟨[], _, z9, rfl, Same.refl _, rfl, rfl⟩ ?_ ?_
      · rintro j σ H4 hj ⟨z, num, z9', rfl, s4', hzl, hzs⟩
        have mf := emod_bd num (show (0 : Int) < (few : Int) by omega)
        refine ⟨_, rfl, _, rfl, _, rfl, _, rfl, _, _, rfl, rfl, (by show (0 : Int) < (few : Int); omega), pl, _, _, .str (tx [letF (sd / 2) (num % (few : Int)).toNat]), rfl, rfl, SqL.of (s4' _ _ (s3' _ _ hpl)), ?_, _, _, rfl, rfl, ?_, ?_⟩
        · refine item_at mf.1 ?_
          rw [List.getElem?_map, List.getElem?_range (by omega)]
          rfl
        · rw [tx_len, tx_len]
          exact size_small (by simp; omega)
        refine ⟨_, rfl, _, rfl, _, _, rfl, rfl, ⟨by omega, by omega⟩, _, rfl, two, fun q hq => ⟨_, rfl, _, _, rfl, rfl, ⟨by decide, by decide⟩, _, _, rfl, rfl, (by show (0 : Int) < 2; decide), q, _, _, _, rfl, rfl, SqL.of upd_same, menu_at (ns := [0, sd]) m5.1 m5.2, _, _, rfl, rfl, ?_⟩⟩
        refine ⟨z ++ [letF (sd / 2) (num % (few : Int)).toNat], num / (few : Int) + [0, sd].getD (sd / 5 % 2).toNat 0, some (.int (0 + (j : Int))), ?_, s4'.trans (same_upd_new hq), by rw [List.length_append, hzl]; rfl, take_sg hzs (letF_ok _ _)⟩
        have et : tx z ++ tx [letF (sd / 2) (num % (few : Int)).toNat] = tx (z ++ [letF (sd / 2) (num % (few : Int)).toNat]) := by
          apply codes_inj
          rw [app_codes, tx_list, tx_list, tx_list]
        dsimp only
        rw [et]
        rfl
      · rintro σ H4 ⟨z, num, z9', rfl, s4', hzl, hzs⟩
        have h4 := s4' _ _ h3
        refine ⟨_, rfl, .inl ⟨rfl, _, SqL.of h4⟩, _, rfl, pf, _, _, rfl, rfl, h4, ?_, ?_⟩
        · rw [List.length_map]
          exact Nat.lt_of_lt_of_le (show bs.length < 1000 by omega) (size_small (by decide))
        refine ⟨bs ++ [tx z], _, _, _, _, rfl, fun b o e => ?_, by rw [upd_same, List.map_append]; rfl, ?_, by rw [List.length_append, hbl]; rfl, fun b m => ?_, fun b m => ?_⟩
        · rw [upd_ne (ne_of_none e hpf)]
          exact s4' _ _ (s3' b o e)
        · have ne : p7 ≠ pf := by
            rintro rfl
            rw [h3] at h7
            injection h7 with h7
            injection h7 with h7
            have h8 := congrArg List.length h7
            rw [List.length_map, List.length_map] at h8
            omega
          rw [upd_ne ne]
          exact s4' _ _ h7
        · rcases List.mem_append.mp m with m | m
          · exact hbL b m
          · rw [List.mem_singleton.mp m, tx_len, hzl]
        · rcases List.mem_append.mp m with m | m
          · exact hbs b m
          · rw [List.mem_singleton.mp m, tx_list]
            exact hzs
    · rintro σ H3 ⟨bs, z6, z7, z8, z9, rfl, s3', h3, h7, hbl, hbL, hbs⟩
      rw [List.length_map] at hbl
      have m4 := emod_bd (sd / 3) (show (0 : Int) < 4 by decide)
      have hne : bs ≠ [] := fun z => by rw [z] at hbl; simp at hbl; omega
      refine ⟨_, rfl, _, _, rfl, rfl, ⟨by decide, by decide⟩, _, _, rfl, rfl, (by show (0 : Int) < 4; decide), rfl, _, rfl, ite2 (fun e => ?_) (fun e => ?_)⟩
      · refine ⟨_, rfl, pf, 300, _, rfl, rfl, h3, by decide, by decide, ?_, fun q1 hq1 => ?_⟩
        · rw [List.length_map]
          exact size_small (by show bs.length * 300 ≤ 16777216; omega)
        refine ⟨_, rfl, _, _, rfl, rfl, _, rfl, q1, _, rfl, SqL.of upd_same, fun q2 hq2 => ?_⟩
        have hlen : ((List.replicate 300 (bs.map V.str)).flatten).length = 300 * bs.length := by rw [flat_len, List.length_map]
        have ecut : cutV ((List.replicate 300 (bs.map V.str)).flatten) none (some (301 - (L : Int))) = (((List.replicate 300 bs).flatten).take (301 - L)).map V.str := by
          have e2 : (301 - (L : Int)) = ((301 - L : Nat) : Int) := by omega
          rw [e2, cut_to (by rw [hlen]; omega), flat_map, List.map_take]
        refine ⟨_, rfl, ?_⟩
        show Q (.ref q2) (upd (upd H3 q1 (.lst ((List.replicate 300 (bs.map V.str)).flatten))) q2 (.lst (cutV ((List.replicate 300 (bs.map V.str)).flatten) none (some (301 - (L : Int))))))
        rw [ecut]
        have hl2 : (((List.replicate 300 bs).flatten).take (301 - L)).length = 301 - L := by
          rw [List.length_take, flat_len]
          omega
        refine k q2 _ bs L _ (((s1.trans s3').trans (same_upd_new hq1)).trans (same_upd_new hq2)) upd_same ⟨⟨?_, hL.1, fun p m => hbL p (rep_take p m), fun p m => hbs p (rep_take p m), by omega⟩, hL.2, by omega, fun p m => rep_take p m⟩
        intro z
        rw [z] at hl2
        simp at hl2
        omega
      · refine ⟨_, rfl, ?_⟩
        exact k pf bs bs L H3 (s1.trans s3') h3 ⟨⟨hne, hL.1, hbL, hbs, by omega⟩, hL.2, by omega, fun p m => m⟩
end
end Sh

set_option Elab.async false
set_option linter.all false
set_option maxRecDepth 100000
namespace Sh
open PySem L2 PyProof.Rows
seal L2.PE L2.PS L2.PSs L2.PT L2.PW L2.PA L2.PI L2.PG L2.PGs L2.PO L2.PC L2.PCs L2.OpR L2.UnR L2.CallR L2.MtR L2.IxR L2.SlR
abbrev sLNoRow : Stmt := top 35
abbrev sLOtherPiece : Stmt := top 36
theorem in_strs {x : Str} {ps : List Str} : inV (.str x) (ps.map V.str) = decide (x ∈ ps) := by
  unfold inV
  rw [List.any_map, Bool.eq_iff_iff, List.any_eq_true, decide_eq_true_eq]
  constructor
  · rintro ⟨y, my, e⟩
    have : y = x := by simpa [eqV] using e
    exact this ▸ my
  · intro m
    exact ⟨x, m, by simp [eqV]⟩
theorem flat_strs (ps : List Str) : (ps.map V.str).all flatV = true := by
  rw [List.all_map, List.all_eq_true]
  intro x _
  rfl
theorem at_getD3 {xs : List V} {i : Int} (h0 : 0 ≤ i) (h1 : i < xs.length) : atI xs i = some (xs.getD i.toNat .non) := by
  have h : i.toNat < xs.length := by omega
  refine item_at h0 ?_
  rw [getV h, List.getElem?_eq_getElem h]
/-! ### an odd thing among pieces -/
def OddV (L : Nat) (x : V) : Prop := isTextV x = false ∨ lenV x ≠ L
theorem odd_bad {ps : List Str} {L i : Nat} {x : V} (hne : ps ≠ []) (hL : ∀ p ∈ ps, p.length = L) (hx : OddV L x) : areV ((ps.take i).map V.str ++ [x] ++ (ps.drop i).map V.str) = false := by
  rcases hx with hx | hx
  · have : ((ps.take i).map V.str ++ [x] ++ (ps.drop i).map V.str).all isTextV = false := by
      rw [List.all_append, List.all_append]
      simp [hx]
    unfold areV
    rw [this, Bool.and_false, Bool.false_and]
  · unfold areV
    have : (((ps.take i).map V.str ++ [x] ++ (ps.drop i).map V.str).all fun y => decide (lenV y = lenV (((ps.take i).map V.str ++ [x] ++ (ps.drop i).map V.str).headD .non))) = false := by
      have hmem : ∀ p ∈ ps, V.str p ∈ (ps.take i).map V.str ++ [x] ++ (ps.drop i).map V.str := fun p m => by
        rw [← List.take_append_drop i ps] at m
        rcases List.mem_append.mp m with m | m
        · exact List.mem_append_left _ (List.mem_append_left _ (List.mem_map_of_mem m))
        · exact List.mem_append_right _ (List.mem_map_of_mem m)
      obtain ⟨p, mp⟩ := List.exists_mem_of_ne_nil _ hne
      have lp := hL p mp
      generalize hd : lenV (((ps.take i).map V.str ++ [x] ++ (ps.drop i).map V.str).headD .non) = d
      by_cases c : d = L
      · refine List.all_eq_false.mpr ⟨x, by simp, ?_⟩
        simp [c, hx]
      · refine List.all_eq_false.mpr ⟨V.str p, hmem p mp, ?_⟩
        have : ¬ lenV (V.str p) = d := by
          show ¬ p.length = d
          omega
        simp [this]
    rw [this, Bool.and_false]
theorem are_of {ps : List Str} {L : Nat} (hne : ps ≠ []) (h1 : 1 ≤ L) (h3 : L ≤ 300) (hL : ∀ p ∈ ps, p.length = L) (hsg : ∀ p ∈ ps, p.cps.toList.all okSign = true) : areV (ps.map V.str) = true := by
  unfold areV
  cases ps with
  | nil => exact absurd rfl hne
  | cons p r =>
    simp only [List.map_cons, List.isEmpty_cons, Bool.not_false, Bool.true_and, List.headD_cons, Bool.and_eq_true, List.all_eq_true]
    constructor
    · intro y m
      rw [← List.map_cons (f := V.str)] at m
      obtain ⟨q, mq, rfl⟩ := List.mem_map.mp m
      have l1 := hL q mq
      simp only [isTextV, isLongV, hsg q mq, Bool.and_true, Bool.and_eq_true, decide_eq_true_eq]
      omega
    · intro y m
      rw [← List.map_cons (f := V.str)] at m
      obtain ⟨q, mq, rfl⟩ := List.mem_map.mp m
      exact decide_eq_true ((hL q mq).trans (hL p List.mem_cons_self).symm)
section
variable {P : Program} {w : World} {K : PySem.W.Frag} {mg : Str → Option Value} {base : Heap}
/-! ### a piece that the row does not have -/
abbrev nLOtherPiece : List Str := ["_law_row", "_law_cell", "_law_piece", "_law_at", "_law_odd"]
theorem scLOtherPiece : FnScope nLOtherPiece ["_law_row", "_law_cell"] (defScope sLOtherPiece) := ⟨rfl, rfl, rfl, by decide +kernel, rfl, by decide +kernel, by decide +kernel⟩
def spOther : Sp := fun vs H Q _ => ∃ (a : Addr) (ps : List Str) (L : Nat) (cell : Int), vs = [.ref a, .int cell] ∧ H a = some (.lst (ps.map V.str)) ∧ RowOk ps L ∧ 0 ≤ cell ∧ ∀ (x : Str) (H' : Hp), Same H H' → x ∉ ps → Q (.str x) H'
set_option maxHeartbeats 4000000 in
theorem ok_l_other (D : HasDef K mg "_law_other_piece" sLOtherPiece ["_law_row", "_law_cell"]) (B : Blt mg) : FOk P w K mg base 1 "_law_other_piece" ["_law_row", "_law_cell"] spOther := by
  refine D.ok scLOtherPiece (fun vs H Q E h => ?_) (fun f cdv A outer s H vs Q E hr h => ?_)
  · obtain ⟨a, ps, L, cell, rfl, _⟩ := h
    rfl
  · obtain ⟨a, ps, L, cell, rfl, ha, hO, hc, k⟩ := h
    refine ⟨_, (pss_cons (ps_set (i := 2) scLOtherPiece.nd rfl (Or.inl rfl) (pe_ix ix_list (pv 0) (pe_op op_mod (pv 1) (pe_callB call_len rfl B.len b_len (pa_cons (pv 0) pa_nil))) (fun _ _ => rfl)))
      (pss_cons (ps_set (i := 3) scLOtherPiece.nd rfl (Or.inl rfl) (pe_op op_mod (pe_op op_fdiv (pv 1) pe_int) (pe_callB call_len rfl B.len b_len (pa_cons (pv 2) pa_nil))))
      (pss_cons (ps_for PassesOwn.never rfl (pi_list (pe_lst (pa_cons (pe_op op_add_str (pe_op op_add_str (pe_slice sl_str (pv 2) po_none (po_some (pv 3))) pe_str) (pe_slice sl_str (pv 2) (po_some (pe_op op_add (pv 3) pe_int)) po_none)) (pa_cons (pe_op op_add_str (pe_op op_add_str (pe_slice sl_str (pv 2) po_none (po_some (pv 3))) pe_str) (pe_slice sl_str (pv 2) (po_some (pe_op op_add (pv 3) pe_int)) po_none)) (pa_cons (pe_op op_mulS pe_str (pe_callB call_len rfl B.len b_len (pa_cons (pv 2) pa_nil))) pa_nil))))) (pg_name (i := 4) scLOtherPiece.nd rfl (Or.inl rfl))
        (pss_one (ps_if (pt_cmpR op_notIn_seq (pv 4) (pv 0) rfl) (pss_one (ps_ret (pe_ix ix_list (pe_lst (pa_cons (pv 4) (pa_cons (pe_op op_add_str (pv 2) pe_str) (pa_cons (pe_op op_add_str (pv 4) (pv 2)) pa_nil)))) (pe_op op_mod (pv 1) pe_int) (fun _ _ => rfl)))) pss_nil)))
      (pss_one (ps_ret (pe_op op_add_str (pv 2) (pv 2))))))), ?_⟩
    have hfew := hO.few
    have hlo := hO.lo
    have hpos := List.length_pos_iff.mpr hO.ne
    have three : (3 : Nat) ≤ sizeLine := by rw [sizeLine_eq]; decide
    have mb := emod_bd cell (show (0 : Int) < (ps.length : Int) by omega)
    have m3 := emod_bd cell (show (0 : Int) < 3 by decide)
    refine ⟨_, rfl, _, rfl, _, rfl, .ref a, ps.length, rfl, .inl ⟨_, SqL.of ha, by rw [List.length_map]⟩, _, _, rfl, rfl, (by show (0 : Int) < (ps.length : Int); omega), ?_⟩
    generalize hi : cell % (ps.length : Int) = i0 at mb
    obtain ⟨i, rfl⟩ := Int.eq_ofNat_of_zero_le mb.1
    have hi' : i < ps.length := by omega
    have lp := hO.len _ (List.getElem_mem hi')
    generalize hpp : ps[i] = pc at lp
    refine ⟨a, _, _, .str pc, rfl, (by dsimp only; rw [hi]), SqL.of ha, atI_nat (by rw [List.getElem?_map, List.getElem?_eq_getElem hi', hpp]; rfl), ?_⟩
    have zp : pc.length ≤ sizeLine := size_small (by omega)
    have m1 := emod_bd (cell / 3) (show (0 : Int) < (pc.length : Int) by omega)
    refine ⟨_, rfl, _, _, rfl, rfl, ⟨by decide, by decide⟩, _, rfl, .str pc, _, rfl, ⟨zp, rfl⟩, _, _, rfl, rfl, (by show (0 : Int) < (pc.length : Int); omega), ?_⟩
    dsimp only
    generalize cell / 3 % (pc.length : Int) = at0 at m1
    have q1 := (fact_slice_ns pc at0).1 m1.1 (by omega)
    have q2 := (fact_slice_sn pc (at0 + 1)).1 (by omega) (by omega)
    have lq : ("q" : Str).length = 1 := rfl
    have lx : ("x" : Str).length = 1 := rfl
    have lj : ("j" : Str).length = 1 := rfl
    have la : ("a" : Str).length = 1 := rfl
    have l1 : (Txt.slice pc none (some at0) ++ ("q" : Str) ++ Txt.slice pc (some (at0 + 1)) none).length = L := by
      rw [Str.length_append, Str.length_append]
      omega
    have l2 : (Txt.slice pc none (some at0) ++ ("x" : Str) ++ Txt.slice pc (some (at0 + 1)) none).length = L := by
      rw [Str.length_append, Str.length_append]
      omega
    have l3 : (Txt.mul ("j" : Str) (pc.length : Int)).length = L := by
      have := len_mul ("j" : Str) (pc.length : Int)
      rw [if_neg (by simp), lj, show ((1 : Nat) : Int) = 1 from rfl, Int.one_mul] at this
      omega
    have notin : ∀ x : Str, x.length ≠ L → x ∉ ps := fun x h m => h (hO.len x m)
    refine ⟨_, rfl, _, rfl, _, rfl, _, rfl, zp, _, _, rfl, rfl, size_small (by omega), _, rfl, _, rfl, _, _, rfl, rfl, _, rfl, _, rfl, zp, _, _, rfl, rfl, (by rw [Str.length_append]; exact size_small (by omega)),
      _, rfl, _, rfl, _, rfl, _, rfl, zp, _, _, rfl, rfl, size_small (by omega), _, rfl, _, rfl, _, _, rfl, rfl, _, rfl, _, rfl, zp, _, _, rfl, rfl, (by rw [Str.length_append]; exact size_small (by omega)),
      _, rfl, .str pc, _, rfl, ⟨zp, rfl⟩, _, _, rfl, rfl, mulOk_nat (by omega) (by omega) (by omega), three, fun p hp => ?_⟩
    generalize Txt.slice pc none (some at0) ++ ("q" : Str) ++ Txt.slice pc (some (at0 + 1)) none = o1 at l1 hp
    generalize Txt.slice pc none (some at0) ++ ("x" : Str) ++ Txt.slice pc (some (at0 + 1)) none = o2 at l2 hp
    generalize Txt.mul ("j" : Str) (pc.length : Int) = o3 at l3 hp
    have sp := same_upd_new (o := .lst ([o1, o2, o3].map V.str)) hp
    refine ⟨p, rfl, ⟨_, SqL.of upd_same⟩, for_list (K := K) (a := p) (xs := [o1, o2, o3].map V.str) (fun i σ H3 => ∃ z4 : Option V, σ = [some (.ref a), some (.int cell), some (.str pc), some (.int at0), z4] ∧ H3 = upd H p (.lst ([o1, o2, o3].map V.str)))
      ⟨none, rfl, rfl⟩ (fun i σ H3 _ ⟨_, _, e⟩ => by rw [e]; exact SqL.of upd_same) ?_ ?_⟩
    · rintro i x σ H3 hi3 ⟨z4, rfl, rfl⟩
      have hx : ∃ o : Str, x = .str o ∧ o.length = L := by
        have hlt := (List.getElem?_eq_some_iff.mp hi3).1
        match i, hi3 with
        | 0, e => cases e; exact ⟨o1, rfl, l1⟩
        | 1, e => cases e; exact ⟨o2, rfl, l2⟩
        | 2, e => cases e; exact ⟨o3, rfl, l3⟩
      obtain ⟨o, rfl, lo⟩ := hx
      refine ⟨_, rfl, _, rfl, a, _, rfl, .inl (SqL.of (sp _ _ ha)), rfl, flat_strs ps, _, rfl, ?_⟩
      rw [in_strs]
      by_cases m : o ∈ ps
      · rw [decide_eq_true m]
        exact iteF ⟨_, rfl, rfl⟩
      · rw [decide_eq_false m]
        refine iteT ?_
        refine ⟨_, rfl, _, rfl, _, _, rfl, rfl, size_small (by omega), _, rfl, _, rfl, _, _, rfl, rfl, size_small (by omega), three, fun q hq => ?_⟩
        refine ⟨_, rfl, _, _, rfl, rfl, (by show (0 : Int) < 3; decide), q, _, _, _, rfl, rfl, SqL.of upd_same, at_getD3 m3.1 m3.2, ?_⟩
        have s2 := sp.trans (same_upd_new (o := .lst [.str o, .str (pc ++ "a"), .str (o ++ pc)]) hq)
        generalize cell % 3 = j at m3
        have : j = 0 ∨ j = 1 ∨ j = 2 := by omega
        rcases this with h | h | h <;> subst h
        · exact k o _ s2 m
        · exact k (pc ++ "a") _ s2 (notin _ (by rw [Str.length_append]; omega))
        · exact k (o ++ pc) _ s2 (notin _ (by rw [Str.length_append]; omega))
    · rintro σ H3 ⟨z4, rfl, rfl⟩
      exact ⟨_, rfl, _, rfl, _, _, rfl, rfl, size_small (by omega), k (pc ++ pc) _ sp (notin _ (by rw [Str.length_append]; omega))⟩
/-! ### no row -/
abbrev nLNoRow : List Str := ["_law_row", "_law_cell", "_law_at", "_law_long", "_law_some", "_law_odd"]
theorem scLNoRow : FnScope nLNoRow ["_law_row", "_law_cell"] (defScope sLNoRow) := ⟨rfl, rfl, rfl, by decide +kernel, rfl, by decide +kernel, by decide +kernel⟩
def spNoRow : Sp := fun vs H Q _ => ∃ (a : Addr) (ps : List Str) (L : Nat) (cell : Int), vs = [.ref a, .int cell] ∧ H a = some (.lst (ps.map V.str)) ∧ RowOk ps L ∧ L ≤ 9 ∧ 0 ≤ cell ∧ ∀ (x : V) (H' : Hp), Same H H' → NoRow H' x → Q x H'
theorem sg_no {x : Str} {c : Nat} (h : c ∈ x.cps.toList) (hc : okSign c = false) : isTextV (.str x) = false := by
  simp only [isTextV, Bool.and_eq_false_iff]
  refine .inr (List.all_eq_false.mpr ⟨c, h, ?_⟩)
  rw [hc]
  decide
theorem mul_A {n : Int} (h : 1 ≤ n) : 65 ∈ (Txt.mul ("A" : Str) n).cps.toList := by
  rw [mul_codes h (by decide)]
  refine List.mem_flatten.mpr ⟨("A" : Str).cps.toList, List.mem_replicate.mpr ⟨by omega, rfl⟩, by decide⟩
theorem mul_one_len (c : Str) (hc : c.length = 1) {n : Int} (h : 0 ≤ n) : ((Txt.mul c n).length : Int) = n := by
  have := len_mul c n
  rw [if_neg (by simp; omega), hc, show ((1 : Nat) : Int) = 1 from rfl, Int.one_mul] at this
  exact this
set_option maxHeartbeats 8000000 in
theorem ok_l_no_row (D : HasDef K mg "_law_no_row" sLNoRow ["_law_row", "_law_cell"]) (B : Blt mg) : FOk P w K mg base 1 "_law_no_row" ["_law_row", "_law_cell"] spNoRow := by
  refine D.ok scLNoRow (fun vs H Q E h => ?_) (fun f cdv A outer s H vs Q E hr h => ?_)
  · obtain ⟨a, ps, L, cell, rfl, _⟩ := h
    rfl
  · obtain ⟨a, ps, L, cell, rfl, ha, hO, h9, hc, k⟩ := h
    refine ⟨_, (pss_cons (ps_set (i := 2) scLNoRow.nd rfl (Or.inl rfl) (pe_op op_mod (pv 1) (pe_op op_add (pe_callB call_len rfl B.len b_len (pa_cons (pv 0) pa_nil)) pe_int)))
      (pss_cons (ps_set (i := 3) scLNoRow.nd rfl (Or.inl rfl) (pe_callB call_len rfl B.len b_len (pa_cons (pe_ix ix_list (pv 0) pe_int (fun _ _ => rfl)) pa_nil)))
      (pss_cons (ps_set (i := 4) scLNoRow.nd rfl (Or.inl rfl) (pe_lst (pa_cons pe_non (pa_cons pe_int (pa_cons pe_bl (pa_cons pe_str (pa_cons (pe_op op_mulS pe_str (pv 3)) (pa_cons (pe_op op_mulS pe_str (pe_op op_add (pv 3) pe_int)) (pa_cons (pe_tup (pa_cons (pe_op op_mulS pe_str (pv 3)) pa_nil)) (pa_cons (pe_op op_add_str (pe_op op_mulS pe_str (pe_op op_sub (pv 3) pe_int)) pe_str) (pa_cons (pe_lst (pa_cons pe_str pa_nil)) (pa_cons pe_dnewK pa_nil))))))))))))
      (pss_cons (ps_set (i := 5) scLNoRow.nd rfl (Or.inl rfl) (pe_op op_cat (pe_op op_cat (pe_slice sl_list (pv 0) po_none (po_some (pv 2))) (pe_lst (pa_cons (pe_ix ix_list (pv 4) (pe_op op_mod (pe_op op_fdiv (pv 1) pe_int) pe_int) (fun _ _ => rfl)) pa_nil))) (pe_slice sl_list (pv 0) (po_some (pv 2)) po_none)))
      (pss_cons (ps_if (PW.pt (pw_and (pt_cmpR op_lt (pe_callB call_len rfl B.len b_len (pa_cons (pv 0) pa_nil)) (pe_op op_sub pe_int (pv 3)) (nomark _)) (pw_and1 (pt_cmpR op_eq (pe_op op_mod (pv 1) pe_int) pe_int (nomark _))))) (pss_one (ps_ret (pe_ix ix_list (pe_lst (pa_cons (pv 5) (pa_cons (pe_callTy call_tuple_of rfl B.tuple b_tuple (pa_cons (pv 5) pa_nil)) pa_nil))) (pe_op op_mod (pe_op op_fdiv (pv 1) pe_int) pe_int) (fun _ _ => rfl)))) pss_nil)
      (pss_cons (ps_if (pt_cmpR op_eq (pe_op op_mod (pv 1) pe_int) pe_int (nomark _)) (pss_one (ps_ret (pe_ix ix_list (pe_lst (pa_cons pe_non (pa_cons pe_str (pa_cons (pe_tup pa_nil) (pa_cons (pe_lst pa_nil) (pa_cons pe_dnewK (pa_cons pe_int (pa_cons (pe_disp (pps_cons (pe_ix ix_list (pv 0) pe_int (fun _ _ => rfl)) pe_int pps_nil) rfl rfl (by decide) (by decide)) (pa_cons (pe_ix ix_list (pv 0) pe_int (fun _ _ => rfl)) (pa_cons pe_bl pa_nil)))))))))) (pe_op op_mod (pe_op op_fdiv (pv 1) pe_int) pe_int) (fun _ _ => rfl)))) pss_nil)
      (pss_one (ps_ret (pe_slice sl_list (pe_op op_rep (pv 0) pe_int) po_none (po_some (pe_op op_sub pe_int (pv 3)))))))))))), ?_⟩
    have hfew := hO.few
    have hlo := hO.lo
    have hpos := List.length_pos_iff.mpr hO.ne
    have mb := emod_bd cell (show (0 : Int) < (ps.length : Int) + 1 by omega)
    have m3 := emod_bd cell (show (0 : Int) < 3 by decide)
    have m10 := emod_bd (cell / 7) (show (0 : Int) < 10 by decide)
    have one : (1 : Nat) ≤ sizeLine := by rw [sizeLine_eq]; decide
    refine ⟨_, rfl, _, rfl, .ref a, ps.length, rfl, .inl ⟨_, SqL.of ha, by rw [List.length_map]⟩, _, _, rfl, rfl, _, _, rfl, rfl, (by show (0 : Int) < (ps.length : Int) + 1; omega), ?_⟩
    dsimp only
    generalize cell % ((ps.length : Int) + 1) = i0 at mb
    obtain ⟨i, rfl⟩ := Int.eq_ofNat_of_zero_le mb.1
    have hi : i ≤ ps.length := by omega
    have l0 := hO.len _ (List.getElem_mem hpos)
    have at0 : atI (ps.map V.str) 0 = some (.str ps[0]) := atI_nat (j := 0) (by rw [List.getElem?_map, List.getElem?_eq_getElem hpos]; rfl)
    refine ⟨_, rfl, a, _, 0, _, rfl, rfl, SqL.of ha, at0, .str ps[0], L, rfl, ⟨size_small (by omega), l0.symm⟩, ?_⟩
    -- the ten odd things
    refine ⟨_, rfl, _, _, rfl, rfl, mulOk_nat (by omega) (by omega) (by decide), _, rfl, _, _, rfl, rfl, _, _, rfl, rfl, mulOk_nat (by omega) (by omega) (by decide), _, rfl, _, _, rfl, rfl, mulOk_nat (by omega) (by omega) (by decide), one, fun t ht => ?_⟩
    have s1 := same_upd_new (o := .tup [.str (Txt.mul ("a" : Str) (L : Int))]) ht
    have lz := mul_one_len ("a" : Str) rfl (show (0 : Int) ≤ (L : Int) - 1 by omega)
    have lb : (" " : Str).length = 1 := rfl
    refine ⟨_, rfl, _, _, rfl, rfl, _, _, rfl, rfl, mulOk_nat (by omega) (by omega) (by decide), _, _, rfl, rfl, size_small (by omega), one, fun u hu => ?_⟩
    have s2 := same_upd_new (o := .lst [.str "a"]) hu
    intro d hd
    have s3 := same_upd_new (o := .dK []) hd
    refine ⟨size_small (show 10 ≤ 16777216 by decide), fun q hq => ?_⟩
    have s4 := same_upd_new (o := .lst [.non, .int 5, .bl true, .str "", .str (Txt.mul ("A" : Str) (L : Int)), .str (Txt.mul ("a" : Str) ((L : Int) + 1)), .ref t, .str (Txt.mul ("a" : Str) ((L : Int) - 1) ++ (" " : Str)), .ref u, .ref d]) hq
    have s14 := ((s1.trans s2).trans s3).trans s4
    have hq4 := (upd_same (H := upd (upd (upd H t (.tup [.str (Txt.mul ("a" : Str) (L : Int))])) u (.lst [.str "a"])) d (.dK [])) (a := q) (o := .lst [.non, .int 5, .bl true, .str "", .str (Txt.mul ("A" : Str) (L : Int)), .str (Txt.mul ("a" : Str) ((L : Int) + 1)), .ref t, .str (Txt.mul ("a" : Str) ((L : Int) - 1) ++ (" " : Str)), .ref u, .ref d]))
    have ht4 := s4 _ _ (s3 _ _ (s2 _ _ (upd_same (H := H) (a := t) (o := .tup [.str (Txt.mul ("a" : Str) (L : Int))]))))
    have hu4 := s4 _ _ (s3 _ _ (upd_same (H := upd H t (.tup [.str (Txt.mul ("a" : Str) (L : Int))])) (a := u) (o := .lst [.str "a"])))
    have hd4 := s4 _ _ (upd_same (H := upd (upd H t (.tup [.str (Txt.mul ("a" : Str) (L : Int))])) u (.lst [.str "a"])) (a := d) (o := .dK []))
    generalize upd (upd (upd (upd H t (.tup [.str (Txt.mul ("a" : Str) (L : Int))])) u (.lst [.str "a"])) d (.dK [])) q (.lst [.non, .int 5, .bl true, .str "", .str (Txt.mul ("A" : Str) (L : Int)), .str (Txt.mul ("a" : Str) ((L : Int) + 1)), .ref t, .str (Txt.mul ("a" : Str) ((L : Int) - 1) ++ (" " : Str)), .ref u, .ref d]) = H4 at s14 hq4 ht4 hu4 hd4
    have key : ∃ x, atI [V.non, .int 5, .bl true, .str "", .str (Txt.mul ("A" : Str) (L : Int)), .str (Txt.mul ("a" : Str) ((L : Int) + 1)), .ref t, .str (Txt.mul ("a" : Str) ((L : Int) - 1) ++ (" " : Str)), .ref u, .ref d] (cell / 7 % 10) = some x ∧ OddV L x ∧ (∃ n, TyB H4 x n) ∧ ∀ z, x = .str z → z.length ≤ 1000 := by
      generalize cell / 7 % 10 = j at m10
      have : j = 0 ∨ j = 1 ∨ j = 2 ∨ j = 3 ∨ j = 4 ∨ j = 5 ∨ j = 6 ∨ j = 7 ∨ j = 8 ∨ j = 9 := by omega
      rcases this with h | h | h | h | h | h | h | h | h | h <;> subst h
      · exact ⟨_, rfl, .inl rfl, ⟨_, .non⟩, fun z e => by cases e⟩
      · exact ⟨_, rfl, .inl rfl, ⟨_, .int _⟩, fun z e => by cases e⟩
      · exact ⟨_, rfl, .inl rfl, ⟨_, .bl _⟩, fun z e => by cases e⟩
      · exact ⟨_, rfl, .inl (by decide), ⟨_, .str _⟩, fun z e => by cases e; decide⟩
      · refine ⟨_, rfl, .inl (sg_no (mul_A (by omega)) (by decide)), ⟨_, .str _⟩, fun z e => ?_⟩
        cases e
        have := mul_one_len ("A" : Str) rfl (show (0 : Int) ≤ (L : Int) by omega)
        omega
      · have := mul_one_len ("a" : Str) rfl (show (0 : Int) ≤ (L : Int) + 1 by omega)
        refine ⟨_, rfl, .inr ?_, ⟨_, .str _⟩, fun z e => ?_⟩
        · show (Txt.mul ("a" : Str) ((L : Int) + 1)).length ≠ L
          omega
        · cases e
          omega
      · exact ⟨_, rfl, .inl rfl, ⟨_, .tup ht4⟩, fun z e => by cases e⟩
      · refine ⟨_, rfl, .inl (sg_no (c := 32) ?_ (by decide)), ⟨_, .str _⟩, fun z e => ?_⟩
        · rw [app_codes]
          exact List.mem_append_right _ (by decide)
        · cases e
          rw [Str.length_append]
          omega
      · exact ⟨_, rfl, .inl rfl, ⟨_, .lst hu4⟩, fun z e => by cases e⟩
      · exact ⟨_, rfl, .inl rfl, ⟨_, .dK hd4⟩, fun z e => by cases e⟩
    obtain ⟨x, ex, ox, tx1, lx⟩ := key
    refine ⟨_, rfl, _, rfl, _, rfl, a, _, rfl, SqL.of (s14 _ _ ha), fun p5 hp5 => ?_⟩
    rw [cut_to (by rw [List.length_map]; omega)]
    have s5 := same_upd_new (o := .lst ((ps.map V.str).take i)) hp5
    refine ⟨_, rfl, _, rfl, _, _, rfl, rfl, ⟨by decide, by decide⟩, _, _, rfl, rfl, (by show (0 : Int) < 10; decide), q, _, _, x, rfl, rfl, SqL.of (s5 _ _ hq4), ex, one, fun p6 hp6 => ?_⟩
    have s6 := same_upd_new (o := .lst [x]) hp6
    refine ⟨p5, p6, _, _, rfl, rfl, s6 _ _ upd_same, upd_same, ?_, fun p7 hp7 => ?_⟩
    · rw [List.length_take, List.length_map]
      exact size_small (by simp; omega)
    have s7 := same_upd_new (o := .lst ((ps.map V.str).take i ++ [x])) hp7
    have s57 := (s5.trans s6).trans s7
    refine ⟨_, rfl, _, rfl, _, rfl, a, _, rfl, SqL.of (s57 _ _ (s14 _ _ ha)), fun p8 hp8 => ?_⟩
    rw [cut_from (by rw [List.length_map]; omega)]
    have s8 := same_upd_new (o := .lst ((ps.map V.str).drop i)) hp8
    refine ⟨p7, p8, _, _, rfl, rfl, s8 _ _ upd_same, upd_same, ?_, fun p9 hp9 => ?_⟩
    · rw [List.length_append, List.length_take, List.length_drop, List.length_map]
      exact size_small (by simp; omega)
    have eo : (ps.map V.str).take i ++ [x] ++ (ps.map V.str).drop i = (ps.take i).map V.str ++ [x] ++ (ps.drop i).map V.str := by rw [List.map_take, List.map_drop]
    rw [eo]
    have s9 := same_upd_new (o := .lst ((ps.take i).map V.str ++ [x] ++ (ps.drop i).map V.str)) hp9
    have s49 := (s57.trans s8).trans s9
    have h9' := (upd_same (H := upd (upd (upd (upd H4 p5 (.lst ((ps.map V.str).take i))) p6 (.lst [x])) p7 (.lst ((ps.map V.str).take i ++ [x]))) p8 (.lst ((ps.map V.str).drop i))) (a := p9) (o := .lst ((ps.take i).map V.str ++ [x] ++ (ps.drop i).map V.str)))
    generalize upd (upd (upd (upd (upd H4 p5 (.lst ((ps.map V.str).take i))) p6 (.lst [x])) p7 (.lst ((ps.map V.str).take i ++ [x]))) p8 (.lst ((ps.map V.str).drop i))) p9 (.lst ((ps.take i).map V.str ++ [x] ++ (ps.drop i).map V.str)) = H9 at s49 h9'
    have bad := odd_bad (i := i) hO.ne hO.len ox
    have hylen : ((ps.take i).map V.str ++ [x] ++ (ps.drop i).map V.str).length = ps.length + 1 := by
      rw [List.length_append, List.length_append, List.length_map, List.length_map, List.length_take, List.length_drop, List.length_singleton]
      omega
    have rowIs : RowIs H9 ((ps.take i).map V.str ++ [x] ++ (ps.drop i).map V.str) := by
      refine ⟨by omega, fun y m => ?_, fun y m z e => ?_⟩
      · simp only [List.mem_append, List.mem_singleton] at m
        rcases m with (m | m) | m
        · obtain ⟨p, _, rfl⟩ := List.mem_map.mp m
          exact ⟨_, .str p⟩
        · obtain ⟨n, ty⟩ := tx1
          rw [m]
          exact ⟨n, ty.same s49⟩
        · obtain ⟨p, _, rfl⟩ := List.mem_map.mp m
          exact ⟨_, .str p⟩
      · simp only [List.mem_append, List.mem_singleton] at m
        rcases m with (m | m) | m
        · obtain ⟨p, mp, rfl⟩ := List.mem_map.mp m
          cases e
          have := hO.len _ (List.mem_of_mem_take mp)
          omega
        · have := lx z (m ▸ e)
          omega
        · obtain ⟨p, mp, rfl⟩ := List.mem_map.mp m
          cases e
          have := hO.len _ (List.mem_of_mem_drop mp)
          omega
    generalize (ps.take i).map V.str ++ [x] ++ (ps.drop i).map V.str = ys at h9' bad hylen rowIs
    have sH9 := s14.trans s49
    have ha9 := sH9 _ _ ha
    have two : (2 : Nat) ≤ sizeLine := by rw [sizeLine_eq]; decide
    have mz2 := emod_bd (cell / 3) (show (0 : Int) < 2 by decide)
    have mz9 := emod_bd (cell / 3) (show (0 : Int) < 9 by decide)
    by_cases c1 : (ps.length : Int) < 301 - (L : Int) ∧ cell % 3 = 0
    · refine ⟨_, rfl, .ref a, ps.length, rfl, .inl ⟨_, SqL.of ha9, by rw [List.length_map]⟩, _, rfl, _, _, rfl, rfl, _, _, rfl, rfl, _, rfl, iteP (decide_eq_true c1.1) ?_⟩
      refine ⟨_, rfl, _, _, rfl, rfl, (by show (0 : Int) < 3; decide), rfl, _, rfl, iteP (int_is c1.2) ?_⟩
      refine ⟨_, rfl, _, rfl, p9, _, rfl, .inl ⟨SqL.of h9', fun t2 ht2 => ⟨two, fun q2 hq2 => ?_⟩⟩⟩
      have u1 := same_upd_new (o := .tup ys) ht2
      have u2 := same_upd_new (o := .lst [.ref p9, .ref t2]) hq2
      refine ⟨_, rfl, _, _, rfl, rfl, ⟨by decide, by decide⟩, _, _, rfl, rfl, (by show (0 : Int) < 2; decide), q2, _, _, _, rfl, rfl, SqL.of upd_same, at_getD3 mz2.1 mz2.2, ?_⟩
      generalize cell / 3 % 2 = j at mz2
      have : j = 0 ∨ j = 1 := by omega
      rcases this with h | h <;> subst h
      · exact k (.ref p9) _ ((sH9.trans u1).trans u2) (.bad (.inl (u2 _ _ (u1 _ _ h9'))) (rowIs.same (u1.trans u2)) bad)
      · exact k (.ref t2) _ ((sH9.trans u1).trans u2) (.bad (.inr (u2 _ _ upd_same)) (rowIs.same (u1.trans u2)) bad)
    apply viaB
    · intro hB
      refine ⟨_, rfl, .ref a, ps.length, rfl, .inl ⟨_, SqL.of ha9, by rw [List.length_map]⟩, _, rfl, _, _, rfl, rfl, _, _, rfl, rfl, _, rfl, ?_⟩
      by_cases q1 : (ps.length : Int) < 301 - (L : Int)
      · refine iteP (decide_eq_true q1) ⟨_, rfl, _, _, rfl, rfl, (by show (0 : Int) < 3; decide), rfl, _, rfl, iteM (int_ne fun z => c1 ⟨q1, z⟩) hB⟩
      · exact iteM (decide_eq_false q1) (iteF hB)
    refine ⟨_, rfl, _, _, rfl, rfl, (by show (0 : Int) < 3; decide), rfl, _, rfl, ite2 (fun c2 => ?_) (fun c2 => ?_)⟩
    · refine ⟨Nat.zero_le _, fun r1 g1 => ⟨Nat.zero_le _, fun r2 g2 => ?_⟩⟩
      have u1 := same_upd_new (o := .tup []) g1
      have u2 := same_upd_new (o := .lst []) g2
      intro r3 g3
      have u3 := same_upd_new (o := .dK []) g3
      have u13 := (u1.trans u2).trans u3
      intro r4 g4
      have u4 := same_upd_new (o := .dK []) g4
      refine ⟨_, rfl, a, _, 0, _, rfl, rfl, SqL.of (u4 _ _ (u13 _ _ ha9)), at0, upd_same, [(Sum.inr ps[0], .int 1)], rfl, (show 1 ≤ 15 by decide), ?_⟩
      have e4 : upd (upd (upd (upd (upd H9 r1 (.tup [])) r2 (.lst [])) r3 (.dK [])) r4 (.dK [])) r4 (.dK (mergeK [] [((Sum.inr ps[0] : Key), V.int 1)])) r4 = some (.dK (mergeK [] [((Sum.inr ps[0] : Key), V.int 1)])) := upd_same
      have u5 : Same (upd (upd (upd H9 r1 (.tup [])) r2 (.lst [])) r3 (.dK [])) (upd (upd (upd (upd (upd H9 r1 (.tup [])) r2 (.lst [])) r3 (.dK [])) r4 (.dK [])) r4 (.dK (mergeK [] [((Sum.inr ps[0] : Key), V.int 1)]))) := same_new_upd u4 g4
      generalize upd (upd (upd (upd (upd H9 r1 (.tup [])) r2 (.lst [])) r3 (.dK [])) r4 (.dK [])) r4 (.dK (mergeK [] [((Sum.inr ps[0] : Key), V.int 1)])) = H10 at e4 u5
      have u15 := u13.trans u5
      refine ⟨_, rfl, a, _, 0, _, rfl, rfl, SqL.of (u15 _ _ ha9), at0, size_small (show 9 ≤ 16777216 by decide), fun r6 g6 => ?_⟩
      have u6 := same_upd_new (o := .lst [.non, .str "ab", .ref r1, .ref r2, .ref r3, .int 5, .ref r4, .str ps[0], .bl true]) g6
      refine ⟨_, rfl, _, _, rfl, rfl, ⟨by decide, by decide⟩, _, _, rfl, rfl, (by show (0 : Int) < 9; decide), r6, _, _, _, rfl, rfl, SqL.of upd_same, at_getD3 mz9.1 mz9.2, ?_⟩
      have sZ := (sH9.trans u15).trans u6
      generalize cell / 3 % 9 = j at mz9
      have : j = 0 ∨ j = 1 ∨ j = 2 ∨ j = 3 ∨ j = 4 ∨ j = 5 ∨ j = 6 ∨ j = 7 ∨ j = 8 := by omega
      rcases this with h | h | h | h | h | h | h | h | h <;> subst h
      · exact k .non _ sZ (.kind .non (by decide) (by decide))
      · exact k (.str "ab") _ sZ (.kind (.str _) (by decide) (by decide))
      · exact k (.ref r1) _ sZ (.bad (.inr (u6 _ _ (u5 _ _ (u3 _ _ (u2 _ _ upd_same))))) ⟨Nat.zero_le _, (fun y m => by cases m), (fun y m => by cases m)⟩ rfl)
      · exact k (.ref r2) _ sZ (.bad (.inl (u6 _ _ (u5 _ _ (u3 _ _ upd_same)))) ⟨Nat.zero_le _, (fun y m => by cases m), (fun y m => by cases m)⟩ rfl)
      · exact k (.ref r3) _ sZ (.kind (.dK (u6 _ _ (u5 _ _ upd_same))) (by decide) (by decide))
      · exact k (.int 5) _ sZ (.kind (.int _) (by decide) (by decide))
      · exact k (.ref r4) _ sZ (.kind (.dK (u6 _ _ e4)) (by decide) (by decide))
      · exact k (.str ps[0]) _ sZ (.kind (.str _) (by decide) (by decide))
      · exact k (.bl true) _ sZ (.kind (.bl _) (by decide) (by decide))
    · refine ⟨_, rfl, a, 301, _, rfl, rfl, ha9, by decide, by decide, ?_, fun q1 hq1 => ?_⟩
      · rw [List.length_map]
        exact size_small (by show ps.length * 301 ≤ 16777216; omega)
      refine ⟨_, rfl, _, _, rfl, rfl, _, rfl, q1, _, rfl, SqL.of upd_same, fun q2 hq2 => ?_⟩
      have hlen : ((List.replicate 301 (ps.map V.str)).flatten).length = 301 * ps.length := by rw [flat_len, List.length_map]
      have ecut : cutV ((List.replicate 301 (ps.map V.str)).flatten) none (some (302 - (L : Int))) = (((List.replicate 301 ps).flatten).take (302 - L)).map V.str := by
        have e2 : (302 - (L : Int)) = ((302 - L : Nat) : Int) := by omega
        rw [e2, cut_to (by rw [hlen]; omega), flat_map, List.map_take]
      show Q (.ref q2) (upd (upd H9 q1 (.lst ((List.replicate 301 (ps.map V.str)).flatten))) q2 (.lst (cutV ((List.replicate 301 (ps.map V.str)).flatten) none (some (302 - (L : Int))))))
      rw [ecut]
      have hl2 : (((List.replicate 301 ps).flatten).take (302 - L)).length = 302 - L := by
        rw [List.length_take, flat_len]
        omega
      have hne2 : ((List.replicate 301 ps).flatten).take (302 - L) ≠ [] := fun z => by
        rw [z] at hl2
        simp at hl2
        omega
      refine k (.ref q2) _ ((sH9.trans (same_upd_new hq1)).trans (same_upd_new hq2)) (.many (L := L) (.inl upd_same) (by omega) (are_of hne2 hlo (by omega) (fun p m => hO.len p (rep_take p m)) fun p m => hO.sg p (rep_take p m)) (fun p m => hO.len p (rep_take p m)) (by omega) (by omega))
end
end Sh

set_option Elab.async false
set_option linter.all false
set_option maxRecDepth 100000
namespace Sh
open PySem L2 PyProof.Rows
seal L2.PE L2.PS L2.PSs L2.PT L2.PW L2.PA L2.PI L2.PG L2.PGs L2.PO L2.PC L2.PCs L2.OpR L2.UnR L2.CallR L2.MtR L2.IxR L2.SlR
abbrev sLaw : Stmt := top 39
theorem seedF_bd (ns : List Int) : 0 ≤ seedF ns ∧ seedF ns < 2147483647 := ⟨Int.emod_nonneg _ (by decide), Int.emod_lt_of_pos _ (by decide)⟩

theorem alone_hp {p : Str} {n : Int} {L : Nat} (h1 : 1 ≤ L) (hl : p.length = L) (hs : p.cps.toList.all okSign = true) (hn : 1 ≤ n) (hh : n + L ≤ 301) : IsHp [(p, n)] L := by
  refine ⟨by simp, h1, by omega, fun q m => ?_, fun q m => ?_, fun q m => ?_, by simp, by simpa using hh⟩
  · rw [List.mem_singleton.mp m]
    exact hl
  · rw [List.mem_singleton.mp m]
    exact hs
  · rw [List.mem_singleton.mp m]
    exact hn
theorem alone_at {H : Hp} {t1 t2 : Addr} {p : Str} {n : Int} (h1 : H t1 = some (.tup [.str p, .int n])) (h2 : H t2 = some (.tup [.ref t1])) : HpAt H (.ref t2) [(p, n)] := by
  refine ⟨t2, [.ref t1], rfl, h2, rfl, fun j q e => ?_⟩
  cases j with
  | zero => cases e; exact ⟨t1, rfl, h1⟩
  | succ j => cases e
theorem RowOk.part {ps qs : List Str} {L : Nat} (h : RowOk ps L) (hne : qs ≠ []) (hs : ∀ q ∈ qs, q ∈ ps) (hl : qs.length ≤ ps.length) : RowOk qs L := ⟨hne, h.lo, fun p m => h.len p (hs p m), fun p m => h.sg p (hs p m), by have := h.few; omega⟩
section
variable {P : Program} {w : World} {K : PySem.W.Frag} {mg : Str → Option Value} {base : Heap} {Ch Cp : Addr}
def spLaw (K : PySem.W.Frag) : Sp := fun vs H Q _ => ∃ (a : Addr) (ns : List Int), vs = [.ref a] ∧ SqL K H a (ns.map V.int) ∧ ns.length ≤ 63 ∧ ∀ H', Q (.bl true) H'
abbrev nLaw : List Str := ["_law_script", "_law_seed_here", "_law_row", "_law_at", "_law_one", "_law_other", "_law_both", "_law_due", "_law_full", "_law_k", "_law_cell", "_law_longer"]
theorem scLaw : FnScope nLaw ["_law_script"] (defScope sLaw) := ⟨rfl, rfl, rfl, by decide +kernel, rfl, by decide +kernel, by decide +kernel⟩
set_option maxHeartbeats 8000000 in
theorem ok_law {f : Addr} {fd : FuncData} (D : Fun K "law" "law" sLaw f fd) (B : Blt mg) (G__law_seed : FOk P w K mg base 7 "_law_seed" ["_law_script"] (spSeed K)) (G__law_pieces : FOk P w K mg base 7 "_law_pieces" ["_law_script", "_law_seed_here"] (spLPieces K))
    (G__law_counted : FOk P w K mg base 7 "_law_counted" ["_law_row"] spLCounted) (G__law_taken_out : FOk P w K mg base 7 "_law_taken_out" ["_law_row", "_law_cell"] spTaken) (G__law_heap : FOk P w K mg base 7 "_law_heap" ["_law_pieces_here"] (spHeap K)) (G_heaped : FOkX P w K mg base 7 "heaped" ["one", "other"] (spHeaped Ch))
    (G__law_same_heap : FOk P w K mg base 7 "_law_same_heap" ["_law_found", "_law_due"] spSame) (G__law_refused : FOk P w K mg base 7 "_law_refused" ["_law_way", "_law_one", "_law_other"] spRefused) (G__law_no_row : FOk P w K mg base 7 "_law_no_row" ["_law_row", "_law_cell"] spNoRow) (G__law_other_piece : FOk P w K mg base 7 "_law_other_piece" ["_law_row", "_law_cell"] spOther) :
    FnOk P w K mg base CX0 8 f fd ["_law_script"] (spLaw K) := by
  refine D.ok scLaw (fun vs H Q E h => ?_) (fun cdv A outer s H vs Q E hr h => ?_)
  · obtain ⟨a, ns, rfl, _⟩ := h
    rfl
  · obtain ⟨a, ns, rfl, ha, hl, k⟩ := h
    refine ⟨_, (pss_cons (ps_set (i := 1) scLaw.nd rfl (Or.inl rfl) (pe_fn G__law_seed hr (pa_cons (pv 0) pa_nil)))
      (pss_cons (ps_set (i := 2) scLaw.nd rfl (Or.inl rfl) (pe_fn G__law_pieces hr (pa_cons (pv 0) (pa_cons (pv 1) pa_nil))))
      (pss_cons (ps_if (PW.pt (pw_or (pt_not (pt_val (pe_fn G__law_counted hr (pa_cons (pv 2) pa_nil)))) (pw_or (pt_not (pt_val (pe_fn G__law_taken_out hr (pa_cons (pv 2) (pa_cons (pv 1) pa_nil))))) (pw_or1 (pt_not (pt_val (pe_fn G__law_taken_out hr (pa_cons (pe_slice sl_list (pv 2) po_none (po_some pe_int)) (pa_cons (pe_op op_fdiv (pv 1) pe_int) pa_nil))))))))) (pss_one (ps_ret pe_bl)) pss_nil)
      (pss_cons (ps_set (i := 3) scLaw.nd rfl (Or.inl rfl) (pe_op op_mod (pe_op op_fdiv (pv 1) pe_int) (pe_callB call_len rfl B.len b_len (pa_cons (pv 2) pa_nil))))
      (pss_cut (ps_if (pt_cmpR op_gt (pv 3) pe_int (nomark _)) (pss_cons (ps_set (i := 4) scLaw.nd rfl (Or.inl rfl) (pe_fn G__law_heap hr (pa_cons (pe_slice sl_list (pv 2) po_none (po_some (pv 3))) pa_nil)))
      (pss_cons (ps_set (i := 5) scLaw.nd rfl (Or.inl rfl) (pe_fn G__law_heap hr (pa_cons (pe_slice sl_list (pv 2) (po_some (pv 3)) po_none) pa_nil)))
      (pss_one (ps_for PassesOwn.never rfl (pi_list (pe_lst (pa_cons (pe_fnN G_heaped hr (pa_cons (pv 4) (pa_cons (pv 5) pa_nil))) (pa_cons (pe_fnN G_heaped hr (pa_cons (pv 5) (pa_cons (pv 4) pa_nil))) pa_nil)))) (pg_name (i := 6) scLaw.nd rfl (Or.inl rfl))
        (pss_one (ps_if (pt_not (pt_val (pe_fn G__law_same_heap hr (pa_cons (pv 6) (pa_cons (pe_fn G__law_heap hr (pa_cons (pv 2) pa_nil)) pa_nil))))) (pss_one (ps_ret pe_bl)) pss_nil)))))) pss_nil)
      (pss_cons (ps_set (i := 7) scLaw.nd rfl (Or.inl rfl) (pe_fn G__law_heap hr (pa_cons (pv 2) pa_nil)))
      (pss_cons (ps_set (i := 8) scLaw.nd rfl (Or.inl rfl) (pe_tup (pa_cons (pe_tup (pa_cons (pe_ix ix_list (pe_op op_rep (pv 2) pe_int) pe_int (fun _ _ => rfl)) (pa_cons (pe_op op_sub pe_int (pe_callB call_len rfl B.len b_len (pa_cons (pe_ix ix_list (pv 2) pe_int (fun _ _ => rfl)) pa_nil))) pa_nil))) pa_nil)))
      (pss_cons (ps_for PassesOwn.never rfl (pi_range1 rfl B.range (pa_cons pe_int pa_nil)) (pg_name (i := 9) scLaw.nd rfl (Or.inl rfl))
        (pss_cons (ps_set (i := 10) scLaw.nd rfl (Or.inl rfl) (pe_op op_fdiv (pv 1) (pe_op op_add pe_int (pe_op op_mul pe_int (pv 9)))))
      (pss_one (ps_if (PW.pt (pw_or (pt_not (pt_val (pe_fn G__law_refused hr (pa_cons pe_int (pa_cons (pe_fn G__law_no_row hr (pa_cons (pv 2) (pa_cons (pv 10) pa_nil))) (pa_cons pe_non pa_nil)))))) (pw_or1 (pt_not (pt_val (pe_fn G__law_refused hr (pa_cons pe_int (pa_cons (pv 7) (pa_cons (pe_fn G__law_other_piece hr (pa_cons (pv 2) (pa_cons (pv 10) pa_nil))) pa_nil))))))))) (pss_one (ps_ret pe_bl)) pss_nil))))
      (pss_cons (ps_set (i := 11) scLaw.nd rfl (Or.inl rfl) (pe_tup (pa_cons (pe_tup (pa_cons (pe_op op_add_str (pe_ix ix_list (pv 2) pe_int (fun _ _ => rfl)) pe_str) (pa_cons pe_int pa_nil))) pa_nil)))
      (pss_cons (ps_if (PW.pt (pw_or (pt_not (pt_val (pe_fn G__law_refused hr (pa_cons pe_int (pa_cons (pv 7) (pa_cons (pv 11) pa_nil)))))) (pw_or (pt_not (pt_val (pe_fn G__law_refused hr (pa_cons pe_int (pa_cons (pv 11) (pa_cons (pv 7) pa_nil)))))) (pw_or1 (pt_not (pt_val (pe_fn G__law_refused hr (pa_cons pe_int (pa_cons (pv 8) (pa_cons (pv 7) pa_nil)))))))))) (pss_one (ps_ret pe_bl)) pss_nil)
      (pss_one (ps_ret (pe_fn G__law_counted hr (pa_cons (pv 2) pa_nil)))))))))))))), ?_⟩
    have one : (1 : Nat) ≤ sizeLine := by rw [sizeLine_eq]; decide
    have two : (2 : Nat) ≤ sizeLine := by rw [sizeLine_eq]; decide
    obtain ⟨h0, h1⟩ := seedF_bd ns
    refine ⟨_, rfl, a, ns, rfl, ha, hl, fun H1 s1 => ?_⟩
    generalize seedF ns = sd at h0 h1
    refine ⟨_, rfl, _, rfl, a, ns, sd, rfl, s1.seq ha, hl, h0, h1, fun pr ps Bs L H2 s2 hpr hRB => ?_⟩
    have hO := hRB.ok
    have hfew := hO.few
    have hlo := hO.lo
    have h9 := hRB.nine
    have hB := hRB.few
    have hBs := hRB.sub
    have hpos := List.length_pos_iff.mpr hO.ne
    refine ⟨_, rfl, pr, ps, Bs, L, rfl, hpr, hO, hB, hBs, fun H3 s3 => ⟨_, rfl, iteF ?_⟩⟩
    refine ⟨_, rfl, _, rfl, pr, ps, Bs, sd, rfl, s3 _ _ hpr, by omega, hO.sg, hB, hBs, fun H4 s4 => ⟨_, rfl, iteF ?_⟩⟩
    have hpr4 := s4 _ _ (s3 _ _ hpr)
    refine ⟨_, rfl, _, rfl, pr, _, rfl, SqL.of hpr4, fun q5 hq5 => ?_⟩
    have ecut3 : cutV (ps.map V.str) none (some 3) = (ps.take 3).map V.str := by
      by_cases c : 3 ≤ ps.length
      · have := cut_to (xs := ps.map V.str) (i := 3) (by rw [List.length_map]; exact c)
        rw [List.map_take]
        exact this
      · have e1 : HT.sIx (ps.map V.str).length 0 none = 0 := rfl
        have e2 : HT.sIx (ps.map V.str).length (ps.map V.str).length (some 3) = (ps.map V.str).length := by
          unfold HT.sIx
          simp
          omega
        unfold cutV
        rw [e1, e2, List.drop_zero, Nat.sub_zero, List.take_length, List.take_of_length_le (by omega)]
    rw [ecut3]
    have s5 := same_upd_new (o := .lst ((ps.take 3).map V.str)) hq5
    have hl3 : (ps.take 3).length ≤ 3 := by rw [List.length_take]; omega
    refine ⟨_, rfl, _, _, rfl, rfl, ⟨by decide, by decide⟩, q5, ps.take 3, Bs, sd / 3, rfl, upd_same, by omega, fun p m => hO.sg p (List.mem_of_mem_take m), hB, fun p m => hBs p (List.mem_of_mem_take m), fun H6 s6 => ⟨_, rfl, iteF ?_⟩⟩
    have hpr6 := s6 _ _ (s5 _ _ hpr4)
    have mb := emod_bd (sd / 11) (show (0 : Int) < (ps.length : Int) by omega)
    refine ⟨_, rfl, _, _, rfl, rfl, ⟨by decide, by decide⟩, _, rfl, .ref pr, ps.length, rfl, .inl ⟨_, SqL.of hpr6, by rw [List.length_map]⟩, _, _, rfl, rfl, (by show (0 : Int) < (ps.length : Int); omega), ?_⟩
    dsimp only
    generalize sd / 11 % (ps.length : Int) = i0 at mb
    obtain ⟨i, rfl⟩ := Int.eq_ofNat_of_zero_le mb.1
    refine ⟨fun σ' H' => ∃ z4 z5 z6 : Option V, σ' = [some (.ref a), some (.int sd), some (.ref pr), some (.int i), z4, z5, z6, none, none, none, none, none] ∧ H' pr = some (.lst (ps.map V.str)), ?_, ?_⟩
    · refine ⟨_, rfl, _, _, rfl, rfl, _, rfl, ite2 (fun c => ?_) (fun c => ?_)⟩
      · have hi : 0 < i := by
          have := of_decide_eq_true c
          omega
        have hi' : i < ps.length := by omega
        have tk : ps.take i ≠ [] := fun z => by
          have : (ps.take i).length = 0 := by rw [z]; rfl
          rw [List.length_take] at this
          omega
        have dr : ps.drop i ≠ [] := fun z => by
          have : (ps.drop i).length = 0 := by rw [z]; rfl
          rw [List.length_drop] at this
          omega
        have hOt := hO.part tk (fun q m => List.mem_of_mem_take m) (by rw [List.length_take]; omega)
        have hOd := hO.part dr (fun q m => List.mem_of_mem_drop m) (by rw [List.length_drop]; omega)
        refine ⟨_, rfl, _, rfl, _, rfl, pr, _, rfl, SqL.of hpr6, fun q7 hq7 => ?_⟩
        rw [cut_to (by rw [List.length_map]; omega)]
        have s7 := same_upd_new (o := .lst ((ps.map V.str).take i)) hq7
        have hft := hOt.few
        have hfd := hOd.few
        refine ⟨q7, ps.take i, Bs, rfl, SqL.of (by rw [upd_same, List.map_take]), by omega, hB, fun p m => hBs p (List.mem_of_mem_take m), fun v1 H8 hp1 s8 hA1 hH1 => ?_⟩
        have hpr8 := s8 _ _ (s7 _ _ hpr6)
        refine ⟨_, rfl, _, rfl, _, rfl, pr, _, rfl, SqL.of hpr8, fun q9 hq9 => ?_⟩
        rw [cut_from (by rw [List.length_map]; omega)]
        have s9 := same_upd_new (o := .lst ((ps.map V.str).drop i)) hq9
        refine ⟨q9, ps.drop i, Bs, rfl, SqL.of (by rw [upd_same, List.map_drop]), by omega, hB, fun p m => hBs p (List.mem_of_mem_drop m), fun v2 H10 hp2 s10 hA2 hH2 => ?_⟩
        have sA := s9.trans s10
        have hI1 := row_heap hOt hH1
        have hI2 := row_heap hOd hH2
        have hsum : (hp1.map (·.2)).sum + (hp2.map (·.2)).sum + L ≤ 301 := by
          rw [row_sum hH1, row_sum hH2, List.length_take, List.length_drop]
          omega
        have hA1' := hA1.same sA.tup
        refine ⟨_, rfl, _, rfl, v1, v2, hp1, hp2, L, L, rfl, hA1', hA2, hI1, hI2, .inr ⟨rfl, hsum, ps.take i, ps.drop i, Bs, hH1, hH2, hB, fun p m => ?_, fun v3 H11 hp3 s11 hA3 hH3 => ?_⟩⟩
        · rw [List.take_append_drop] at m
          exact hBs p m
        rw [List.take_append_drop] at hH3
        refine ⟨_, rfl, _, rfl, v2, v1, hp2, hp1, L, L, rfl, hA2.same s11.tup, hA1'.same s11.tup, hI2, hI1, .inr ⟨rfl, by omega, ps.drop i, ps.take i, Bs, hH2, hH1, hB, fun p m => ?_, fun v4 H12 hp4 s12 hA4 hH4 => ?_⟩⟩
        · rcases List.mem_append.mp m with m | m
          · exact hBs p (List.mem_of_mem_drop m)
          · exact hBs p (List.mem_of_mem_take m)
        have hperm : (ps.drop i ++ ps.take i).Perm ps := by
          have := List.perm_append_comm (l₁ := ps.drop i) (l₂ := ps.take i)
          rw [List.take_append_drop] at this
          exact this
        have hH4' := HeapOf.perm hperm hH4
        have e34 : hp4 = hp3 := heap_one hH4' hH3
        subst e34
        refine ⟨two, fun q13 hq13 => ?_⟩
        have s13 := same_upd_new (o := .lst [v3, v4]) hq13
        have hpr13 := s13 _ _ (s12 _ _ (s11 _ _ (sA _ _ hpr8)))
        have hA3' := hA3.same (s12.trans s13).tup
        have hA4' := hA4.same s13.tup
        refine ⟨q13, rfl, ⟨_, SqL.of upd_same⟩, for_list (K := K) (a := q13) (xs := [v3, v4]) (fun j σ H14 => ∃ z6 : Option V, σ = [some (.ref a), some (.int sd), some (.ref pr), some (.int i), some v1, some v2, z6, none, none, none, none, none] ∧ Same (upd H12 q13 (.lst [v3, v4])) H14)
          ⟨none, rfl, Same.refl _⟩ (fun j σ H14 _ ⟨_, _, e⟩ => SqL.of (e _ _ upd_same)) ?_ ?_⟩
        · rintro j x σ H14 hj ⟨z6, rfl, s14⟩
          have hx : HpAt H14 x hp4 := by
            match j, hj with
            | 0, e => cases e; exact hA3'.same s14.tup
            | 1, e => cases e; exact hA4'.same s14.tup
          refine ⟨_, rfl, _, rfl, pr, ps, Bs, rfl, SqL.of (s14 _ _ hpr13), by omega, hB, hBs, fun v5 H15 hp5 s15 hA5 hH5 => ?_⟩
          have e5 : hp5 = hp4 := heap_one hH5 hH3
          subst e5
          have hf5 := (row_heap hO hH5).few
          exact ⟨x, v5, hp5, rfl, hx.same s15.tup, hA5, by omega, row_codes hO.sg hH5, _, rfl, iteF ⟨_, rfl, s14.trans s15⟩⟩
        · rintro σ H14 ⟨z6, rfl, s14⟩
          exact ⟨_, _, _, rfl, s14 _ _ hpr13⟩
      · exact ⟨_, _, _, rfl, hpr6⟩
    rintro σ H7 ⟨z4, z5, z6, rfl, hpr7⟩
    refine ⟨_, rfl, pr, ps, Bs, rfl, SqL.of hpr7, by omega, hB, hBs, fun v H8 hp s8 hA hH => ?_⟩
    have hI := row_heap hO hH
    have hpr8 := s8 _ _ hpr7
    have l0 := hO.len _ (List.getElem_mem hpos)
    have sg0 := hO.sg _ (List.getElem_mem hpos)
    have at0 : atI (ps.map V.str) 0 = some (.str ps[0]) := atI_nat (j := 0) (by rw [List.getElem?_map, List.getElem?_eq_getElem hpos]; rfl)
    refine ⟨_, rfl, pr, 300, _, rfl, rfl, hpr8, by decide, by decide, ?_, fun q9 hq9 => ?_⟩
    · rw [List.length_map]
      exact size_small (by show ps.length * 300 ≤ 16777216; omega)
    have s9 := same_upd_new (o := .lst ((List.replicate 300 (ps.map V.str)).flatten)) hq9
    have atR : atI ((List.replicate 300 (ps.map V.str)).flatten) 0 = some (.str ps[0]) := by
      refine atI_nat (j := 0) ?_
      rw [show (300 : Nat) = 299 + 1 from rfl, List.replicate_succ, List.flatten_cons, List.getElem?_append_left (by rw [List.length_map]; exact hpos), List.getElem?_map, List.getElem?_eq_getElem hpos]
      rfl
    have hpr9 := s9 _ _ hpr8
    refine ⟨q9, _, 0, _, rfl, rfl, SqL.of upd_same, atR, _, rfl, pr, _, 0, _, rfl, rfl, SqL.of hpr9, at0, .str ps[0], L, rfl, ⟨size_small (by omega), l0.symm⟩, _, _, rfl, rfl, two, fun t1 ht1 => ⟨one, fun t2 ht2 => ?_⟩⟩
    have u1 := same_upd_new (o := .tup [.str ps[0], .int (301 - (L : Int))]) ht1
    have u2 := same_upd_new (o := .tup [.ref t1]) ht2
    have s82 := (s9.trans u1).trans u2
    have hF := alone_hp (p := ps[0]) (n := 301 - (L : Int)) (L := L) hlo l0 sg0 (by omega) (by omega)
    have hFA := alone_at (n := 301 - (L : Int)) (u2 _ _ upd_same) (upd_same (o := .tup [.ref t1]) (a := t2) (H := upd (upd H8 q9 (.lst ((List.replicate 300 (ps.map V.str)).flatten))) t1 (.tup [.str ps[0], .int (301 - (L : Int))])))
    have hprA := u2 _ _ (u1 _ _ hpr9)
    have hAA := hA.same s82.tup
    refine ⟨_, rfl, by decide, by decide, for_range (n := 3) (fun j σ HB => (∃ z9 z10 : Option V, σ = [some (.ref a), some (.int sd), some (.ref pr), some (.int i), z4, z5, z6, some v, some (.ref t2), z9, z10, none]) ∧ HpAt HB v hp ∧ HpAt HB (.ref t2) [(ps[0], 301 - (L : Int))] ∧ HB pr = some (.lst (ps.map V.str)))
      ⟨⟨none, none, rfl⟩, hAA, hFA, hprA⟩ ?_ ?_⟩
    · rintro j σ HB hj ⟨⟨z9, z10, rfl⟩, hAA, hFA, hprA⟩
      refine ⟨_, rfl, _, rfl, _, _, rfl, rfl, .inl ⟨by decide, by decide⟩, _, _, rfl, rfl, _, _, rfl, rfl, ⟨by omega, by omega⟩, ?_⟩
      have hcell : 0 ≤ sd / (13 + 4 * (0 + (j : Int))) := Int.ediv_nonneg h0 (by omega)
      dsimp only
      generalize sd / (13 + 4 * (0 + (j : Int))) = c at hcell
      refine ⟨_, rfl, _, rfl, pr, ps, L, c, rfl, hprA, hO, h9, hcell, fun x HC sC hx => ?_⟩
      refine ⟨0, x, .non, rfl, .row hx, fun HD sD => ⟨_, rfl, iteF ?_⟩⟩
      have sBD := sC.trans sD
      refine ⟨_, rfl, _, rfl, _, rfl, pr, ps, L, c, rfl, sBD _ _ hprA, hO, hcell, fun x HE sE hx => ?_⟩
      refine ⟨2, v, .str x, rfl, .piece (hAA.same (sBD.trans sE).tup) hH (row_few hH hB hBs) hx, fun HF sF => ⟨_, rfl, iteF ?_⟩⟩
      have sBF := (sBD.trans sE).trans sF
      exact ⟨⟨_, _, rfl⟩, hAA.same sBF.tup, hFA.same sBF.tup, sBF _ _ hprA⟩
    · rintro σ HB ⟨⟨z9, z10, rfl⟩, hAA, hFA, hprA⟩
      have la : ("a" : Str).length = 1 := rfl
      refine ⟨_, rfl, pr, _, 0, _, rfl, rfl, SqL.of hprA, at0, _, _, rfl, rfl, size_small (by omega), two, fun t3 ht3 => ⟨one, fun t4 ht4 => ?_⟩⟩
      have u3 := same_upd_new (o := .tup [.str (ps[0] ++ ("a" : Str)), .int 1]) ht3
      have u4 := same_upd_new (o := .tup [.ref t3]) ht4
      have hG := alone_hp (p := ps[0] ++ ("a" : Str)) (n := 1) (L := L + 1) (by omega) (by rw [Str.length_append]; omega) (by
        rw [app_codes, List.all_append, sg0]
        decide) (by omega) (by omega)
      have hGA := alone_at (n := 1) (u4 _ _ upd_same) (upd_same (o := .tup [.ref t3]) (a := t4) (H := upd HB t3 (.tup [.str (ps[0] ++ ("a" : Str)), .int 1])))
      have sC := u3.trans u4
      have hAC := hAA.same sC.tup
      have hFC := hFA.same sC.tup
      have hprC := sC _ _ hprA
      refine ⟨_, rfl, _, rfl, 1, v, .ref t4, rfl, .heap hAC hGA hI hG (.inl (by omega)), fun HD sD => ⟨_, rfl, iteF ?_⟩⟩
      refine ⟨_, rfl, _, rfl, 1, .ref t4, v, rfl, .heap (hGA.same sD.tup) (hAC.same sD.tup) hG hI (.inl (by omega)), fun HE sE => ⟨_, rfl, iteF ?_⟩⟩
      have sDE := sD.trans sE
      refine ⟨_, rfl, _, rfl, 1, .ref t2, v, rfl, .heap (hFC.same sDE.tup) (hAC.same sDE.tup) hF hI (.inr ?_), fun HF sF => ⟨_, rfl, iteF ?_⟩⟩
      · rw [row_sum hH]
        simp
        omega
      exact ⟨_, rfl, pr, ps, Bs, L, rfl, sF _ _ (sDE _ _ hprC), hO, hB, hBs, fun HG sG => k HG⟩
end
end Sh

set_option Elab.async false
set_option linter.all false
set_option maxRecDepth 100000
namespace Sh
open PySem L2
theorem blt_mk {K : PySem.W.Frag} {h : Heap} {mg : Str → Option Value} (X : K.In h) (G : h.Ns mainGlobals mg) {v0 v1 : Value} (z0 : PySem.W.nsIn K mainGlobals "isinstance" = some none) (z1 : PySem.W.nsIn K mainGlobals "int" = some none) (z2 : PySem.W.nsIn K mainGlobals "bool" = some none) (z3 : PySem.W.nsIn K mainGlobals "str" = some none) (z4 : PySem.W.nsIn K mainGlobals "tuple" = some none) (z5 : PySem.W.nsIn K mainGlobals "list" = some none) (z6 : PySem.W.nsIn K mainGlobals "len" = some none) (z7 : PySem.W.nsIn K mainGlobals "all" = some none) (z8 : PySem.W.nsIn K mainGlobals "range" = some none) (z9 : PySem.W.nsIn K mainGlobals "sum" = some none) (z10 : PySem.W.nsIn K mainGlobals "min" = some none) (z11 : PySem.W.nsIn K mainGlobals "sorted" = some none) (cc0 : PySem.W.nsIn K mainGlobals "LETTERS" = some (some v0)) (ee0 : ∃ t, v0 = .str "abcdefghijklmnopqrstuvwxyz" t) (cc1 : PySem.W.nsIn K mainGlobals "MOST_SIGNS" = some (some v1)) (ee1 : ∃ t, v1 = .int 300 t) : Blt mg :=
  ⟨PySem.W.mg_none_of X G z0, PySem.W.mg_none_of X G z1, PySem.W.mg_none_of X G z2, PySem.W.mg_none_of X G z3, PySem.W.mg_none_of X G z4, PySem.W.mg_none_of X G z5, PySem.W.mg_none_of X G z6, PySem.W.mg_none_of X G z7, PySem.W.mg_none_of X G z8, PySem.W.mg_none_of X G z9, PySem.W.mg_none_of X G z10, PySem.W.mg_none_of X G z11, (let ⟨t, e⟩ := ee0; ⟨t, e ▸ PySem.W.mg_of X G cc0⟩), (let ⟨t, e⟩ := ee1; ⟨t, e ▸ PySem.W.mg_of X G cc1⟩)⟩
theorem er_mk {K : PySem.W.Frag} {h : Heap} {mg : Str → Option Value} {S Ch Cp A1 A2 A3 A4 A5 A6 A7 : Addr} (X : K.In h) (G : h.Ns mainGlobals mg)
    (s0 : PySem.W.nsIn K mainGlobals "ShredError" = some (some (.ref S))) (th : PySem.W.nsIn K mainGlobals "NoHeap" = some (some (.ref Ch))) (tp : PySem.W.nsIn K mainGlobals "NoPiece" = some (some (.ref Cp))) (g1 : PySem.W.nsIn K mainGlobals "Apart" = some (some (.ref A1))) (g2 : PySem.W.nsIn K mainGlobals "NoDeed" = some (some (.ref A2))) (g3 : PySem.W.nsIn K mainGlobals "NoLine" = some (some (.ref A3))) (g4 : PySem.W.nsIn K mainGlobals "NoNumber" = some (some (.ref A4))) (g5 : PySem.W.nsIn K mainGlobals "NoText" = some (some (.ref A5))) (g6 : PySem.W.nsIn K mainGlobals "NoTexts" = some (some (.ref A6))) (g7 : PySem.W.nsIn K mainGlobals "Unlike" = some (some (.ref A7)))
    (vn : PySem.W.nsIn K mainGlobals "ValueError" = some none) (qs : PySem.W.excIn K S upVE "ValueError.__new__" = true) (qh : PySem.W.excIn K Ch upVE "ValueError.__new__" = true) (qp : PySem.W.excIn K Cp upVE "ValueError.__new__" = true) (uh : PySem.W.mroIn K Ch (.ref S) = some true) (up : PySem.W.mroIn K Cp (.ref S) = some true) (nh : (S == Ch) = false) (np : (S == Cp) = false) (ah : XAttr K Ch) (ap : XAttr K Cp)
    (veh : PySem.W.kitOne K (.ref Ch) (.type "ValueError") = some true) (vep : PySem.W.kitOne K (.ref Cp) (.type "ValueError") = some true) (xhp : PySem.W.kitOne K (.ref Ch) (.ref Cp) = some false) (xph : PySem.W.kitOne K (.ref Cp) (.ref Ch) = some false) (oth : PySem.W.kitAny K (.ref Ch) [.ref A1, .ref A2, .ref A3, .ref A4, .ref A5, .ref A6, .ref A7] = some false) (otp : PySem.W.kitAny K (.ref Cp) [.ref A1, .ref A2, .ref A3, .ref A4, .ref A5, .ref A6, .ref A7] = some false) : Er3 K mg S Ch Cp A1 A2 A3 A4 A5 A6 A7 :=
  ⟨xcls_mk (PySem.W.mg_of X G s0) qs, xcls_mk (PySem.W.mg_of X G th) qh, xcls_mk (PySem.W.mg_of X G tp) qp, up_of uh qh nh, up_of up qp np, ah, ap, veh, vep, xhp, xph, oth, otp, PySem.W.mg_of X G g1, PySem.W.mg_of X G g2, PySem.W.mg_of X G g3, PySem.W.mg_of X G g4, PySem.W.mg_of X G g5, PySem.W.mg_of X G g6, PySem.W.mg_of X G g7, PySem.W.mg_none_of X G vn⟩
theorem all_mk {l : PySem.W.OpenLaw} {w : World} {K : PySem.W.Frag} {h : Heap} {mg : Str → Option Value} {fa f0 : Addr} (X : K.In h) (G : h.Ns mainGlobals mg) (hfa : mg "law" = some (.ref fa)) {oc kV dc pm cd ct : Value} {od an : Option Addr} {sl : Array (Option Value)}
    (B : Blt mg) (Bd : mg "dict" = none) {S Ch Cp A1 A2 A3 A4 A5 A6 A7 : Addr} (Er : Er3 K mg S Ch Cp A1 A2 A3 A4 A5 A6 A7)
    (D0 : HasDef K mg "is_whole" sIsWhole ["thing"])
    (D1 : HasDef K mg "is_long" sIsLong ["thing"])
    (D2 : HasDef K mg "is_text" sIsText ["thing"])
    (D3 : HasDef K mg "most_pieces" sMost ["long"])
    (D4 : HasDef K mg "are_pieces" sArePieces ["things"])
    (D5 : HasDef K mg "long_of" sLongOf ["H"])
    (D6 : HasDef K mg "size_of" sSizeOf ["H"])
    (D7 : HasDef K mg "in_rows" sInRows ["manys"])
    (D8 : HasDef K mg "counted" sCounted ["pieces"])
    (D9 : HasDef K mg "heap_of" sHeapOf ["pieces"])
    (D10 : HasDef K mg "heaped" sHeaped ["one", "other"])
    (D11 : HasDef K mg "less_one" sLessOne ["H", "piece"])
    (D12 : HasDef K mg "_law_seed" sLSeed ["_law_script"])
    (D13 : HasDef K mg "_law_alphabet" sLAlph ["_law_seed_here", "_law_few"])
    (D14 : HasDef K mg "_law_whole" sLWhole ["_law_found"])
    (D15 : HasDef K mg "_law_heap" sLHeap ["_law_pieces_here"])
    (D16 : HasDef K mg "_law_same_heap" sLSame ["_law_found", "_law_due"])
    (D17 : HasDef K mg "_law_pieces" sLPieces ["_law_script", "_law_seed_here"])
    (D18 : HasDef K mg "_law_asked" sLAsked ["_law_way", "_law_one", "_law_other"])
    (D19 : HasDef K mg "_law_refused" sLRefused ["_law_way", "_law_one", "_law_other"])
    (D20 : HasDef K mg "_law_no_row" sLNoRow ["_law_row", "_law_cell"])
    (D21 : HasDef K mg "_law_other_piece" sLOtherPiece ["_law_row", "_law_cell"])
    (D22 : HasDef K mg "_law_counted" sLCounted ["_law_row"])
    (D23 : HasDef K mg "_law_taken_out" sLTakenOut ["_law_row", "_law_cell"])
    (a0 : PySem.W.nsIn K mainGlobals "law" = some (some (.ref f0))) (l0 : K.lookup f0 = some ⟨oc, od, .func (PySem.W.fnOf "law" "law" (defArgs sLaw) (defBody sLaw) (defScope sLaw) .none kV dc pm an cd ct), sl⟩) (c0 : PySem.W.codeIn K cd "law" = true) (k0 : PySem.W.keepIn K (.ref f0) = true) :
    ∃ fd : FuncData, (∀ (s : Shared) (v : Value), BindsTo s fd ⟨[v], []⟩ [("_law_script", v)]) ∧ ∀ base : Heap, K.In base → base.Ns mainGlobals mg → FnOk l.prog w K mg base CX0 8 fa fd ["_law_script"] (spLaw K) := by
  have e := hfa.symm.trans (PySem.W.mg_of X G a0)
  cases e
  refine ⟨PySem.W.fnOf "law" "law" (defArgs sLaw) (defBody sLaw) (defScope sLaw) .none kV dc pm an cd ct, fun s v => .of_eq rfl, fun base _ _ => ?_⟩
  have W0 := ok_is_whole (P := l.prog) (w := w) (base := base) D0 B
  have W1 := ok_is_long (P := l.prog) (w := w) (base := base) D1 B W0
  have W2 := ok_is_text (P := l.prog) (w := w) (base := base) D2 B W1
  have W3 := ok_most (P := l.prog) (w := w) (base := base) D3 B
  have W4 := ok_are_piecesA (P := l.prog) (w := w) (base := base) D4 B W2
  have W5 := ok_long_of (P := l.prog) (w := w) (base := base) D5 B
  have W6 := ok_size_of (P := l.prog) (w := w) (base := base) D6 B
  have W7 := ok_in_rows (P := l.prog) (w := w) (base := base) D7 B
  have W8 := ok_countedA (P := l.prog) (w := w) (base := base) D8 B W7
  have W9 := ok_heap_of (P := l.prog) (w := w) (base := base) D9 B Er.th (W4.mono (by decide)) (W3.mono (by decide)) (W8.mono (by decide))
  have W10 := ok_heaped (P := l.prog) (w := w) (base := base) D10 B Bd Er.th (W5.mono (by decide)) (W6.mono (by decide)) (W3.mono (by decide)) (W7.mono (by decide))
  have W11 := ok_less_one (P := l.prog) (w := w) (base := base) D11 B Bd Er.tp (W7.mono (by decide))
  have W12 := ok_l_seed (P := l.prog) (w := w) (base := base) D12
  have W13 := ok_l_alph (P := l.prog) (w := w) (base := base) D13 B
  have W14 := ok_l_whole (P := l.prog) (w := w) (base := base) D14 B
  have W15 := ok_l_heap (P := l.prog) (w := w) (base := base) D15 B
  have W16 := ok_l_same (P := l.prog) (w := w) (base := base) D16 B W14
  have W17 := ok_l_pieces (P := l.prog) (w := w) (base := base) D17 B W13
  have W18 := ok_l_asked (P := l.prog) (w := w) (base := base) D18 W9 W10 W11
  have W19 := ok_l_refused (P := l.prog) (w := w) (base := base) D19 B Er W18
  have W20 := ok_l_no_row (P := l.prog) (w := w) (base := base) D20 B
  have W21 := ok_l_other (P := l.prog) (w := w) (base := base) D21 B
  have W22 := ok_l_counted (P := l.prog) (w := w) (base := base) D22 B (W15.mono (by decide)) W9 (W16.mono (by decide)) (W6.mono (by decide)) (W14.mono (by decide))
  have W23 := ok_l_taken (P := l.prog) (w := w) (base := base) D23 B (W15.mono (by decide)) W11 (W16.mono (by decide))
  exact ok_law (fun_mk (st := sLaw) l0 c0 k0) B (W12.mono (by decide)) (W17.mono (by decide)) (W22.mono (by decide)) (W23.mono (by decide)) (W15.mono (by decide)) (W10.mono (by decide)) (W16.mono (by decide)) W19 (W20.mono (by decide)) (W21.mono (by decide))
theorem walk {l : PySem.W.OpenLaw} {q : Program} {loose : List Str} {XP : (Str → Option Value) → Heap → Prop} {YP : World → Heap → Prop} {d : DefRec} {K : Params → PySem.W.Frag} (hn : l.most = some 63) (hdf : d.params.defaults = [])
    (hY : ∀ (w : World) (h : Heap), YP w h → (K w.params).In h)
    (F : ∀ (w : World) (mg : Str → Option Value) (fa : Addr) (h : Heap), (K w.params).In h → h.Ns mainGlobals mg → mg d.name = some (.ref fa) →
      ∃ fd : FuncData, (∀ (s : Shared) (u : Value), BindsTo s fd ⟨[u], []⟩ [("_law_script", u)]) ∧ ∀ base : Heap, (K w.params).In base → base.Ns mainGlobals mg → FnOk l.prog w (K w.params) mg base CX0 8 fa fd ["_law_script"] (spLaw (K w.params))) :
    PySem.W.WalkO q loose XP YP l.row.toRowW d [] (fun f vs => PySem.call f vs) :=
  L2.walk_of (n := 63) (k := 8) (x := "_law_script") (CX := fun _ => CX0) (sp := fun w => spLaw (K w.params)) hn (by decide) hdf ⟨rfl, by decide, by decide⟩ hY F (fun _ _ a ns hl _ hS => ⟨a, ns, rfl, hS, hl, fun _ => rfl⟩) fun _ _ _ _ _ z => z
end Sh

set_option Elab.async false
set_option linter.all false
set_option maxRecDepth 100000
open PySem PySem.W PyProof.Rows
set_option maxRecDepth 100000 in
set_option maxHeartbeats 0 in
theorem PySem.Challenge.cw_shredjoin_k03_heap_deeds_holds : PySem.Challenge.rw_shredjoin_k03_heap_deeds.Holds := by
  w_on; o_law; k_head; (case hw => w_witness2)
  k_fill
  refine Sh.walk (l := PySem.Challenge.rw_shredjoin_k03_heap_deeds) rfl rfl (fun w h Y => PySem.W.kIn_of Y) ?F
  case F =>
    intro w mg fa h KX G hmg
    refine' Sh.all_mk KX G hmg ?B ?Bd ?Er ?D0 ?D1 ?D2 ?D3 ?D4 ?D5 ?D6 ?D7 ?D8 ?D9 ?D10 ?D11 ?D12 ?D13 ?D14 ?D15 ?D16 ?D17 ?D18 ?D19 ?D20 ?D21 ?D22 ?D23 ?a0 ?l0 ?c0 ?k0
    case B =>
      refine' Sh.blt_mk KX G ?z0 ?z1 ?z2 ?z3 ?z4 ?z5 ?z6 ?z7 ?z8 ?z9 ?z10 ?z11 ?cc0 ?ee0 ?cc1 ?ee1
      (case z0 => k_is); (case z1 => k_is); (case z2 => k_is); (case z3 => k_is); (case z4 => k_is); (case z5 => k_is); (case z6 => k_is); (case z7 => k_is); (case z8 => k_is); (case z9 => k_is); (case z10 => k_is); (case z11 => k_is); (case cc0 => k_is); (case ee0 => exact ⟨_, rfl⟩); (case cc1 => k_is); (case ee1 => exact ⟨_, rfl⟩)
    case Bd =>
      refine' PySem.W.mg_none_of KX G ?z
      (case z => k_is)
    case Er =>
      refine' Sh.er_mk KX G ?s0 ?th ?tp ?g1 ?g2 ?g3 ?g4 ?g5 ?g6 ?g7 ?vn ?qs ?qh ?qp ?uh ?up ?nh ?np ?ah ?ap ?veh ?vep ?xhp ?xph ?oth ?otp
      (case s0 => k_is); (case th => k_is); (case tp => k_is)
      (case g1 => k_is); (case g2 => k_is); (case g3 => k_is); (case g4 => k_is); (case g5 => k_is); (case g6 => k_is); (case g7 => k_is)
      (case vn => k_is); (case qs => k_exc); (case qh => k_exc); (case qp => k_exc)
      (case uh => k_is); (case up => k_is); (case nh => decide); (case np => decide)
      (case ah =>
        refine' L2.xattr_mk ?ga ?gx ?gc ?sp ?tk ?mo ?mb ?cl
        (case ga => k_is); (case gx => k_is); (case gc => k_is); (case sp => k_is); (case tk => k_is); (case mo => k_is); (case mb => k_is); (case cl => k_is))
      (case ap =>
        refine' L2.xattr_mk ?ga ?gx ?gc ?sp ?tk ?mo ?mb ?cl
        (case ga => k_is); (case gx => k_is); (case gc => k_is); (case sp => k_is); (case tk => k_is); (case mo => k_is); (case mb => k_is); (case cl => k_is))
      (case veh => kit_is); (case vep => kit_is); (case xhp => kit_is); (case xph => kit_is); (case oth => kit_is); (case otp => kit_is)
    case D0 =>
      refine' L2.hasDef_mk KX G ?a ?l ?c ?k ?b
      (case a => k_is); (case l => k_is); (case c => k_is); (case k => k_is)
      case b => exact fun _ _ _ _ _ _ us hl => match us, hl with | [_], _ => rfl
    case D1 =>
      refine' L2.hasDef_mk KX G ?a ?l ?c ?k ?b
      (case a => k_is); (case l => k_is); (case c => k_is); (case k => k_is)
      case b => exact fun _ _ _ _ _ _ us hl => match us, hl with | [_], _ => rfl
    case D2 =>
      refine' L2.hasDef_mk KX G ?a ?l ?c ?k ?b
      (case a => k_is); (case l => k_is); (case c => k_is); (case k => k_is)
      case b => exact fun _ _ _ _ _ _ us hl => match us, hl with | [_], _ => rfl
    case D3 =>
      refine' L2.hasDef_mk KX G ?a ?l ?c ?k ?b
      (case a => k_is); (case l => k_is); (case c => k_is); (case k => k_is)
      case b => exact fun _ _ _ _ _ _ us hl => match us, hl with | [_], _ => rfl
    case D4 =>
      refine' L2.hasDef_mk KX G ?a ?l ?c ?k ?b
      (case a => k_is); (case l => k_is); (case c => k_is); (case k => k_is)
      case b => exact fun _ _ _ _ _ _ us hl => match us, hl with | [_], _ => rfl
    case D5 =>
      refine' L2.hasDef_mk KX G ?a ?l ?c ?k ?b
      (case a => k_is); (case l => k_is); (case c => k_is); (case k => k_is)
      case b => exact fun _ _ _ _ _ _ us hl => match us, hl with | [_], _ => rfl
    case D6 =>
      refine' L2.hasDef_mk KX G ?a ?l ?c ?k ?b
      (case a => k_is); (case l => k_is); (case c => k_is); (case k => k_is)
      case b => exact fun _ _ _ _ _ _ us hl => match us, hl with | [_], _ => rfl
    case D7 =>
      refine' L2.hasDef_mk KX G ?a ?l ?c ?k ?b
      (case a => k_is); (case l => k_is); (case c => k_is); (case k => k_is)
      case b => exact fun _ _ _ _ _ _ us hl => match us, hl with | [_], _ => rfl
    case D8 =>
      refine' L2.hasDef_mk KX G ?a ?l ?c ?k ?b
      (case a => k_is); (case l => k_is); (case c => k_is); (case k => k_is)
      case b => exact fun _ _ _ _ _ _ us hl => match us, hl with | [_], _ => rfl
    case D9 =>
      refine' L2.hasDef_mk KX G ?a ?l ?c ?k ?b
      (case a => k_is); (case l => k_is); (case c => k_is); (case k => k_is)
      case b => exact fun _ _ _ _ _ _ us hl => match us, hl with | [_], _ => rfl
    case D10 =>
      refine' L2.hasDef_mk KX G ?a ?l ?c ?k ?b
      (case a => k_is); (case l => k_is); (case c => k_is); (case k => k_is)
      case b => exact fun _ _ _ _ _ _ us hl => match us, hl with | [_, _], _ => rfl
    case D11 =>
      refine' L2.hasDef_mk KX G ?a ?l ?c ?k ?b
      (case a => k_is); (case l => k_is); (case c => k_is); (case k => k_is)
      case b => exact fun _ _ _ _ _ _ us hl => match us, hl with | [_, _], _ => rfl
    case D12 =>
      refine' L2.hasDef_mk KX G ?a ?l ?c ?k ?b
      (case a => k_is); (case l => k_is); (case c => k_is); (case k => k_is)
      case b => exact fun _ _ _ _ _ _ us hl => match us, hl with | [_], _ => rfl
    case D13 =>
      refine' L2.hasDef_mk KX G ?a ?l ?c ?k ?b
      (case a => k_is); (case l => k_is); (case c => k_is); (case k => k_is)
      case b => exact fun _ _ _ _ _ _ us hl => match us, hl with | [_, _], _ => rfl
    case D14 =>
      refine' L2.hasDef_mk KX G ?a ?l ?c ?k ?b
      (case a => k_is); (case l => k_is); (case c => k_is); (case k => k_is)
      case b => exact fun _ _ _ _ _ _ us hl => match us, hl with | [_], _ => rfl
    case D15 =>
      refine' L2.hasDef_mk KX G ?a ?l ?c ?k ?b
      (case a => k_is); (case l => k_is); (case c => k_is); (case k => k_is)
      case b => exact fun _ _ _ _ _ _ us hl => match us, hl with | [_], _ => rfl
    case D16 =>
      refine' L2.hasDef_mk KX G ?a ?l ?c ?k ?b
      (case a => k_is); (case l => k_is); (case c => k_is); (case k => k_is)
      case b => exact fun _ _ _ _ _ _ us hl => match us, hl with | [_, _], _ => rfl
    case D17 =>
      refine' L2.hasDef_mk KX G ?a ?l ?c ?k ?b
      (case a => k_is); (case l => k_is); (case c => k_is); (case k => k_is)
      case b => exact fun _ _ _ _ _ _ us hl => match us, hl with | [_, _], _ => rfl
    case D18 =>
      refine' L2.hasDef_mk KX G ?a ?l ?c ?k ?b
      (case a => k_is); (case l => k_is); (case c => k_is); (case k => k_is)
      case b => exact fun _ _ _ _ _ _ us hl => match us, hl with | [_, _, _], _ => rfl
    case D19 =>
      refine' L2.hasDef_mk KX G ?a ?l ?c ?k ?b
      (case a => k_is); (case l => k_is); (case c => k_is); (case k => k_is)
      case b => exact fun _ _ _ _ _ _ us hl => match us, hl with | [_, _, _], _ => rfl
    case D20 =>
      refine' L2.hasDef_mk KX G ?a ?l ?c ?k ?b
      (case a => k_is); (case l => k_is); (case c => k_is); (case k => k_is)
      case b => exact fun _ _ _ _ _ _ us hl => match us, hl with | [_, _], _ => rfl
    case D21 =>
      refine' L2.hasDef_mk KX G ?a ?l ?c ?k ?b
      (case a => k_is); (case l => k_is); (case c => k_is); (case k => k_is)
      case b => exact fun _ _ _ _ _ _ us hl => match us, hl with | [_, _], _ => rfl
    case D22 =>
      refine' L2.hasDef_mk KX G ?a ?l ?c ?k ?b
      (case a => k_is); (case l => k_is); (case c => k_is); (case k => k_is)
      case b => exact fun _ _ _ _ _ _ us hl => match us, hl with | [_], _ => rfl
    case D23 =>
      refine' L2.hasDef_mk KX G ?a ?l ?c ?k ?b
      (case a => k_is); (case l => k_is); (case c => k_is); (case k => k_is)
      case b => exact fun _ _ _ _ _ _ us hl => match us, hl with | [_, _], _ => rfl
    (case a0 => k_is); (case l0 => k_is); (case c0 => k_is); (case k0 => k_is)
#print axioms PySem.Challenge.cw_shredjoin_k03_heap_deeds_holds
