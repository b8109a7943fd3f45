import PyProof.Rows.All
import Wide.All
import OpenK.AllK
import Wide.FinOn
import Lean
import PyProof.EqAt
import PyProof.EqKinds
import PyProof.TupleCall
import KE.KSortTup
import KE.KItemsList
import KE.KUnpack
import PyProof.EnumMake
import PyProof.EnumFor
import PyProof.EnumStmt
import KE.KMinBuiltin
import PyProof.WalkInts
import PyProof.Rows.CallKwBuiltin
import PyProof.DictItemsLoops
import KE.KDictLaws
import KE.KPairComp
import KE.KDictSum
import PyProof.Rows.DictUnroll
import PyProof.ZipIter
import KE.KStateDown
import KE.KRevSl
import PyProof.ListRange
import PyProof.Rows.Range3
import PyProof.SeqI3
import PyProof.TupleOfSeq
import PySem.Challenge.RW_shredjoin_k21_ways
set_option Elab.async false
set_option linter.all false
set_option maxRecDepth 100000
/-! THE HAND LAYER, for ints, bools, texts, own classes, LISTS and tuples (index, slices, in, append, pop ..), calls, loops. Paste it whole ahead of your own text; what your proof does not reach may be deleted. -/
namespace L2
open PySem PySem.Spec PyProof.Rows

/-- a key: an int or a str -/
abbrev Key := Sum Int Str
def keyIs : Key → Value → Bool
  | .inl k, v => Value.isInt k v
  | .inr x, v => Value.isStrOf x v
def keyH (w : World) : Key → Int
  | .inl k => hashInt k
  | .inr x => hashStr w x
theorem keyIs_shape : ∀ {k : Key} {v : Value}, keyIs k v = true → (∃ i t, k = Sum.inl i ∧ v = Value.int i t) ∨ (∃ x t, k = Sum.inr x ∧ v = Value.str x t)
  | .inl i, v, h => by
    obtain ⟨t, e⟩ := Value.isInt_shape (k := i) (v := v) h
    exact .inl ⟨i, t, rfl, e⟩
  | .inr x, v, h => by
    obtain ⟨t, e⟩ := Value.isStrOf_shape (x := x) (v := v) h
    exact .inr ⟨x, t, rfl, e⟩
theorem keyIs_int (i : Int) (t : Tok) : keyIs (.inl i) (.int i t) = true := by simp [keyIs, Value.isInt]
theorem keyIs_str (x : Str) (t : Tok) : keyIs (.inr x) (.str x t) = true := by simp [keyIs, Value.isStrOf]
theorem key_ll (a b : Int) : decide ((Sum.inl a : Key) = Sum.inl b) = (a == b) := by
  by_cases e : a = b
  · subst e; simp
  · have h : ¬ (Sum.inl a : Key) = Sum.inl b := fun q => e (Sum.inl.inj q)
    rw [decide_eq_false h]
    exact (beq_eq_false_iff_ne.mpr e).symm
theorem key_rr (a b : Str) : decide ((Sum.inr a : Key) = Sum.inr b) = decide (a = b) := by
  by_cases e : a = b
  · subst e; simp
  · have h : ¬ (Sum.inr a : Key) = Sum.inr b := fun q => e (Sum.inr.inj q)
    rw [decide_eq_false h, decide_eq_false e]
theorem key_lr (a : Int) (b : Str) : decide ((Sum.inl a : Key) = Sum.inr b) = false := decide_eq_false (fun q => nomatch q)
theorem key_rl (a : Str) (b : Int) : decide ((Sum.inr a : Key) = Sum.inl b) = false := decide_eq_false (fun q => nomatch q)

def mixKind (prog : Program) (w : World) : PySem.KeyKind prog w Key where
  is := keyIs
  hash := keyH w
  inj := fun v a b ha hb => by
    rcases keyIs_shape ha with ⟨i, t, rfl, rfl⟩ | ⟨x, t, rfl, rfl⟩
    · rcases keyIs_shape hb with ⟨j, u, rfl, e⟩ | ⟨y, u, rfl, e⟩
      · injection e with e1 _; rw [e1]
      · exact nomatch e
    · rcases keyIs_shape hb with ⟨j, u, rfl, e⟩ | ⟨y, u, rfl, e⟩
      · exact nomatch e
      · injection e with e1 _; rw [e1]
  byValue := fun k v h => by
    rcases keyIs_shape h with ⟨i, t, rfl, rfl⟩ | ⟨x, t, rfl, rfl⟩ <;> rfl
  pyHash := fun hv h => by
    rcases keyIs_shape hv with ⟨i, t, rfl, rfl⟩ | ⟨x, t, rfl, rfl⟩
    · exact wpAny_pyHash_int h
    · exact wpAny_pyHash_str h
  eqBool := fun hu hv h => by
    rcases keyIs_shape hu with ⟨i, t, rfl, rfl⟩ | ⟨x, t, rfl, rfl⟩
    · rcases keyIs_shape hv with ⟨j, u, rfl, rfl⟩ | ⟨y, u, rfl, rfl⟩
      · rw [key_ll] at h; exact wpAny_eqBool_int h
      · rw [key_lr] at h; exact SeqAt.EqAt.int_str i t y u _ _ _ _ h
    · rcases keyIs_shape hv with ⟨j, u, rfl, rfl⟩ | ⟨y, u, rfl, rfl⟩
      · rw [key_rl] at h; exact SeqAt.EqAt.str_int x t j u _ _ _ _ h
      · rw [key_rr] at h; exact wpAny_eqBool_str h
  «strs» := fun k x t v h => by
    rcases keyIs_shape h with ⟨i, u, rfl, e⟩ | ⟨y, u, rfl, e⟩
    · exact nomatch e
    · injection e with e1 _
      subst e1
      cases v <;> rfl

theorem mixKind_int (prog : Program) (w : World) (i : Int) (t : Tok) : (mixKind prog w).is (.inl i) (.int i t) = true := keyIs_int i t
theorem mixKind_str (prog : Program) (w : World) (x : Str) (t : Tok) : (mixKind prog w).is (.inr x) (.str x t) = true := keyIs_str x t
end L2

namespace L2
open PySem PySem.Spec PyProof.Rows

/-- a value, without the heap -/
inductive V where
  | non | bl (b : Bool) | int (i : Int) | str (x : Str) | byt (b : Array UInt8) | flt (b : UInt64) | ref (a : Addr) | ty (n : String)
  deriving DecidableEq

def RelV : V → Value → Prop
  | .non, u => u = Value.none
  | .bl b, u => u = Value.bool b
  | .int i, u => ∃ t, u = Value.int i t
  | .str x, u => ∃ t, u = Value.str x t
  | .byt b, u => ∃ t, u = Value.bytes b t
  | .flt b, u => ∃ t, u = Value.float b t
  | .ref a, u => u = Value.ref a
  | .ty n, u => u = Value.type n

abbrev Vals : List V → List Value → Prop := Paired RelV
theorem Vals.length {xs : List V} {us : List Value} (r : Vals xs us) : xs.length = us.length := Paired.length r
theorem Vals.get : ∀ {xs : List V} {us : List Value} {i : Nat} {x : V}, Vals xs us → xs[i]? = some x → ∃ u, us[i]? = some u ∧ RelV x u
  | _, _, _, _, .nil, e => by simp at e
  | _, _, 0, _, .cons r _, e => by simp at e; subst e; exact ⟨_, rfl, r⟩
  | _, _, i + 1, x, .cons _ t, e => by
    obtain ⟨u, h1, h2⟩ := Vals.get (i := i) (x := x) t (by simpa using e)
    exact ⟨u, by simpa using h1, h2⟩
theorem Vals.set {x : V} {u : Value} (r : RelV x u) : ∀ {xs : List V} {us : List Value} (i : Nat), Vals xs us → Vals (xs.set i x) (us.set i u)
  | _, _, _, .nil => .nil
  | _, _, 0, .cons _ t => .cons r t
  | _, _, i + 1, .cons q t => .cons q (Vals.set r i t)
theorem Vals.append : ∀ {xs ys : List V} {us ws : List Value}, Vals xs us → Vals ys ws → Vals (xs ++ ys) (us ++ ws)
  | _, _, _, _, .nil, s => s
  | _, _, _, _, .cons r t, s => .cons r (Vals.append t s)
theorem Vals.take : ∀ {xs : List V} {us : List Value} (n : Nat), Vals xs us → Vals (xs.take n) (us.take n)
  | _, _, 0, _ => .nil
  | _, _, _ + 1, .nil => .nil
  | _, _, n + 1, .cons r t => .cons r (Vals.take n t)
theorem Vals.drop : ∀ {xs : List V} {us : List Value} (n : Nat), Vals xs us → Vals (xs.drop n) (us.drop n)
  | _, _, 0, r => r
  | _, _, _ + 1, .nil => .nil
  | _, _, n + 1, .cons _ t => Vals.drop n t

def RelO : Option V → Option Value → Prop
  | some v, some u => RelV v u
  | none, none => True
  | _, _ => False
def KV {κ : Type} : List (κ × V) → List (κ × Value) → Prop := Paired fun (p : κ × V) (q : κ × Value) => p.1 = q.1 ∧ RelV p.2 q.2

/-- a key of a dict (00_mix): an int or a text -/
def kV : Key → V
  | .inl i => .int i
  | .inr x => .str x

/-- what stands at a tracked address -/
inductive HO where
  /-- a list -/
  | lst (xs : List V)
  /-- a tuple (never changes) -/
  | tup (xs : List V)
  /-- a dict whose keys are ints and texts; one whose keys are tuples of ints and texts (the empty one is both) -/
  | dK (kvs : List (Key × V)) | dT (kvs : List (List Key × V))
  /-- a set of ints: its members, its size -/
  | set (S : Int → Bool) (n : Nat)
  /-- an instance of the class at C, its dict at dx, its attributes -/
  | ins (C dx : Addr) (fs : List (Str × V))
  /-- the dict of the instance at x -/
  | own (x : Addr)
  /-- the dict of an exception -/
  | xd (fs : List (Str × V))
  /-- a bound method, f of x -/
  | met (f x : Addr)
  /-- a range object lo, lo + 1, .. below hi -/
  | rng (lo hi : Int)
  /-- a thing that is known to the object (the script; a dict while a loop walks it): read, never written while it is so -/
  | frz (o : Obj) (u : HO)
  /-- a code object's table -/
  | tbl (ps : Array Value)
  /-- any other thing, by what is true of its one object (a def of one's own: SetO a S n := HO.ext fun h => ..) -/
  | ext (φ : Heap → Prop)

abbrev Hp := Addr → Option HO
def upd (H : Hp) (a : Addr) (o : HO) : Hp := fun b => if b = a then some o else H b
theorem upd_same {H : Hp} {a : Addr} {o : HO} : upd H a o a = some o := by unfold upd; rw [if_pos rfl]
theorem upd_ne {H : Hp} {a b : Addr} {o : HO} (h : b ≠ a) : upd H a o b = H b := by unfold upd; rw [if_neg h]
theorem upd_upd {H : Hp} {a : Addr} {o u : HO} : upd (upd H a o) a u = upd H a u := by
  funext b; unfold upd; split <;> rfl
/-- two objects of different content stand apart -/
theorem ne_of {H : Hp} {a b : Addr} {o u : HO} (h : H a = some o) (h' : H b = some u) (d : o ≠ u) : a ≠ b := by
  intro e; subst e; rw [h] at h'; exact d (Option.some.inj h')
theorem ne_of_none {H : Hp} {a b : Addr} {o : HO} (h : H a = some o) (h' : H b = none) : a ≠ b := by
  intro e; subst e; rw [h] at h'; cases h'

section
variable (P : Program) (w : World)
def NoD (h : Heap) (a : Addr) : Prop := ∀ o, h.get? a = some o → o.dict = none
theorem noD_push {h : Heap} {o : Obj} (hd : o.dict = none) (hf : o.isFreed = false) : NoD (h.push o) h.objs.size := fun o2 e => by
  rw [Heap.get?_push_size h hf] at e
  cases e
  exact hd
def ObjOk (H : Hp) (h : Heap) (a : Addr) : HO → Prop
  | .lst xs => xs.length ≤ sizeLine ∧ ∃ (its : List Value) (n : Nat), Vals xs its ∧ h.get? a = some { cls := .type "list", data := .seq its.toArray n }
  | .tup xs => xs.length ≤ sizeLine ∧ ∃ its : List Value, Vals xs its ∧ IsTup h a its.toArray ∧ NoD h a
  | .dK kvs => kvs.length ≤ sizeLine ∧ (a == sysModules) = false ∧ ∃ vs, KV kvs vs ∧ h.DictOf (mixKind P w) a vs
  | .dT kvs => kvs.length ≤ sizeLine ∧ (a == sysModules) = false ∧ ∃ xs : List (List Key × Addr × Value),
      Paired (fun (p : List Key × V) (q : List Key × Addr × Value) => p.1 = q.1 ∧ H q.2.1 = some (.tup (p.1.map kV)) ∧ RelV p.2 q.2.2) kvs xs ∧
      ∃ o es ep, h.get? a = some o ∧ o.ExactDict ∧ o.data = .dict es ep ∧ es.toList = xs.map (entryOfKey (tupleKind (mixKind P w))) ∧ (xs.map (·.1)).Nodup
  | .set S n => h.SetOf (intKind P w) a S n
  | .ins C dx fs => H dx = some (.own a) ∧ fs.length ≤ 1000 ∧ dx ≠ a ∧ h.get? a = some (PySem.W.instObj C dx) ∧
      ∃ mA, h.Ns1 dx mA ∧ (∀ f, RelO (fs.lookup f) (mA f)) ∧ PySem.Within mA (fs.map (·.1))
  | .own _ => ∃ o, h.get? a = some o
  | .xd fs => ∃ mA, h.Ns1 a mA ∧ ∀ f, RelO (fs.lookup f) (mA f)
  | .rng lo hi => ∃ t u v, h.get? a = some { cls := .type "range", data := .fields #[.int lo t, .int hi u, .int 1 v] }
  | .frz o u => h.get? a = some o ∧ ObjOk H h a u
  | .tbl ps => h.get? a = some { cls := .none, data := .fields ps }
  | .met f x => h.get? a = some (PySem.W.methodObj (.ref f) (.ref x))
  | .ext φ => φ h ∧ (∃ o, h.get? a = some o) ∧ ∀ h1 h2 : Heap, φ h1 → (∀ o, h1.get? a = some o → h2.get? a = some o) → φ h2
/-- the abstract heap is held -/
def HOk (H : Hp) (h : Heap) : Prop := ∀ a o, H a = some o → ObjOk P w H h a o
end

section
variable {P : Program} {w : World} {H H' : Hp} {h h' : Heap} {a : Addr} {o : HO}
theorem ObjOk.lt (x : ObjOk P w H h a o) : a < h.objs.size := by
  cases o with
  | lst xs => obtain ⟨_, _, _, _, e⟩ := x; exact Heap.lt_size e
  | tup xs => obtain ⟨_, _, _, p, _⟩ := x; exact p.lt
  | dK kvs => obtain ⟨_, _, _, _, o, _, _, e, _⟩ := x; exact Heap.lt_size e
  | dT kvs => obtain ⟨_, _, _, _, o, _, _, e, _⟩ := x; exact Heap.lt_size e
  | set S n => obtain ⟨o, _, _, _, e, _⟩ := x; exact Heap.lt_size e
  | ins C dx fs => obtain ⟨_, _, _, e, _⟩ := x; exact Heap.lt_size e
  | own y => obtain ⟨_, e⟩ := x; exact Heap.lt_size e
  | xd fs => obtain ⟨_, ⟨_, _, _, e, _⟩, _⟩ := x; exact Heap.lt_size e
  | rng lo hi => obtain ⟨_, _, _, e⟩ := x; exact Heap.lt_size e
  | frz ob u => obtain ⟨e, _⟩ := x; exact Heap.lt_size e
  | tbl ps => exact Heap.lt_size (show h.get? a = some _ from x)
  | met f y => exact Heap.lt_size (show h.get? a = some _ from x)
  | ext φ => obtain ⟨_, ⟨_, e⟩, _⟩ := x; exact Heap.lt_size e
theorem Paired.mapP {α β : Type} {F G : α → β → Prop} : ∀ {l₁ : List α} {l₂ : List β}, Paired F l₁ l₂ → (∀ a b, F a b → G a b) → Paired G l₁ l₂
  | _, _, .nil, _ => .nil
  | _, _, .cons r t, f => .cons (f _ _ r) (Paired.mapP t f)
/-- what an object's description leans on: its own object, its own dict, the tuples -/
theorem ObjOk.stay (x : ObjOk P w H h a o) (k : ∀ b u, (b = a ∨ H b = some (.own a)) → h.get? b = some u → h'.get? b = some u)
    (ho : ∀ b, H b = some (.own a) → H' b = some (.own a)) (ht : ∀ b xs, H b = some (.tup xs) → H' b = some (.tup xs)) : ObjOk P w H' h' a o := by
  induction o with
  | lst xs => obtain ⟨z, its, n, r, e⟩ := x; exact ⟨z, its, n, r, k _ _ (.inl rfl) e⟩
  | tup xs =>
    obtain ⟨z, its, r, ⟨ob, e, c⟩, nd⟩ := x
    exact ⟨z, its, r, ⟨ob, k _ _ (.inl rfl) e, c⟩, fun o2 e2 => by
      rw [k _ _ (.inl rfl) e] at e2
      cases e2
      exact nd _ e⟩
  | dK kvs => obtain ⟨z, y, vs, r, ob, es, ep, e, c⟩ := x; exact ⟨z, y, vs, r, ob, es, ep, k _ _ (.inl rfl) e, c⟩
  | dT kvs =>
    obtain ⟨z, y, xs, r, ob, es, ep, e, c⟩ := x
    exact ⟨z, y, xs, Paired.mapP r fun p q z => ⟨z.1, ht _ _ z.2.1, z.2.2⟩, ob, es, ep, k _ _ (.inl rfl) e, c⟩
  | set S n => obtain ⟨ob, es, ep, t, e, c⟩ := x; exact ⟨ob, es, ep, t, k _ _ (.inl rfl) e, c⟩
  | ins C dx fs =>
    obtain ⟨d, z, ne, e, mA, ⟨od, es, ep, e2, c⟩, r⟩ := x
    exact ⟨ho _ d, z, ne, k _ _ (.inl rfl) e, mA, ⟨od, es, ep, k _ _ (.inr d) e2, c⟩, r⟩
  | own y => obtain ⟨ob, e⟩ := x; exact ⟨ob, k _ _ (.inl rfl) e⟩
  | xd fs => obtain ⟨mA, ⟨od, es, ep, e, c⟩, r⟩ := x; exact ⟨mA, ⟨od, es, ep, k _ _ (.inl rfl) e, c⟩, r⟩
  | rng lo hi => obtain ⟨t, u, v, e⟩ := x; exact ⟨t, u, v, k _ _ (.inl rfl) e⟩
  | frz ob u ih => obtain ⟨e, q⟩ := x; exact ⟨k _ _ (.inl rfl) e, ih q⟩
  | tbl ps =>
    have e : h.get? a = some { cls := .none, data := .fields ps } := x
    show h'.get? a = some { cls := .none, data := .fields ps }
    exact k a _ (.inl rfl) e
  | met f y =>
    have e : h.get? a = some (PySem.W.methodObj (.ref f) (.ref y)) := x
    show h'.get? a = some (PySem.W.methodObj (.ref f) (.ref y))
    exact k a _ (.inl rfl) e
  | ext φ => obtain ⟨p, ⟨o, e⟩, st⟩ := x; exact ⟨st _ _ p fun o q => k _ _ (.inl rfl) q, ⟨o, k _ _ (.inl rfl) e⟩, st⟩
theorem HOk.lt (x : HOk P w H h) (e : H a = some o) : a < h.objs.size := (x a o e).lt
theorem HOk.fresh (x : HOk P w H h) (e : h.objs.size ≤ a) : H a = none := by
  cases q : H a with
  | none => rfl
  | some u => exact absurd (Nat.lt_of_lt_of_le (x.lt q) e) (Nat.lt_irrefl _)
/-- every object of the heap is kept -/
theorem HOk.kept (x : HOk P w H h) (k : ∀ b u, h.get? b = some u → h'.get? b = some u) : HOk P w H h' := fun a o e =>
  (x a o e).stay (fun b u _ q => k b u q) (fun _ q => q) fun _ _ q => q
/-- a new object is laid and tracked -/
theorem HOk.laid (x : HOk P w H h) (k : ∀ b u, h.get? b = some u → h'.get? b = some u) (hp : h.objs.size ≤ a) (new : ObjOk P w (upd H a o) h' a o) : HOk P w (upd H a o) h' := fun b u e => by
  have hn := x.fresh hp
  by_cases hb : b = a
  · subst hb; rw [upd_same] at e; cases e; exact new
  · rw [upd_ne hb] at e
    exact (x b u e).stay (fun c v _ q => k c v q) (fun c q => by rw [upd_ne (ne_of_none q hn)]; exact q) fun c xs q => by rw [upd_ne (ne_of_none q hn)]; exact q
end

/-- what may be read as u: it is u, or a known u -/
def Rd (H : Hp) (a : Addr) (u : HO) : Prop := H a = some u ∨ ∃ o, H a = some (.frz o u)
theorem Rd.of {H : Hp} {a : Addr} {u : HO} (h : H a = some u) : Rd H a u := .inl h
theorem Rd.ok {P : Program} {w : World} {H : Hp} {h : Heap} {a : Addr} {u : HO} (r : Rd H a u) (x : HOk P w H h) : ObjOk P w H h a u := by
  rcases r with r | ⟨o, r⟩
  · exact x a u r
  · obtain ⟨_, q⟩ := x a _ r
    exact q
/-- what may be written -/
def Mut : Option HO → Prop
  | some (.lst _) => True
  | some (.dK _) => True
  | some (.dT _) => True
  | some (.set _ _) => True
  | some (.ins _ _ _) => True
  | some (.ext _) => True
  | _ => False
section
variable {P : Program} {w : World} {H : Hp} {h h' : Heap} {x e : Addr} {o' : HO}
/-- the object at e is changed: x itself, or the dict of the instance x -/
theorem HOk.write (ok : HOk P w H h) (mu : Mut (H x)) (he : e = x ∨ H e = some (.own x)) (k : ∀ b u, b ≠ e → h.get? b = some u → h'.get? b = some u) (heo : ∃ u, h'.get? e = some u)
    (new : ObjOk P w (upd H x o') h' x o') : HOk P w (upd H x o') h' := fun b u q => by
  have nown : ∀ c y, H c = some (.own y) → c ≠ x := fun c y r z => by subst z; rw [r] at mu; exact mu
  have ntup : ∀ c xs, H c = some (.tup xs) → c ≠ x := fun c xs r z => by subst z; rw [r] at mu; exact mu
  by_cases hb : b = x
  · subst hb; rw [upd_same] at q; cases q; exact new
  · rw [upd_ne hb] at q
    by_cases hbe : b = e
    · have q' : H b = some (.own x) := by
        rcases he with z | z
        · exact absurd (hbe.trans z) hb
        · rw [hbe]; exact z
      rw [q] at q'; cases q'
      obtain ⟨v, hv⟩ := heo
      exact ⟨v, by rw [hbe]; exact hv⟩
    · refine (ok b u q).stay (fun c v hc r => k c v ?_ r) (fun c r => by rw [upd_ne (nown c b r)]; exact r) fun c xs r => by rw [upd_ne (ntup c xs r)]; exact r
      rcases hc with rfl | hc
      · exact hbe
      · rintro rfl
        rcases he with z | z
        · exact nown c b hc z
        · rw [hc] at z; cases z; exact hb rfl
end

/-! ### kept unless tracked; of the frames at fs (the callers') the slots may change (an exception that passes writes there); of the records at ex (iterators) nothing is said -/
structure Un (fs ex : List Addr) (H H' : Hp) (h h' : Heap) : Prop where
  keep : ∀ b o, h.get? b = some o → H b = none → b ∉ fs → b ∉ ex → h'.get? b = some o
  slot : ∀ b o, h.get? b = some o → H b = none → b ∈ fs → b ∉ ex → ∃ sl, h'.get? b = some { o with slots := sl }
  free : ∀ b o, h.get? b = some o → H b = none → b ∉ ex → H' b = none
  there : ∀ b o, h.get? b = some o → b ∉ ex → ∃ o', h'.get? b = some o'
  tups : ∀ b xs, H b = some (.tup xs) → H' b = some (.tup xs)
  frzs : ∀ b o u, H b = some (.frz o u) → H' b = some (.frz o u)
  tbls : ∀ b ps, H b = some (.tbl ps) → ∃ more, H' b = some (.tbl (ps ++ more))
section
variable {fs fs' ex ex' : List Addr} {H H1 H2 : Hp} {h h1 h2 h' : Heap} {a x e : Addr} {o : HO}
theorem Un.any (u : Un fs ex H H1 h h1) {b : Addr} {ob : Obj} (q : h.get? b = some ob) (n : H b = none) (hx : b ∉ ex) : ∃ sl, h1.get? b = some { ob with slots := sl } := by
  by_cases hb : b ∈ fs
  · exact u.slot b ob q n hb hx
  · exact ⟨ob.slots, u.keep b ob q n hb hx⟩
theorem Un.trans (a : Un fs ex H H1 h h1) (b : Un fs ex H1 H2 h1 h2) : Un fs ex H H2 h h2 where
  keep := fun c ob q n hc hx => b.keep c ob (a.keep c ob q n hc hx) (a.free c ob q n hx) hc hx
  slot := fun c ob q n hc hx => by
    obtain ⟨sl, e1⟩ := a.slot c ob q n hc hx
    obtain ⟨sl', e2⟩ := b.slot c _ e1 (a.free c ob q n hx) hc hx
    exact ⟨sl', e2⟩
  free := fun c ob q n hx => by
    obtain ⟨o', e1⟩ := a.there c ob q hx
    exact b.free c o' e1 (a.free c ob q n hx) hx
  there := fun c ob q hx => by
    obtain ⟨o', e1⟩ := a.there c ob q hx
    exact b.there c o' e1 hx
  tups := fun c xs q => b.tups c xs (a.tups c xs q)
  frzs := fun c ob xs q => b.frzs c ob xs (a.frzs c ob xs q)
  tbls := fun c ps q => by
    obtain ⟨m1, e1⟩ := a.tbls c ps q
    obtain ⟨m2, e2⟩ := b.tbls c _ e1
    exact ⟨m1 ++ m2, by rw [e2, Array.append_assoc]⟩
theorem Un.kept (k : ∀ b u, h.get? b = some u → h'.get? b = some u) : Un fs ex H H h h' :=
  ⟨fun b ob q _ _ _ => k b ob q, fun b ob q _ _ _ => ⟨ob.slots, k b ob q⟩, fun _ _ _ n _ => n, fun b ob q _ => ⟨ob, k b ob q⟩, fun _ _ q => q, fun _ _ _ q => q, fun _ ps q => ⟨#[], by rw [q]; simp⟩⟩
theorem Un.refl : Un fs ex H H h h := Un.kept fun _ _ q => q
theorem Un.laid (k : ∀ b u, h.get? b = some u → h'.get? b = some u) (hp : h.objs.size ≤ a) (hn : H a = none) : Un fs ex H (upd H a o) h h' where
  keep := fun b u q _ _ _ => k b u q
  slot := fun b u q _ _ _ => ⟨u.slots, k b u q⟩
  free := fun b u q n _ => by rw [upd_ne (Nat.ne_of_lt (Nat.lt_of_lt_of_le (Heap.lt_size q) hp))]; exact n
  there := fun b u q _ => ⟨u, k b u q⟩
  tups := fun b xs q => by rw [upd_ne (ne_of_none q hn)]; exact q
  frzs := fun b u xs q => by rw [upd_ne (ne_of_none q hn)]; exact q
  tbls := fun b ps q => ⟨#[], by rw [upd_ne (ne_of_none q hn), q]; simp⟩
theorem Un.write (mu : Mut (H x)) (he : e = x ∨ H e = some (.own x)) (k : ∀ b u, b ≠ e → h.get? b = some u → h'.get? b = some u) (heo : ∃ u, h'.get? e = some u) : Un fs ex H (upd H x o) h h' := by
  have hx : ∀ b, H b = none → b ≠ x := fun b n z => by subst z; rw [n] at mu; exact mu
  have hb : ∀ b, H b = none → b ≠ e := fun b n z => by
    subst z
    rcases he with r | r
    · exact hx b n r
    · rw [n] at r; cases r
  have hm : ∀ b u, H b = some u → ¬ Mut (some u) → b ≠ x := fun b u q nm z => by subst z; rw [q] at mu; exact nm mu
  refine ⟨fun b u q n _ _ => k b u (hb b n) q, fun b u q n _ _ => ⟨u.slots, k b u (hb b n) q⟩, fun b u q n _ => by rw [upd_ne (hx b n)]; exact n, fun b u q _ => ?_,
    fun b xs q => by rw [upd_ne (hm b _ q fun z => z)]; exact q, fun b u xs q => by rw [upd_ne (hm b _ q fun z => z)]; exact q, fun b ps q => ⟨#[], by rw [upd_ne (hm b _ q fun z => z), q]; simp⟩⟩
  by_cases hbe : b = e
  · subst hbe; exact heo
  · exact ⟨u, k b u hbe q⟩
theorem Un.mono (u : Un fs ex H H1 h h1) (hs : ∀ b ∈ fs, b ∈ fs') (hx : ∀ b ∈ ex, b ∈ ex') : Un fs' ex' H H1 h h1 :=
  ⟨fun b ob q n hb he => u.keep b ob q n (fun z => hb (hs b z)) fun z => he (hx b z), fun _ _ q n _ he => u.any q n fun z => he (hx _ z), fun b ob q n he => u.free b ob q n fun z => he (hx b z), fun b ob q he => u.there b ob q fun z => he (hx b z), u.tups, u.frzs, u.tbls⟩
end

/-! ### the heap without what is tracked -/
def trk (h : Heap) (H : Hp) : List Addr := (List.range h.objs.size).filter fun a => (H a).isSome
def hidT (h : Heap) (H : Hp) : Heap := PySem.W.hideAll h (trk h H)
theorem hidT_size (h : Heap) (H : Hp) : (hidT h H).objs.size = h.objs.size := PySem.W.hideAll_size _ _
theorem hidT_get {h : Heap} {H : Hp} {b : Addr} {o : Obj} (e : h.get? b = some o) (n : H b = none) : (hidT h H).get? b = some o :=
  PySem.W.hideAll_get _ e fun hm => by
    have q : (H b).isSome = true := (List.mem_filter.mp hm).2
    rw [n] at q; simp at q
theorem of_hidT {h : Heap} {H : Hp} {b : Addr} {o : Obj} (e : (hidT h H).get? b = some o) : h.get? b = some o ∧ H b = none := by
  have e' : h.get? b = some o := PySem.W.of_hideAll (trk h H) e
  refine ⟨e', ?_⟩
  cases q : H b with
  | none => rfl
  | some x =>
    have hm : b ∈ trk h H := List.mem_filter.mpr ⟨List.mem_range.mpr (Heap.lt_size e'), by simp [q]⟩
    have z : (hidT h H).get? b = none := PySem.W.hideAll_none (trk h H) hm
    rw [z] at e; cases e

/-! ### OpenK's ledger, filled with every new object but one -/
def allNews (g h : Heap) (L : Addr) : List (Addr × Obj) := (List.range h.objs.size).filterMap fun a => if a = L ∨ (g.get? a).isSome = true then none else (h.get? a).map fun o => (a, o)
def rest (g h : Heap) (L d : Addr) : List (Addr × Obj) := (allNews g h L).filter fun p => decide (p.1 ≠ d)
end L2

namespace L2
open PySem PySem.Spec PyProof.Rows

/-- the module's facts, over the base: the heap at the law's entry without what is tracked there -/
structure Mod (K : PySem.W.Frag) (mg : Str → Option Value) (base : Heap) : Prop where
  kin : K.In base
  glob : base.Ns mainGlobals mg
  blt : ∃ mb, base.Ns builtinsNs mb ∧ ∀ x : Str, x ≠ "__name__" → mb x = bootBuiltins x
  nolimit : base.NoLimit

/-- the context: a def's body (or a comprehension's block) running. base: fixed through the whole law; s₀, H₀: the entry; outer: the frames whose slots others may change (a def's callers); stack: all frames that run;
   ex: iterators that were made ahead of the entry and are walked here (a comprehension's); fn: the names whose cells were made at the entry (a def: all; a comprehension's block: its own); calm: not within an except suite; pn: pins that every state bears; xe: what is wanted of an exception that leaves the code -/
structure Cx where
  prog : Program
  w : World
  K : PySem.W.Frag
  mg : Str → Option Value
  base : Heap
  A : Around
  N : List Str
  s₀ : Shared
  H₀ : Hp
  env : Env
  outer : List Env
  stack : List Env
  ex : List Addr
  fn : Str → Bool
  calm : Bool
  pn : List (Addr × Obj)
  xe : Value → Shared → Prop
/-- the callers' frames -/
def frs (l : List Env) : List Addr := l.filterMap (·.frame)
abbrev Cx.fs (X : Cx) : List Addr := frs X.outer

def Vis (sc : Scope) (x : Str) : Prop := sc.names.lookup x = some .local ∨ sc.names.lookup x = some .cell ∨ sc.names.lookup x = some .free
def Loc (sc : Scope) (x : Str) : Prop := sc.names.lookup x = some .local ∨ sc.names.lookup x = some .cell
def Look (env : Env) (h : Heap) (m : Str → Option Value) (x : Str) (u : Value) : Prop :=
  (env.kindOf x = some .local ∧ m x = some u) ∨ ((env.kindOf x = some .cell ∨ env.kindOf x = some .free) ∧ ∃ c, env.cells.lookup x = some c ∧ h.IsCell c (some u))

structure Cx.Ok (X : Cx) : Prop where
  mod : Mod X.K X.mg X.base
  kind : X.env.scope.kind = .function
  glob : X.env.globals = mainGlobals
  blt : X.env.builtins = builtinsNs
  above : X.s₀.heap.objs.size ≤ X.env.locals
  inj : ∀ x y c, X.env.cells.lookup x = some c → X.env.cells.lookup y = some c → x = y
  has : ∀ x, (X.env.kindOf x = some .cell ∨ X.env.kindOf x = some .free) → ∃ c, X.env.cells.lookup x = some c
  cab : ∀ x c, X.fn x = true → X.env.cells.lookup x = some c → X.s₀.heap.objs.size ≤ c
  hd : X.calm = true → X.A.handled = none
  frames : X.A.frames = some X.stack
  stk : X.stack = X.outer ∨ (X.stack = X.env :: X.outer ∧ X.env.frame = some X.env.locals)
  exf : ∀ b ∈ X.ex, b ≠ X.env.locals ∧ ∀ x c, X.env.cells.lookup x = some c → c ≠ b
  bs : ∀ b o, X.base.get? b = some o → X.s₀.heap.get? b = some o ∧ X.H₀ b = none
  bsz : X.base.objs.size ≤ X.s₀.heap.objs.size
  noex : ∀ b o, X.base.get? b = some o → b ∉ X.ex
  exfs : ∀ b ∈ X.ex, b ∉ X.fs
  funs : X.s₀.heap.FunFrames X.base X.outer
  frf : ∀ b ∈ X.fs, X.H₀ b = none

structure Inv (X : Cx) (pins : List (Addr × Obj)) (σ : List (Option V)) (H : Hp) (s : Shared) : Prop where
  ok : X.Ok
  os : s.os = X.s₀.os
  bare : AllBare s.gens
  base : Un X.fs X.ex X.H₀ H X.s₀.heap s.heap
  loc : ∃ m, s.heap.Ns X.env.locals m ∧ ∀ (i : Nat) (x : Str) (v : V), X.N[i]? = some x → σ[i]? = some (some v) → Vis X.env.scope x → ∃ u, RelV v u ∧ Look X.env s.heap m x u
  cell : ∀ x c, X.env.cells.lookup x = some c → ∃ v, s.heap.IsCell c v
  free : H X.env.locals = none
  freeC : ∀ x c, X.env.cells.lookup x = some c → H c = none
  pin : ∀ p ∈ X.pn ++ pins, s.heap.get? p.1 = some p.2 ∧ H p.1 = none ∧ p.1 ≠ X.env.locals ∧ p.1 ∉ X.fs ∧ ∀ v, p.2.data ≠ .cell v
  hok : HOk X.prog X.w H s.heap
  len : σ.length = X.N.length

section
variable {X : Cx} {pins : List (Addr × Obj)} {σ : List (Option V)} {H H' : Hp} {s : Shared} {h' : Heap}

theorem Cx.Ok.nofr (ok : X.Ok) {b : Addr} {o : Obj} (e : X.base.get? b = some o) : b ∉ X.fs := fun hb => by
  have := (ok.funs.mem hb).1
  rw [e] at this; cases this
theorem Inv.bs (I : Inv X pins σ H s) : ∀ b o, X.base.get? b = some o → s.heap.get? b = some o ∧ H b = none := fun b o e =>
  ⟨I.base.keep b o (I.ok.bs b o e).1 (I.ok.bs b o e).2 (I.ok.nofr e) (I.ok.noex b o e), I.base.free b o (I.ok.bs b o e).1 (I.ok.bs b o e).2 (I.ok.noex b o e)⟩
theorem Inv.bk (I : Inv X pins σ H s) : ∀ b o, X.base.get? b = some o → s.heap.get? b = some o := fun b o e => (I.bs b o e).1
theorem Inv.mod (I : Inv X pins σ H s) : Mod X.K X.mg X.base := I.ok.mod
theorem Inv.kIn (I : Inv X pins σ H s) : X.K.In s.heap := I.ok.mod.kin.keeps I.bk
theorem Inv.nolimit (I : Inv X pins σ H s) : s.heap.NoLimit := I.ok.mod.nolimit.keeps I.bk
theorem Inv.lt (I : Inv X pins σ H s) : X.env.locals < s.heap.objs.size := let ⟨_, hn, _⟩ := I.loc; hn.lt
theorem Inv.sz (I : Inv X pins σ H s) : X.s₀.heap.objs.size ≤ s.heap.objs.size := Nat.le_trans I.ok.above (Nat.le_of_lt I.lt)
theorem Inv.nofs (I : Inv X pins σ H s) {a : Addr} (h : s.heap.objs.size ≤ a) : a ∉ X.fs := fun hb => by
  obtain ⟨_, o, ho, _⟩ := I.ok.funs.mem hb
  exact absurd (Nat.lt_of_lt_of_le (Heap.lt_size ho) (Nat.le_trans I.sz h)) (Nat.lt_irrefl _)
theorem Inv.cne (I : Inv X pins σ H s) : ∀ x c, X.env.cells.lookup x = some c → c ≠ X.env.locals := fun x c e z => by
  obtain ⟨v, o, ho, hd⟩ := I.cell x c e
  obtain ⟨m, ⟨o', es, ep, ho', hd', _⟩, _⟩ := I.loc
  rw [z, ho'] at ho; cases ho; rw [hd'] at hd; cases hd
theorem Inv.funs (I : Inv X pins σ H s) : s.heap.FunFrames X.base X.outer := by
  have all : ∀ (l : List Env), (∀ b ∈ frs l, b ∈ X.fs) → X.s₀.heap.FunFrames X.base l → s.heap.FunFrames X.base l := by
    intro l
    induction l with
    | nil => intro _ _; trivial
    | cons env r ih =>
      intro hs hl
      obtain ⟨hk, ⟨L, o, hf, hn, ho, hd⟩, hr⟩ := hl
      have hL : L ∈ X.fs := hs L (by unfold frs; rw [List.filterMap_cons, hf]; exact List.mem_cons_self)
      obtain ⟨sl, e⟩ := I.base.slot L o ho (I.ok.frf L hL) hL fun z => I.ok.exfs L z hL
      exact ⟨hk, ⟨L, _, hf, hn, e, hd⟩, ih (fun b hb => hs b (by unfold frs; rw [List.filterMap_cons, hf]; exact List.mem_cons_of_mem _ hb)) hr⟩
  exact all X.outer (fun _ hb => hb) I.ok.funs

/-- the frames that run, for a call -/
theorem Inv.stack (I : Inv X pins σ H s) : s.heap.FunFrames X.base X.stack := by
  rcases I.ok.stk with e | ⟨e, hf⟩
  · rw [e]; exact I.funs
  · rw [e]
    obtain ⟨m, hn, _⟩ := I.loc
    refine .cons (by rw [I.ok.kind]; decide) hf hn ?_ I.funs
    exact Heap.get?_none_of_le (Nat.le_trans I.ok.bsz I.ok.above)
theorem Inv.stkSub (I : Inv X pins σ H s) : ∀ b ∈ frs X.stack, b ∈ X.env.locals :: X.fs := fun b hb => by
  rcases I.ok.stk with e | ⟨e, hf⟩
  · rw [e] at hb; exact List.mem_cons_of_mem _ hb
  · rw [e] at hb
    unfold frs at hb
    rw [List.filterMap_cons, hf] at hb
    exact hb
theorem Inv.stkFree (I : Inv X pins σ H s) : ∀ b ∈ frs X.stack, H b = none := fun b hb => by
  rcases List.mem_cons.mp (I.stkSub b hb) with e | hb
  · rw [e]; exact I.free
  · obtain ⟨_, o, ho, _⟩ := I.ok.funs.mem hb
    exact I.base.free b o ho (I.ok.frf b hb) fun z => I.ok.exfs b z hb

/-- THE STEP: the untracked objects but the frame and the records at ch are kept (the callers' frames up to slots), the frame's map is kept, the new abstract heap is held -/
theorem Inv.step {g' : Array GenState} {t' : Nat} {d' : Drawn} {ch : List Addr} (I : Inv X pins σ H s)
    (hch : ∀ b ∈ ch, (b ∈ X.ex ∨ X.s₀.heap.objs.size ≤ b) ∧ b ≠ X.env.locals ∧ (∀ x c, X.env.cells.lookup x = some c → c ≠ b) ∧ ∀ p ∈ X.pn ++ pins, p.1 ≠ b)
    (keep : ∀ b o, b ≠ X.env.locals → b ∉ X.fs → b ∉ ch → s.heap.get? b = some o → H b = none → h'.get? b = some o)
    (slot : ∀ b o, b ≠ X.env.locals → b ∈ X.fs → b ∉ ch → s.heap.get? b = some o → H b = none → ∃ sl, h'.get? b = some { o with slots := sl }) (free : ∀ b o, b ∉ ch → s.heap.get? b = some o → H b = none → H' b = none)
    (there : ∀ b o, b ∉ ch → s.heap.get? b = some o → ∃ o', h'.get? b = some o')
    (tups : ∀ b xs, H b = some (.tup xs) → H' b = some (.tup xs)) (frzs : ∀ b o u, H b = some (.frz o u) → H' b = some (.frz o u)) (tbls : ∀ b ps, H b = some (.tbl ps) → ∃ more, H' b = some (.tbl (ps ++ more)))
    (ns : ∀ m, s.heap.Ns X.env.locals m → h'.Ns X.env.locals m) (hok : HOk X.prog X.w H' h') (hg : AllBare g') :
    Inv X pins σ H' { s with heap := h', gens := g', drawn := d', toks := t' } := by
  have neL : ∀ b o, X.s₀.heap.get? b = some o → b ≠ X.env.locals := fun b o e => Nat.ne_of_lt (Nat.lt_of_lt_of_le (Heap.lt_size e) I.ok.above)
  have neC : ∀ b o, X.s₀.heap.get? b = some o → b ∉ X.ex → b ∉ ch := fun b o e hx hb => by
    rcases (hch b hb).1 with z | z
    · exact hx z
    · exact absurd (Nat.lt_of_lt_of_le (Heap.lt_size e) z) (Nat.lt_irrefl _)
  have cellK : ∀ x c, X.env.cells.lookup x = some c → ∀ v, s.heap.IsCell c v → h'.IsCell c v := fun x c e v ⟨o, ho, hd⟩ => by
    have nch : c ∉ ch := fun z => (hch c z).2.2.1 x c e rfl
    by_cases hc : c ∈ X.fs
    · obtain ⟨sl, q⟩ := slot c o (I.cne x c e) hc nch ho (I.freeC x c e)
      exact ⟨_, q, hd⟩
    · exact ⟨o, keep c o (I.cne x c e) hc nch ho (I.freeC x c e), hd⟩
  refine ⟨I.ok, I.os, hg, ⟨fun b o e n hb hx => ?_, fun b o e n hb hx => ?_, fun b o e n hx => ?_, fun b o e hx => ?_, fun b xs e => tups b xs (I.base.tups b xs e), fun b o xs e => frzs b o xs (I.base.frzs b o xs e), fun b ps e => ?_⟩, ?_, fun x c e => ?_, ?_, fun x c e => ?_, fun p hp => ?_, hok, I.len⟩
  · exact keep b o (neL b o e) hb (neC b o e hx) (I.base.keep b o e n hb hx) (I.base.free b o e n hx)
  · obtain ⟨sl, e1⟩ := I.base.slot b o e n hb hx
    obtain ⟨sl', e2⟩ := slot b _ (neL b o e) hb (neC b o e hx) e1 (I.base.free b o e n hx)
    exact ⟨sl', e2⟩
  · obtain ⟨o', e1⟩ := I.base.there b o e hx
    exact free b o' (neC b o e hx) e1 (I.base.free b o e n hx)
  · obtain ⟨o', e1⟩ := I.base.there b o e hx
    exact there b o' (neC b o e hx) e1
  · obtain ⟨m1, e1⟩ := I.base.tbls b ps e
    obtain ⟨m2, e2⟩ := tbls b _ e1
    exact ⟨m1 ++ m2, by rw [e2, Array.append_assoc]⟩
  · obtain ⟨m, hn, hl⟩ := I.loc
    refine ⟨m, ns m hn, fun i x v e1 e2 e3 => ?_⟩
    obtain ⟨u, r, l⟩ := hl i x v e1 e2 e3
    refine ⟨u, r, ?_⟩
    rcases l with l | ⟨k, c, e, z⟩
    · exact .inl l
    · exact .inr ⟨k, c, e, cellK x c e _ z⟩
  · obtain ⟨v, z⟩ := I.cell x c e
    exact ⟨v, cellK x c e v z⟩
  · obtain ⟨m, ⟨o, _, _, ho, _⟩, _⟩ := I.loc
    exact free _ o (fun z => (hch _ z).2.1 rfl) ho I.free
  · obtain ⟨v, o, ho, hd⟩ := I.cell x c e
    exact free c o (fun z => (hch c z).2.2.1 x c e rfl) ho (I.freeC x c e)
  · obtain ⟨e, n, ne, nf, d⟩ := I.pin p hp
    have nch : p.1 ∉ ch := fun z => (hch p.1 z).2.2.2 p hp rfl
    exact ⟨keep p.1 p.2 ne nf nch e n, free p.1 p.2 nch e n, ne, nf, d⟩
/-- .. where the frame's own object is kept too -/
theorem Inv.un {t' : Nat} (I : Inv X pins σ H s) (u : Un X.fs [] H H' s.heap h') (hok : HOk X.prog X.w H' h') : Inv X pins σ H' { s with heap := h', toks := t' } := by
  obtain ⟨m, ⟨o, es, ep, ho, r⟩, _⟩ := id I.loc
  obtain ⟨sl, hL⟩ := u.any ho I.free (by simp)
  exact I.step (g' := s.gens) (d' := s.drawn) (ch := []) (fun _ z => nomatch z) (fun b o _ hb _ e n => u.keep b o e n hb (by simp)) (fun b o _ hb _ e n => u.slot b o e n hb (by simp)) (fun b o _ e n => u.free b o e n (by simp)) (fun b o _ e => u.there b o e (by simp)) u.tups u.frzs u.tbls (fun m' hm => by
    obtain ⟨o', es', ep', ho', r'⟩ := hm
    rw [ho] at ho'; cases ho'
    exact ⟨_, es', ep', hL, r'⟩) hok I.bare
/-- behind a call (or a comprehension's block): the slots of this frame may have changed too, the records at ch may have turned -/
theorem Inv.call {g' : Array GenState} {t' : Nat} {d' : Drawn} {ch : List Addr} (I : Inv X pins σ H s) (u : Un (frs X.stack) ch H H' s.heap h') (hok : HOk X.prog X.w H' h') (hg : AllBare g')
    (hch : ∀ b ∈ ch, (b ∈ X.ex ∨ X.s₀.heap.objs.size ≤ b) ∧ b ≠ X.env.locals ∧ (∀ x c, X.env.cells.lookup x = some c → c ≠ b) ∧ ∀ p ∈ X.pn ++ pins, p.1 ≠ b) :
    Inv X pins σ H' { s with heap := h', gens := g', drawn := d', toks := t' } := by
  obtain ⟨m, ⟨o, es, ep, ho, r⟩, _⟩ := id I.loc
  obtain ⟨sl, hL⟩ := u.any ho I.free fun z => (hch _ z).2.1 rfl
  exact I.step (ch := ch) hch (fun b o hL hb hc e n => u.keep b o e n (fun z => (List.mem_cons.mp (I.stkSub b z)).elim hL hb) hc) (fun b o _ _ hc e n => u.any e n hc) (fun b o hc e n => u.free b o e n hc) (fun b o hc e => u.there b o e hc) u.tups u.frzs u.tbls (fun m' hm => by
    obtain ⟨o', es', ep', ho', r'⟩ := hm
    rw [ho] at ho'; cases ho'
    exact ⟨_, es', ep', hL, r'⟩) hok hg
/-- an untracked record of ours (an iterator) has turned -/
theorem Inv.turned {t' : Nat} {it : Addr} (I : Inv X pins σ H s) (k : ∀ b o, b ≠ it → s.heap.get? b = some o → h'.get? b = some o) (hn : H it = none) (hL : it ≠ X.env.locals)
    (h1 : it ∈ X.ex ∨ X.s₀.heap.objs.size ≤ it) (h2 : ∀ x c, X.env.cells.lookup x = some c → c ≠ it) (h3 : ∀ p ∈ X.pn ++ pins, p.1 ≠ it) : Inv X pins σ H { s with heap := h', toks := t' } := by
  have nit : ∀ b u, H b = some u → b ≠ it := fun b u e z => by rw [z, hn] at e; cases e
  refine I.step (g' := s.gens) (d' := s.drawn) (ch := [it]) (fun b hb => ?_) (fun b o _ _ hc e _ => k b o (fun z => hc (by simp [z])) e) (fun b o _ _ hc e _ => ⟨o.slots, k b o (fun z => hc (by simp [z])) e⟩) (fun _ _ _ _ n => n)
    (fun b o hc e => ⟨o, k b o (fun z => hc (by simp [z])) e⟩) (fun _ _ e => e) (fun _ _ _ e => e) (fun b ps e => ⟨#[], by rw [e]; simp⟩) (fun m hm => ?_) (fun b u e => ?_) I.bare
  · have e : b = it := by simpa using hb
    subst e
    exact ⟨h1, hL, h2, h3⟩
  · obtain ⟨o, es, ep, ho, r⟩ := hm
    exact ⟨o, es, ep, k _ o (Ne.symm hL) ho, r⟩
  · refine (I.hok b u e).stay (fun c v hc q => k c v ?_ q) (fun _ q => q) fun _ _ q => q
    rcases hc with z | z
    · rw [z]; exact nit b u e
    · exact nit c _ z
theorem Inv.tok (I : Inv X pins σ H s) (t : Nat) : Inv X pins σ H { s with toks := t } := I.un (h' := s.heap) (t' := t) Un.refl I.hok
/-- all objects kept -/
theorem Inv.kept {t' : Nat} (I : Inv X pins σ H s) (k : ∀ b u, s.heap.get? b = some u → h'.get? b = some u) : Inv X pins σ H { s with heap := h', toks := t' } := I.un (Un.kept k) (I.hok.kept k)
/-- a new object laid and tracked -/
theorem Inv.laid {a : Addr} {o : HO} {t' : Nat} (I : Inv X pins σ H s) (k : ∀ b u, s.heap.get? b = some u → h'.get? b = some u) (hp : s.heap.objs.size ≤ a) (new : ObjOk X.prog X.w (upd H a o) h' a o) :
    Inv X pins σ (upd H a o) { s with heap := h', toks := t' } := I.un (Un.laid k hp (I.hok.fresh hp)) (I.hok.laid k hp new)
/-- an object written -/
theorem Inv.write {x e : Addr} {o : HO} {t' : Nat} (I : Inv X pins σ H s) (mu : Mut (H x)) (he : e = x ∨ H e = some (.own x)) (k : ∀ b u, b ≠ e → s.heap.get? b = some u → h'.get? b = some u) (heo : ∃ u, h'.get? e = some u)
    (new : ObjOk X.prog X.w (upd H x o) h' x o) : Inv X pins σ (upd H x o) { s with heap := h', toks := t' } := I.un (Un.write mu he k heo) (I.hok.write mu he k heo new)
theorem Inv.pins_of {pins' : List (Addr × Obj)} (I : Inv X pins σ H s) (h : ∀ p ∈ pins', s.heap.get? p.1 = some p.2 ∧ H p.1 = none ∧ p.1 ≠ X.env.locals ∧ p.1 ∉ X.fs ∧ ∀ v, p.2.data ≠ .cell v) : Inv X pins' σ H s :=
  ⟨I.ok, I.os, I.bare, I.base, I.loc, I.cell, I.free, I.freeC, fun p hp => (List.mem_append.mp hp).elim (fun z => I.pin p (List.mem_append_left _ z)) (h p), I.hok, I.len⟩

theorem nodup_ix {N : List Str} (hN : N.Nodup) {i j : Nat} {x : Str} (a : N[i]? = some x) (b : N[j]? = some x) : i = j := by
  obtain ⟨h1, e1⟩ := List.getElem?_eq_some_iff.mp a
  obtain ⟨h2, e2⟩ := List.getElem?_eq_some_iff.mp b
  exact (List.getElem_inj hN).mp (e1.trans e2.symm)

/-- a name is stored; what changed -/
theorem store_ok2 {M : Model} {A : Around} {E : Value → Shared → Prop} {i : Nat} {x : Str} {v : V} {u : Value} {Q : Unit → Shared → Prop} (I : Inv X pins σ H s) (hN : X.N.Nodup) (hi : X.N[i]? = some x) (hx : Loc X.env.scope x) (r : RelV v u)
    (h : ∀ s', Inv X pins (σ.set i (some v)) H s' → (∃ a, Heap.SameBut a s.heap s'.heap ∧ (a = X.env.locals ∨ X.env.cells.lookup x = some a)) → Q () s') (hf : X.fn x = true ∨ X.env.scope.names.lookup x = some .local := by first | exact .inl rfl | exact .inr rfl | assumption) : wpAny M A (storeName X.env x u) Q E s := by
  obtain ⟨m, hn, hl⟩ := id I.loc
  have hcls : (X.env.scope.kind == .class || (X.env.scope.kind == .module && X.env.locals != X.env.globals)) = false := by rw [I.ok.kind]; rfl
  have hiσ : i < σ.length := by rw [I.len]; exact (List.getElem?_eq_some_iff.mp hi).1
  have cne := I.cne
  have tracked : ∀ {a : Addr} {h' : Heap}, (∃ o, s.heap.get? a = some o ∧ H a = none) → Heap.SameBut a s.heap h' → HOk X.prog X.w H h' := fun {a h'} ha hs b ob e => by
    obtain ⟨_, _, hfree⟩ := ha
    refine (I.hok b ob e).stay (fun c w' hc q => (hs.2 c ?_).trans q) (fun _ q => q) fun _ _ q => q
    rintro rfl
    rcases hc with rfl | hc
    · rw [hfree] at e; cases e
    · rw [hfree] at hc; cases hc
  rcases hx with hk | hk
  · refine wpAny_storeName_local hk hn (fun h' hn' hs => ?_) hcls
    obtain ⟨oL, _, _, hoL, _⟩ := id hn
    refine h _ ⟨I.ok, I.os, I.bare, ⟨fun b o e n hb hx => ?_, fun b o e n hb hx => ?_, I.base.free, fun b o e hx => ?_, I.base.tups, I.base.frzs, I.base.tbls⟩, ⟨_, hn', fun j y v' e1 e2 e3 => ?_⟩, fun y c e => ?_, I.free, I.freeC, fun p hp => ?_, tracked ⟨oL, hoL, I.free⟩ hs, by simpa using I.len⟩ ⟨_, hs, .inl rfl⟩
    · exact (hs.2 b (Nat.ne_of_lt (Nat.lt_of_lt_of_le (Heap.lt_size e) I.ok.above))).trans (I.base.keep b o e n hb hx)
    · obtain ⟨sl, e1⟩ := I.base.slot b o e n hb hx
      exact ⟨sl, (hs.2 b (Nat.ne_of_lt (Nat.lt_of_lt_of_le (Heap.lt_size e) I.ok.above))).trans e1⟩
    · obtain ⟨o', e1⟩ := I.base.there b o e hx
      exact ⟨o', (hs.2 b (Nat.ne_of_lt (Nat.lt_of_lt_of_le (Heap.lt_size e) I.ok.above))).trans e1⟩
    · by_cases hj : j = i
      · subst hj
        rw [hi] at e1; cases e1
        rw [List.getElem?_set_self hiσ] at e2
        cases e2
        exact ⟨u, r, .inl ⟨hk, by simp⟩⟩
      · rw [List.getElem?_set_ne (Ne.symm hj)] at e2
        obtain ⟨u', r', q⟩ := hl j y v' e1 e2 e3
        refine ⟨u', r', ?_⟩
        rcases q with ⟨k, e⟩ | ⟨k, c, e, z⟩
        · refine .inl ⟨k, ?_⟩
          have : y ≠ x := fun e => hj (nodup_ix hN e1 (e ▸ hi))
          simp [this, e]
        · exact .inr ⟨k, c, e, z.sameBut hs (cne y c e)⟩
    · obtain ⟨w', z⟩ := I.cell y c e
      exact ⟨w', z.sameBut hs (cne y c e)⟩
    · obtain ⟨e, n, ne, nf, d⟩ := I.pin p hp
      exact ⟨(hs.2 p.1 ne).trans e, n, ne, nf, d⟩
  · have hfn : X.fn x = true := by
      rcases hf with z | z
      · exact z
      · rw [z] at hk; cases hk
    obtain ⟨c, hc⟩ := I.ok.has x (.inl hk)
    obtain ⟨w', z⟩ := I.cell x c hc
    refine wpAny_storeName_cell I.ok.kind hk hc z (fun h' hc' hs => ?_)
    obtain ⟨oc, hoc, hocd⟩ := id z
    refine h { s with heap := h' } ⟨I.ok, I.os, I.bare, ⟨fun b o e n hb hx => ?_, fun b o e n hb hx => ?_, I.base.free, fun b o e hx => ?_, I.base.tups, I.base.frzs, I.base.tbls⟩, ⟨m, hn.sameBut hs (Ne.symm (cne x c hc)), fun j y v' e1 e2 e3 => ?_⟩, fun y c' e => ?_, I.free, I.freeC, fun p hp => ?_, tracked ⟨oc, hoc, I.freeC x c hc⟩ hs, by simpa using I.len⟩ ⟨c, hs, .inr hc⟩
    · exact (hs.2 b (Nat.ne_of_lt (Nat.lt_of_lt_of_le (Heap.lt_size e) (I.ok.cab x c hfn hc)))).trans (I.base.keep b o e n hb hx)
    · obtain ⟨sl, e1⟩ := I.base.slot b o e n hb hx
      exact ⟨sl, (hs.2 b (Nat.ne_of_lt (Nat.lt_of_lt_of_le (Heap.lt_size e) (I.ok.cab x c hfn hc)))).trans e1⟩
    · obtain ⟨o', e1⟩ := I.base.there b o e hx
      exact ⟨o', (hs.2 b (Nat.ne_of_lt (Nat.lt_of_lt_of_le (Heap.lt_size e) (I.ok.cab x c hfn hc)))).trans e1⟩
    · by_cases hj : j = i
      · subst hj
        rw [hi] at e1; cases e1
        rw [List.getElem?_set_self hiσ] at e2
        cases e2
        exact ⟨u, r, .inr ⟨.inl hk, c, hc, hc'⟩⟩
      · rw [List.getElem?_set_ne (Ne.symm hj)] at e2
        obtain ⟨u', r', q⟩ := hl j y v' e1 e2 e3
        refine ⟨u', r', ?_⟩
        rcases q with q | ⟨k, c', e, z'⟩
        · exact .inl q
        · refine .inr ⟨k, c', e, z'.sameBut hs ?_⟩
          rintro rfl
          exact hj (nodup_ix hN e1 (I.ok.inj _ _ _ e hc ▸ hi))
    · by_cases hcc : c' = c
      · subst hcc; exact ⟨_, hc'⟩
      · obtain ⟨w2, z2⟩ := I.cell y c' e
        exact ⟨w2, z2.sameBut hs hcc⟩
    · obtain ⟨e, n, ne, nf, d⟩ := I.pin p hp
      refine ⟨(hs.2 p.1 ?_).trans e, n, ne, nf, d⟩
      intro q
      rw [q, hoc] at e
      have q' : oc = p.2 := Option.some.inj e
      exact d w' (by rw [← q']; exact hocd)
theorem store_ok {M : Model} {A : Around} {E : Value → Shared → Prop} {i : Nat} {x : Str} {v : V} {u : Value} {Q : Unit → Shared → Prop} (I : Inv X pins σ H s) (hN : X.N.Nodup) (hi : X.N[i]? = some x) (hx : Loc X.env.scope x) (r : RelV v u)
    (h : ∀ s', Inv X pins (σ.set i (some v)) H s' → Q () s') (hf : X.fn x = true ∨ X.env.scope.names.lookup x = some .local := by first | exact .inl rfl | exact .inr rfl | assumption) : wpAny M A (storeName X.env x u) Q E s :=
  store_ok2 I hN hi hx r (fun s' I' _ => h s' I') hf
/-- behind a call or a block, the state as it is -/
theorem Inv.call' {s' : Shared} {ch : List Addr} (I : Inv X pins σ H s) (ho : s'.os = s.os) (u : Un (frs X.stack) ch H H' s.heap s'.heap) (hok : HOk X.prog X.w H' s'.heap) (hg : AllBare s'.gens)
    (hch : ∀ b ∈ ch, (b ∈ X.ex ∨ X.s₀.heap.objs.size ≤ b) ∧ b ≠ X.env.locals ∧ (∀ x c, X.env.cells.lookup x = some c → c ≠ b) ∧ ∀ p ∈ X.pn ++ pins, p.1 ≠ b) : Inv X pins σ H' s' := by
  obtain ⟨h', g', d', t', o'⟩ := s'
  have e : o' = s.os := ho
  subst e
  exact I.call (g' := g') (t' := t') (d' := d') u hok hg hch
end

/-! ### the judgements -/
/-- an exception: its class, its own dict's address (where it has one), the abstract heap behind it -/
abbrev XK := Value → Option Addr → Hp → Prop
abbrev St := List (Option V)
abbrev VK := V → Hp → Prop
/-- an expression's reading; a test's; an argument list's -/
abbrev TE := St → Hp → VK → Prop
abbrev TT := St → Hp → (Bool → Hp → Prop) → Prop
abbrev TA := St → Hp → (List V → Hp → Prop) → Prop
/-- what is wanted behind a statement -/
structure Ends where
  nx : St → Hp → Prop
  rt : VK
  bk : St → Hp → Prop := fun _ _ => False
  ct : St → Hp → Prop := fun _ _ => False
abbrev TS := Ends → St → Hp → Prop

def EP (X : Cx) (pins : List (Addr × Obj)) (σ : St) (Q : VK) (u : Value) (s' : Shared) : Prop := ∃ v H', Inv X pins σ H' s' ∧ RelV v u ∧ Q v H'
def TP (X : Cx) (pins : List (Addr × Obj)) (σ : St) (Q : Bool → Hp → Prop) (b : Bool) (s' : Shared) : Prop := ∃ H', Inv X pins σ H' s' ∧ Q b H'
def AP (X : Cx) (pins : List (Addr × Obj)) (σ : St) (Q : List V → Hp → Prop) (us : List Value) (s' : Shared) : Prop := ∃ vs H', Inv X pins σ H' s' ∧ Vals vs us ∧ Q vs H'
def SP (X : Cx) (pins : List (Addr × Obj)) (D : Ends) (f : Flow) (s' : Shared) : Prop :=
  match f with
  | .next => ∃ σ' H', Inv X pins σ' H' s' ∧ D.nx σ' H'
  | .brk => ∃ σ' H', Inv X pins σ' H' s' ∧ D.bk σ' H'
  | .cont => ∃ σ' H', Inv X pins σ' H' s' ∧ D.ct σ' H'
  | .ret u => ∃ v σ' H', Inv X pins σ' H' s' ∧ RelV v u ∧ D.rt v H'

def PE (X : Cx) (e : Expr) (t : TE) : Prop :=
  ∀ (pins : List (Addr × Obj)) (s : Shared) (σ : St) (H : Hp) (Q : VK), Inv X pins σ H s → t σ H Q → wpAny (model X.prog X.w) X.A (eval e X.env) (EP X pins σ Q) X.xe s
def PT (X : Cx) (e : Expr) (t : TT) : Prop :=
  ∀ (pins : List (Addr × Obj)) (s : Shared) (σ : St) (H : Hp) (Q : Bool → Hp → Prop), Inv X pins σ H s → t σ H Q → wpAny (model X.prog X.w) X.A (isTrue e X.env (eval e X.env)) (TP X pins σ Q) X.xe s
/-- a test whatever its 'whole' is (and, or) -/
def PW (X : Cx) (e : Expr) (t : TT) : Prop :=
  ∀ (whole : Sem Value) (pins : List (Addr × Obj)) (s : Shared) (σ : St) (H : Hp) (Q : Bool → Hp → Prop), Inv X pins σ H s → t σ H Q → wpAny (model X.prog X.w) X.A (isTrue e X.env whole) (TP X pins σ Q) X.xe s
theorem PW.pt {X : Cx} {e : Expr} {t : TT} (h : PW X e t) : PT X e t := h _
/-- an argument list (no star), from the left -/
def PA (X : Cx) (es : List Expr) (t : TA) : Prop :=
  ∀ (pos : Pos) (pins : List (Addr × Obj)) (s : Shared) (σ : St) (H : Hp) (Q : List V → Hp → Prop), Inv X pins σ H s → t σ H Q → wpAny (model X.prog X.w) X.A (spliced (backTo pos (starEach es X.env))) (AP X pins σ Q) X.xe s
def PS (X : Cx) (st : Stmt) (t : TS) : Prop :=
  ∀ (pins : List (Addr × Obj)) (s : Shared) (σ : St) (H : Hp) (D : Ends), Inv X pins σ H s → t D σ H → wpAny (model X.prog X.w) X.A (exec st X.env) (SP X pins D) X.xe s
def PSs (X : Cx) (st : List Stmt) (t : TS) : Prop :=
  ∀ (pins : List (Addr × Obj)) (s : Shared) (σ : St) (H : Hp) (D : Ends), Inv X pins σ H s → t D σ H → wpAny (model X.prog X.w) X.A (execs st X.env) (SP X pins D) X.xe s
/-- weaken the end -/
theorem thn {α : Type} {t : Sem α} {Q Q' : α → Shared → Prop} {M : Model} {A : Around} {E : Value → Shared → Prop} {s : Shared} (h : wpAny M A t Q E s) (hQ : ∀ a s, Q a s → Q' a s) : wpAny M A t Q' E s := wpAny_mono h hQ fun _ _ x => x
end L2

namespace L2
open PySem PySem.Spec PyProof.Rows
section
variable {X : Cx}

/-- two expressions in a row -/
theorem bin {a b : Expr} {ta tb : TE} (ha : PE X a ta) (hb : PE X b tb) {pins : List (Addr × Obj)} {s : Shared} {σ : St} {H : Hp} {R : V → V → Hp → Prop} (I : Inv X pins σ H s) (h : ta σ H fun x H1 => tb σ H1 fun y H2 => R x y H2)
    {α : Type} {Q : α → Shared → Prop} {f : Value → Value → Sem α}
    (hf : ∀ v u s2 x y H2, Inv X pins σ H2 s2 → RelV x v → RelV y u → R x y H2 → wpAny (model X.prog X.w) X.A (f v u) Q X.xe s2) :
    wpAny (model X.prog X.w) X.A (eval a X.env) (fun v s₁ => wpAny (model X.prog X.w) X.A (eval b X.env) (fun u s₂ => wpAny (model X.prog X.w) X.A (f v u) Q X.xe s₂) X.xe s₁) X.xe s := by
  refine thn (ha pins s σ H _ I h) fun v s1 ⟨x, H1, I1, r1, q1⟩ => ?_
  refine thn (hb pins s1 σ H1 _ I1 q1) fun u s2 ⟨y, H2, I2, r2, q2⟩ => ?_
  exact hf v u s2 x y H2 I2 r1 r2 q2

/-! ### names and constants -/
def tVar (i : Nat) : TE := fun σ H Q => ∃ v, σ[i]? = some (some v) ∧ Q v H
def tC (v : V) : TE := fun _ H Q => Q v H
theorem pe_var {i : Nat} {x : Str} {pos : Pos} (hN : X.N[i]? = some x) (hv : Vis X.env.scope x) (hd : (x == ("__debug__" : Str)) = false := by decide) (hcd : (x == ("__classdict__" : Str)) = false := by decide) : PE X (.Name x pos) (tVar i) := by
  intro pins s σ H Q I h
  obtain ⟨v, e, h⟩ := h
  obtain ⟨m, hn, hl⟩ := I.loc
  obtain ⟨u, r, l⟩ := hl i x v hN e hv
  have fin : EP X pins σ Q u s := ⟨v, H, I, r, h⟩
  rcases l with ⟨hk, hm⟩ | ⟨hk, c, hc, hcell⟩
  · exact wpAny_Name (wpAny_loadName_local I.ok.kind hk hn hm fin) hd
  · rcases hk with hk | hk
    · exact wpAny_Name (wpAny_loadName_cell I.ok.kind hk hc hcell fin) hd
    · exact wpAny_Name (wpAny_loadName_free I.ok.kind hk hc hcell fin hcd) hd
theorem pe_int {i j pos} : PE X (.Constant (.int i) j pos) (tC (.int i)) := fun _ _ _ H _ I h => wpAny_Constant_int ⟨.int i, H, I.tok _, ⟨_, rfl⟩, h⟩
theorem pe_bl {b j pos} : PE X (.Constant (.bool b) j pos) (tC (.bl b)) := fun _ _ _ H _ I h => Constant_bool ⟨.bl b, H, I, rfl, h⟩
theorem pe_non {j pos} : PE X (.Constant .none j pos) (tC .non) := fun _ _ _ H _ I h => Constant_none ⟨.non, H, I, rfl, h⟩
theorem pe_str {x j pos} : PE X (.Constant (.str x) j pos) (tC (.str x)) := fun _ _ _ H _ I h => Calls.Constant_str ⟨.str x, H, I.tok _, ⟨_, rfl⟩, h⟩

/-- a global name of the def -/
def Gl (X : Cx) (x : Str) : Prop := X.env.kindOf x = some .globalImplicit
theorem ld_glob {E : Value → Shared → Prop} {pins : List (Addr × Obj)} {s : Shared} {σ : St} {H : Hp} {x : Str} {u : Value} {pos : Pos} {Q : Value → Shared → Prop} (I : Inv X pins σ H s) (hg : Gl X x) (hm : X.mg x = some u) (h : Q u s)
    (hd : (x == ("__debug__" : Str)) = false := by decide) : wpAny (model X.prog X.w) X.A (eval (.Name x pos) X.env) Q E s :=
  Calls.Name_function_global I.ok.kind hg (Calls.loadGlobal_global (by rw [I.ok.glob]; exact I.mod.glob.keeps I.bk) hm h) hd
theorem ld_blt {E : Value → Shared → Prop} {pins : List (Addr × Obj)} {s : Shared} {σ : St} {H : Hp} {x : Str} {u : Value} {pos : Pos} {Q : Value → Shared → Prop} (I : Inv X pins σ H s) (hg : Gl X x) (hm : X.mg x = none) (hv : bootBuiltins x = some u) (h : Q u s)
    (hn : x ≠ "__name__" := by decide) (hd : (x == ("__debug__" : Str)) = false := by decide) : wpAny (model X.prog X.w) X.A (eval (.Name x pos) X.env) Q E s := by
  obtain ⟨mb, h1, h2⟩ := I.mod.blt
  exact Calls.Name_function_global I.ok.kind hg (Calls.loadGlobal_builtin (by rw [I.ok.glob]; exact I.mod.glob.keeps I.bk) hm (by rw [I.ok.blt]; exact h1.keeps I.bk) ((h2 x hn).trans hv) h) hd
theorem pe_bltn {x : Str} {v : V} {u : Value} {pos : Pos} (hg : Gl X x) (hm : X.mg x = none) (hv : bootBuiltins x = some u) (r : RelV v u) (hn : x ≠ "__name__" := by decide) (hd : (x == ("__debug__" : Str)) = false := by decide) : PE X (.Name x pos) (tC v) :=
  fun _ _ _ H _ I h => ld_blt I hg hm hv ⟨v, H, I, r, h⟩ hn hd

/-! ### arithmetic -/
variable {a b : Expr} {ta tb : TE} {pos : Pos}

/-! ### comparisons -/
def PC (X : Cx) (op : CmpOp) (a b : Expr) (t : TE) : Prop :=
  ∀ (pins : List (Addr × Obj)) (s : Shared) (σ : St) (H : Hp) (Q : VK), Inv X pins σ H s → t σ H Q →
    wpAny (model X.prog X.w) X.A (eval a X.env) (fun v s₁ => wpAny (model X.prog X.w) X.A (eval b X.env) (fun u s₂ => wpAny (model X.prog X.w) X.A (compareOp op v u) (EP X pins σ Q) X.xe s₂) X.xe s₁) X.xe s
theorem nobehind (b : Expr) {op : CmpOp} (h : op ≠ .In) (h2 : op ≠ .NotIn) : behindInMarks op b = false := by
  have e1 : (op == CmpOp.In) = false := by cases op <;> first | rfl | exact absurd rfl h
  have e2 : (op == CmpOp.NotIn) = false := by cases op <;> first | rfl | exact absurd rfl h2
  cases b <;> simp [behindInMarks, e1, e2]
/-- a comparison as a value, as a test -/
def tB (t : TE) : TT := fun σ H Q => t σ H fun x H1 => ∃ c, x = .bl c ∧ Q c H1
theorem pt_cmp {op : CmpOp} {t : TE} (h : PC X op a b t) (h1 : behindInMarks op b = false := by first | exact nobehind _ (by decide) (by decide) | rfl) : PT X (.Compare a [op] [b] pos) (tB t) := by
  intro pins s σ H Q I hw
  refine wpAny_isTrue_Compare1 (thn (h pins s σ H _ I hw) fun v s1 h1 => thn h1 fun u s2 h2 => thn h2 fun c s3 ⟨x, H1, I1, r1, q1⟩ => ?_) h1
  obtain ⟨d, rfl, q⟩ := q1
  cases r1
  exact wpAny_truthy_bool ⟨H1, I1, q⟩
/-- an expression whose value is a bool, as a test -/
theorem pt_val {e : Expr} {t : TE} (h : PE X e t) (he : ∀ whole, isTrue e X.env whole = (do let v ← whole; standAt e.pos; holding [v] (truthy v)) := by intro _; rfl) : PT X e (tB t) := by
  intro pins s σ H Q I hw
  refine isTrue_plain (thn (h pins s σ H _ I hw) fun v s1 ⟨x, H1, I1, r1, q1⟩ => ?_) (he _)
  obtain ⟨d, rfl, q⟩ := q1
  cases r1
  exact wpAny_truthy_bool ⟨H1, I1, q⟩

/-! ### and, or, not -/
variable {tA tB' : TT} {rest : List Expr}
def tAnd (t u : TT) : TT := fun σ H Q => t σ H fun c H1 => if c = true then u σ H1 Q else Q false H1
def tOr (t u : TT) : TT := fun σ H Q => t σ H fun c H1 => if c = true then Q true H1 else u σ H1 Q
def tNot (t : TT) : TT := fun σ H Q => t σ H fun c H1 => Q (!c) H1
theorem pw_and1 (ha : PT X a tA) : PW X (.BoolOp .And [a] pos) tA := by
  intro wh pins s σ H Q I h
  refine isTrue_and (thn (ha pins s σ H Q I h) fun c s1 e => ?_)
  cases c with
  | true => exact isTrue_and_nil e
  | false => exact e
theorem pw_or1 (ha : PT X a tA) : PW X (.BoolOp .Or [a] pos) tA := by
  intro wh pins s σ H Q I h
  refine isTrue_or (thn (ha pins s σ H Q I h) fun c s1 e => ?_)
  cases c with
  | false => exact isTrue_or_nil e
  | true => exact e
theorem pw_and (ha : PT X a tA) (hb : PW X (.BoolOp .And (b :: rest) pos) tB') : PW X (.BoolOp .And (a :: b :: rest) pos) (tAnd tA tB') := by
  intro wh pins s σ H Q I h
  refine isTrue_and (thn (ha pins s σ H _ I h) fun c s1 ⟨H1, I1, q1⟩ => ?_)
  cases c with
  | true => exact hb wh pins s1 σ H1 Q I1 q1
  | false => exact ⟨H1, I1, q1⟩
theorem pw_or (ha : PT X a tA) (hb : PW X (.BoolOp .Or (b :: rest) pos) tB') : PW X (.BoolOp .Or (a :: b :: rest) pos) (tOr tA tB') := by
  intro wh pins s σ H Q I h
  refine isTrue_or (thn (ha pins s σ H _ I h) fun c s1 ⟨H1, I1, q1⟩ => ?_)
  cases c with
  | true => exact ⟨H1, I1, q1⟩
  | false => exact hb wh pins s1 σ H1 Q I1 q1
theorem pt_not (ha : PT X a tA) : PT X (.UnaryOp .Not a pos) (tNot tA) := by
  intro pins s σ H Q I h
  exact isTrue_not (ha pins s σ H (fun c H1 => Q (!c) H1) I h)
end
end L2

namespace L2
open PySem PySem.Spec PyProof.Rows

/-! ### a list, a tuple that is read: tracked, frozen, or an object of the module -/
def SqL (K : PySem.W.Frag) (H : Hp) (a : Addr) (xs : List V) : Prop :=
  Rd H a (.lst xs) ∨
    ∃ (o : Obj) (its : Array Value) (n : Nat), K.lookup a = some o ∧ o.cls = .type "list" ∧ o.dict = none ∧ o.data = .seq its n ∧ its.size ≤ sizeLine ∧ Vals xs its.toList
def SqT (K : PySem.W.Frag) (H : Hp) (a : Addr) (xs : List V) : Prop :=
  Rd H a (.tup xs) ∨
    ∃ (o : Obj) (its : Array Value) (n : Nat), K.lookup a = some o ∧ o.cls = .type "tuple" ∧ o.data = .seq its n ∧ its.size ≤ sizeLine ∧ Vals xs its.toList
def absV : Value → Option V
  | .none => some .non
  | .bool b => some (.bl b)
  | .int i _ => some (.int i)
  | .str x _ => some (.str x)
  | .bytes b _ => some (.byt b)
  | .float b _ => some (.flt b)
  | .ref a => some (.ref a)
  | .type n => some (.ty n)
  | _ => none
theorem RelV.abs {x : V} {u : Value} (r : RelV x u) : absV u = some x := by
  cases x with
  | non => cases r; rfl
  | bl _ => cases r; rfl
  | int _ => obtain ⟨t, rfl⟩ := r; rfl
  | str _ => obtain ⟨t, rfl⟩ := r; rfl
  | byt _ => obtain ⟨t, rfl⟩ := r; rfl
  | flt _ => obtain ⟨t, rfl⟩ := r; rfl
  | ref _ => cases r; rfl
  | ty _ => cases r; rfl
theorem RelV.inj {x y : V} {u : Value} (r : RelV x u) (q : RelV y u) : x = y := Option.some.inj (r.abs.symm.trans q.abs)
theorem Vals.inj : ∀ {xs ys : List V} {us : List Value}, Vals xs us → Vals ys us → xs = ys
  | _, _, _, .nil, .nil => rfl
  | _, _, _, .cons r t, .cons r' t' => by rw [r.inj r', Vals.inj t t']
section
variable {X : Cx} {pins : List (Addr × Obj)} {σ : St} {H : Hp} {s : Shared} {a : Addr} {xs ys : List V}
theorem SqL.of {K : PySem.W.Frag} (h : H a = some (.lst xs)) : SqL K H a xs := .inl (.inl h)
theorem SqT.of {K : PySem.W.Frag} (h : H a = some (.tup xs)) : SqT K H a xs := .inl (.inl h)
theorem Inv.list (I : Inv X pins σ H s) (h : SqL X.K H a xs) : ∃ its : List Value, Vals xs its ∧ PlainL s.heap a its.toArray ∧ xs.length ≤ sizeLine := by
  rcases h with h | ⟨o, its, n, hk, hc, hd, hs, hz, r⟩
  · obtain ⟨z, its, n, r, e⟩ := h.ok I.hok
    exact ⟨its, r, ⟨_, n, e, rfl, rfl, rfl⟩, z⟩
  · refine ⟨its.toList, r, ⟨o, n, I.kIn a o hk, hc, hd, by simpa using hs⟩, ?_⟩
    have e := r.length
    simp only [Array.length_toList] at e
    omega
theorem Inv.tuple (I : Inv X pins σ H s) (h : SqT X.K H a xs) : ∃ its : List Value, Vals xs its ∧ IsTup s.heap a its.toArray ∧ xs.length ≤ sizeLine := by
  rcases h with h | ⟨o, its, n, hk, hc, hs, hz, r⟩
  · obtain ⟨z, its, r, p, _⟩ := h.ok I.hok
    exact ⟨its, r, p, z⟩
  · refine ⟨its.toList, r, ⟨o, I.kIn a o hk, hc, n, by simpa using hs⟩, ?_⟩
    have e := r.length
    simp only [Array.length_toList] at e
    omega
theorem Inv.list_inj (I : Inv X pins σ H s) (h : SqL X.K H a xs) (h' : SqL X.K H a ys) : xs = ys := by
  obtain ⟨its, r, ⟨o, n, e, _, _, d⟩, _⟩ := I.list h
  obtain ⟨its', r', ⟨o', n', e', _, _, d'⟩, _⟩ := I.list h'
  rw [e] at e'; cases e'
  rw [d] at d'
  injection d' with d1 _
  have : its = its' := by simpa using congrArg Array.toList d1
  subst this
  exact r.inj r'
theorem Inv.tuple_inj (I : Inv X pins σ H s) (h : SqT X.K H a xs) (h' : SqT X.K H a ys) : xs = ys := by
  obtain ⟨its, r, ⟨o, e, _, n, d⟩, _⟩ := I.tuple h
  obtain ⟨its', r', ⟨o', e', _, n', d'⟩, _⟩ := I.tuple h'
  rw [e] at e'; cases e'
  rw [d] at d'
  injection d' with d1 _
  have : its = its' := by simpa using congrArg Array.toList d1
  subst this
  exact r.inj r'
end

/-! ### another wish about exceptions -/
abbrev Cx.wish (X : Cx) (E : Value → Shared → Prop) : Cx := { X with xe := E }
/-- no exception leaves -/
abbrev Cx.nox (X : Cx) : Cx := X.wish fun _ _ => False
theorem Cx.Ok.wish {X : Cx} (ok : X.Ok) (E : Value → Shared → Prop) : (X.wish E).Ok :=
  ⟨ok.mod, ok.kind, ok.glob, ok.blt, ok.above, ok.inj, ok.has, ok.cab, ok.hd, ok.frames, ok.stk, ok.exf, ok.bs, ok.bsz, ok.noex, ok.exfs, ok.funs, ok.frf⟩
theorem Cx.Ok.unwish {X : Cx} {E : Value → Shared → Prop} (ok : (X.wish E).Ok) : X.Ok :=
  ⟨ok.mod, ok.kind, ok.glob, ok.blt, ok.above, ok.inj, ok.has, ok.cab, ok.hd, ok.frames, ok.stk, ok.exf, ok.bs, ok.bsz, ok.noex, ok.exfs, ok.funs, ok.frf⟩
section
variable {X : Cx} {pins : List (Addr × Obj)} {σ : St} {H : Hp} {s : Shared} {E : Value → Shared → Prop}
theorem Inv.wish (I : Inv X pins σ H s) (E : Value → Shared → Prop) : Inv (X.wish E) pins σ H s := ⟨I.ok.wish E, I.os, I.bare, I.base, I.loc, I.cell, I.free, I.freeC, I.pin, I.hok, I.len⟩
theorem Inv.unwish (I : Inv (X.wish E) pins σ H s) : Inv X pins σ H s := ⟨I.ok.unwish, I.os, I.bare, I.base, I.loc, I.cell, I.free, I.freeC, I.pin, I.hok, I.len⟩
theorem SP.unwish {D : Ends} {f : Flow} {s' : Shared} (h : SP (X.wish E) pins D f s') : SP X pins D f s' := by
  cases f with
  | next => obtain ⟨σ', H', I, q⟩ := h; exact ⟨σ', H', I.unwish, q⟩
  | brk => obtain ⟨σ', H', I, q⟩ := h; exact ⟨σ', H', I.unwish, q⟩
  | cont => obtain ⟨σ', H', I, q⟩ := h; exact ⟨σ', H', I.unwish, q⟩
  | ret u => obtain ⟨v, σ', H', I, r, q⟩ := h; exact ⟨v, σ', H', I.unwish, r, q⟩
theorem PE.nox {e : Expr} {t : TE} (h : PE X.nox e t) : PE X e t := fun pins s σ H Q I hw =>
  wpAny_mono (h pins s σ H Q (I.wish _) hw) (fun _ _ ⟨v, H', I', r, q⟩ => ⟨v, H', I'.unwish, r, q⟩) fun _ _ z => False.elim z
theorem PT.nox {e : Expr} {t : TT} (h : PT X.nox e t) : PT X e t := fun pins s σ H Q I hw =>
  wpAny_mono (h pins s σ H Q (I.wish _) hw) (fun _ _ ⟨H', I', q⟩ => ⟨H', I'.unwish, q⟩) fun _ _ z => False.elim z
theorem PSs.nox {st : List Stmt} {t : TS} (h : PSs X.nox st t) : PSs X st t := fun pins s σ H D I hw =>
  wpAny_mono (h pins s σ H D (I.wish _) hw) (fun _ _ q => q.unwish) fun _ _ z => False.elim z
end

/-! ### blocks and small statements -/
section
variable {X : Cx} {st : Stmt} {rest : List Stmt} {t u : TS} {e : Expr} {te : TE} {pos : Pos}
def tNext : TS := fun D σ H => D.nx σ H
def tSeq (t u : TS) : TS := fun D σ H => t { D with nx := u D } σ H
theorem pss_nil : PSs X [] tNext := fun _ _ σ H _ I h => wpAny_execs_nil ⟨σ, H, I, h⟩
theorem pss_cons (h1 : PS X st t) (h2 : PSs X rest u) : PSs X (st :: rest) (tSeq t u) := by
  intro pins s σ H D I h
  refine wpAny_execs_cons (thn (h1 pins s σ H { D with nx := u D } I h) fun f s1 q => ?_)
  cases f with
  | next =>
    obtain ⟨σ', H', I', q⟩ := q
    exact h2 pins s1 σ' H' D I' q
  | ret v => exact q
  | brk => exact q
  | cont => exact q
theorem pss_one (h1 : PS X st t) : PSs X [st] t := by
  intro pins s σ H D I h
  refine wpAny_execs_cons (thn (h1 pins s σ H D I h) fun f s1 q => ?_)
  cases f with
  | next => exact wpAny_execs_nil q
  | ret v => exact q
  | brk => exact q
  | cont => exact q
/-- in a def's body nothing is shown -/
theorem Inv.quiet {pins : List (Addr × Obj)} {σ : St} {H : Hp} {s : Shared} (I : Inv X pins σ H s) : interactive X.env = false := by simp [interactive, I.ok.kind]
/-- an expression whose value is dropped -/
def tDrop (te : TE) : TS := fun D σ H => te σ H fun _ H1 => D.nx σ H1
theorem ps_expr (he : PE X e te) (hs : swapsWith e none pos.line X.env = pure false := by rfl) : PS X (.Expr e pos) (tDrop te) := by
  intro pins s σ H D I h
  exact wpAny_Expr_any (thn (he pins s σ H _ I h) fun v s1 ⟨x, H1, I1, r1, q1⟩ => ⟨σ, H1, I1, q1⟩) I.quiet hs
def tRet (te : TE) : TS := fun D σ H => te σ H D.rt
theorem ps_ret (he : PE X e te) : PS X (.Return (some e) pos) (tRet te) := by
  intro pins s σ H D I h
  exact wpAny_Return_some (thn (he pins s σ H _ I h) fun v s1 ⟨x, H1, I1, r1, q1⟩ => ⟨x, σ, H1, I1, r1, q1⟩)
def tIfS (c : TT) (t u : TS) : TS := fun D σ H => c σ H fun b H1 => if b = true then t D σ H1 else u D σ H1
theorem ps_if {c : Expr} {a b : List Stmt} {tc : TT} (hc : PT X c tc) (ha : PSs X a t) (hb : PSs X b u) : PS X (.If c a b pos) (tIfS tc t u) := by
  intro pins s σ H D I h
  refine wpAny_If (thn (hc pins s σ H _ I h) fun d s1 ⟨H1, I1, q1⟩ => ?_)
  cases d with
  | true => exact ha pins s1 σ H1 D I1 q1
  | false => exact hb pins s1 σ H1 D I1 q1
end

/-! ### targets -/
abbrev TG := V → St → Hp → (St → Hp → Prop) → Prop
abbrev TGs := List V → St → Hp → (St → Hp → Prop) → Prop
def PG (X : Cx) (target : Expr) (t : TG) : Prop :=
  ∀ (pins : List (Addr × Obj)) (s : Shared) (σ : St) (H : Hp) (v : V) (u : Value) (Q : St → Hp → Prop), Inv X pins σ H s → RelV v u → t v σ H Q →
    wpAny (model X.prog X.w) X.A (assign target X.env u) (fun _ s' => ∃ σ' H', Inv X pins σ' H' s' ∧ Q σ' H') X.xe s
/-- several targets, one after another -/
def PGs (X : Cx) (ts : List Expr) (t : TGs) : Prop :=
  ∀ (pins : List (Addr × Obj)) (s : Shared) (σ : St) (H : Hp) (vs : List V) (us : List Value) (Q : St → Hp → Prop), Inv X pins σ H s → Vals vs us → t vs σ H Q →
    wpAny (model X.prog X.w) X.A (assignInOrder ((assignEach ts X.env).map (·.2)) us) (fun _ s' => ∃ σ' H', Inv X pins σ' H' s' ∧ Q σ' H') X.xe s
/-- o[i] = v, by values -/
abbrev TSet := V → V → V → Hp → (Hp → Prop) → Prop
def PSet (X : Cx) (t : TSet) : Prop :=
  ∀ (pins : List (Addr × Obj)) (s : Shared) (σ : St) (H : Hp) (o i v : V) (ov iv u : Value) (Q : Hp → Prop), Inv X pins σ H s → RelV o ov → RelV i iv → RelV v u → t o i v H Q →
    wpAny (model X.prog X.w) X.A (setItem ov iv u) (fun _ s' => ∃ H', Inv X pins σ H' s' ∧ Q H') X.xe s
section
variable {X : Cx} {pos : Pos}
def gName (i : Nat) : TG := fun v σ H Q => Q (σ.set i (some v)) H
theorem pg_name {i : Nat} {x : Str} (hN : X.N.Nodup) (hi : X.N[i]? = some x) (hx : Loc X.env.scope x) (hf : X.fn x = true ∨ X.env.scope.names.lookup x = some .local := by first | exact .inl rfl | exact .inr rfl | assumption) : PG X (.Name x pos) (gName i) := by
  intro pins s σ H v u Q I r h
  exact wpAny_assign_Name (store_ok I hN hi hx r (fun s' I' => ⟨_, H, I', h⟩) hf)
def gNil : TGs := fun vs σ H Q => vs = [] ∧ Q σ H
def gCons (t : TG) (u : TGs) : TGs := fun vs σ H Q => ∃ v r, vs = v :: r ∧ t v σ H fun σ' H' => u r σ' H' Q
theorem pgs_nil : PGs X [] gNil := by
  intro pins s σ H vs us Q I r h
  obtain ⟨e, h⟩ := h
  subst e
  cases r
  exact assignInOrder_nil ⟨σ, H, I, h⟩
theorem pgs_cons {e : Expr} {es : List Expr} {t : TG} {u : TGs} (h1 : PG X e t) (h2 : PGs X es u)
    (hs : (assignEach (e :: es) X.env).map (·.2) = assign e X.env :: (assignEach es X.env).map (·.2) := by rfl) : PGs X (e :: es) (gCons t u) := by
  intro pins s σ H vs us Q I r h
  obtain ⟨v, vr, e1, h⟩ := h
  subst e1
  cases r with
  | cons r rr =>
    rw [hs]
    refine assignInOrder_cons (thn (h1 pins s σ H _ _ _ I r h) fun _ s1 ⟨σ1, H1, I1, q1⟩ => ?_)
    exact h2 pins s1 σ1 H1 _ _ Q I1 rr q1
/-- (a, b, ..) = a tuple of that length -/
def gTup (K : PySem.W.Frag) (n : Nat) (t : TGs) : TG := fun v σ H Q => ∃ a xs, v = .ref a ∧ SqT K H a xs ∧ xs.length = n ∧ t xs σ H Q
theorem pg_tup {es : List Expr} {k : Nat} {t : TGs} {n : Nat} (hc : X.calm = true) (h : PGs X es t)
    (hn : (assignEach es X.env).length = n := by rfl) (hst : (assignEach es X.env).findIdx? (·.1) = none := by rfl) : PG X (.Tuple es k pos) (gTup X.K n t) := by
  intro pins s σ H v u Q I r hw
  obtain ⟨a, xs, e1, hq, hl, hw⟩ := hw
  subst e1
  cases r
  obtain ⟨its, rv, ht, hz⟩ := I.tuple hq
  refine assign_Tuple_tuple (I.ok.hd hc) ht (by simp [hn, ← hl, rv.length]) hst fun h' hx => ?_
  have I1 : Inv X pins σ H { s with heap := h' } := I.kept (t' := s.toks) fun b o e => hx b o (Nat.ne_of_lt (Heap.lt_size e)) e
  exact h pins _ σ H xs _ Q I1 (by simpa using rv) hw
/-- o[i] = .. -/
def gSub (to ti : TE) (t : TSet) : TG := fun v σ H Q => to σ H fun o H1 => ti σ H1 fun i H2 => t o i v H2 fun H3 => Q σ H3
theorem pg_sub {o i : Expr} {to ti : TE} {t : TSet} (ho : PE X o to) (hi : PE X i ti) (hs : PSet X t)
    (ha : ∀ v, assign (.Subscript o i pos) X.env v = (do
      let ov ← holding [v] (eval o X.env)
      let iv ← holding [v, ov] (eval i X.env)
      standAt pos
      holding [v, ov, iv] (setItem ov iv v)
      release [v, ov, iv] []) := by intro _; rfl) : PG X (.Subscript o i pos) (gSub to ti t) := by
  intro pins s σ H v u Q I r h
  rw [ha]
  refine wpAny_bind (wpAny_holding (thn (ho pins s σ H _ I h) fun ov s1 ⟨x, H1, I1, r1, q1⟩ => ?_))
  refine wpAny_bind (wpAny_holding (thn (hi pins s1 σ H1 _ I1 q1) fun iv s2 ⟨y, H2, I2, r2, q2⟩ => ?_))
  refine wpAny_bind (wpAny_standAt (wpAny_bind (wpAny_holding (thn (hs pins s2 σ H2 x y v ov iv u _ I2 r1 r2 r q2) fun _ s3 ⟨H3, I3, q3⟩ => ?_))))
  exact wpAny_release ⟨σ, H3, I3, q3⟩
/-- target = value -/
def tAsg (te : TE) (g : TG) : TS := fun D σ H => te σ H fun x H1 => g x σ H1 D.nx
theorem ps_asg {tg e : Expr} {te : TE} {g : TG} (he : PE X e te) (hg : PG X tg g) (hs : swapsWithSole [tg] e pos.line X.env = pure false := by rfl) (hw : swappedStores [tg] e X.env = pure none := by rfl)
    (h1 : (assignEach [tg] X.env).map (·.2) = [assign tg X.env] := by rfl) : PS X (.Assign [tg] e pos) (tAsg te g) := by
  intro pins s σ H D I h
  refine wpAny_Assign_stores (thn (he pins s σ H _ I h) fun v s1 ⟨x, H1, I1, r1, q1⟩ => ?_) hs hw
  rw [h1]
  exact thn (hg pins s1 σ H1 x v _ I1 r1 q1) fun _ s2 q => q
/-- name = value -/
theorem ps_set {i : Nat} {x : Str} {e : Expr} {te : TE} {pos' : Pos} (hN : X.N.Nodup) (hi : X.N[i]? = some x) (hx : Loc X.env.scope x) (he : PE X e te) (hs : swapsWith e (some (.Name x pos')) pos.line X.env = pure false := by rfl) (hf : X.fn x = true ∨ X.env.scope.names.lookup x = some .local := by first | exact .inl rfl | exact .inr rfl | assumption) :
    PS X (.Assign [.Name x pos'] e pos) (tAsg te (gName i)) := by
  intro pins s σ H D I h
  refine wpAny_Assign_Name (thn (he pins s σ H _ I h) fun v s1 ⟨y, H1, I1, r1, q1⟩ => ?_) hs
  exact store_ok I1 hN hi hx r1 (fun s2 I2 => ⟨_, H1, I2, q1⟩) hf
end

/-! ### while -/
section
variable {X : Cx} {pos : Pos}
/-- the invariant W with its measure -/
def tWhile (c : TT) (tb : TS) : TS := fun D σ H => ∃ W : Nat → St → Hp → Prop, (∃ m, W m σ H) ∧ ∀ m σ H, W m σ H →
  c σ H fun b H1 => if b = true then ∃ N : St → Hp → Prop, (∀ σ' H', N σ' H' → ∃ m', m' < m ∧ W m' σ' H') ∧ tb { D with nx := N, ct := N, bk := D.nx } σ H1 else D.nx σ H1
theorem ps_while {c : Expr} {body : List Stmt} {tc : TT} {tb : TS} (hp : PassesOwn (model X.prog X.w) X.A X.env X.xe) (hc : PT X c tc) (hb : PSs X body tb) : PS X (.While c body [] pos) (tWhile tc tb) := by
  intro pins s σ H D I h
  obtain ⟨W, ⟨m0, w0⟩, turn⟩ := h
  refine wpAny_While (codeAny_whileLoop (fun n s' => ∃ σ' H', Inv X pins σ' H' s' ∧ W n σ' H') ?_ m0 ⟨σ, H, I, w0⟩)
  rintro n s1 ⟨σ1, H1, I1, w1⟩
  refine wpAny_passesOwn hp (thn (hc pins s1 σ1 H1 _ I1 (turn n σ1 H1 w1)) fun b s2 ⟨H2, I2, q2⟩ => ?_)
  cases b with
  | true =>
    obtain ⟨N, hN, q2⟩ := q2
    rw [if_pos rfl]
    refine wpAny_passesOwn hp (thn (hb pins s2 σ1 H2 _ I2 q2) fun f s3 q3 => ?_)
    cases f with
    | next =>
      obtain ⟨σ3, H3, I3, n3⟩ := q3
      obtain ⟨m', hm, w3⟩ := hN σ3 H3 n3
      exact ⟨m', hm, σ3, H3, I3, w3⟩
    | cont =>
      obtain ⟨σ3, H3, I3, n3⟩ := q3
      obtain ⟨m', hm, w3⟩ := hN σ3 H3 n3
      exact ⟨m', hm, σ3, H3, I3, w3⟩
    | brk => exact q3
    | ret v => exact q3
  | false =>
    rw [if_neg Bool.false_ne_true]
    exact wpAny_execs_nil ⟨σ1, H2, I2, q2⟩
end

/-! ### what a loop or a comprehension walks -/
/-- at turn i: it yields x (the heap may grow), or it stops -/
structure It where
  go : Nat → Hp → Prop
  yld : Nat → Hp → V → Hp → Prop
  stop : Nat → Hp → Prop
/-- the iterator's own objects may turn: they are not the frame's, not pinned, younger than the entry (or a comprehension's own) -/
def FpOk (X : Cx) (pins : List (Addr × Obj)) (H : Hp) (b : Addr) : Prop :=
  H b = none ∧ b ≠ X.env.locals ∧ b ∉ X.fs ∧ (b ∈ X.ex ∨ X.s₀.heap.objs.size ≤ b) ∧ (∀ x c, X.env.cells.lookup x = some c → c ≠ b) ∧ ∀ p ∈ X.pn ++ pins, p.1 ≠ b
theorem Inv.fpOk {X : Cx} {pins : List (Addr × Obj)} {σ : St} {H H' : Hp} {s : Shared} {b : Addr} (I : Inv X pins σ H s) (hb : s.heap.objs.size ≤ b) (hn : H' b = none) : FpOk X pins H' b := by
  refine ⟨hn, Nat.ne_of_gt (Nat.lt_of_lt_of_le I.lt hb), I.nofs hb, .inr (Nat.le_trans I.sz hb), fun x c e z => ?_, fun p hp z => ?_⟩
  · obtain ⟨v, q⟩ := I.cell x c e
    exact absurd (Nat.lt_of_lt_of_le q.lt (by rw [z]; exact hb)) (Nat.lt_irrefl _)
  · exact absurd (Nat.lt_of_lt_of_le (Heap.lt_size (I.pin p hp).1) (by rw [z]; exact hb)) (Nat.lt_irrefl _)
structure Turn (P : Program) (w : World) (K : PySem.W.Frag) (tg : Expr) (J : It) (fp : List Addr) (it : Addr) (tn : Nat → Heap → Prop) : Prop where
  mem : it ∈ fp
  obj : ∀ i h, tn i h → ∀ b ∈ fp, ∃ o, h.get? b = some o ∧ ∀ v, o.data ≠ .cell v
  keep : ∀ i h h', tn i h → (∀ b ∈ fp, ∀ o, h.get? b = some o → h'.get? b = some o) → tn i h'
  item : ∀ (X : Cx), X.prog = P → X.w = w → X.K = K → X.calm = true → ∀ (i : Nat) (pins : List (Addr × Obj)) (s : Shared) (σ : St) (H : Hp) (E : Value → Shared → Prop), Inv X pins σ H s → (∀ b ∈ fp, FpOk X pins H b) → tn i s.heap → J.go i H →
    wpAny (model P w) X.A (pyNext (.ref it)) (fun r s1 => ∃ u, r = some u ∧
      wpAny (model P w) X.A (letOwnedTupleGo tg (.ref it) u) (fun _ s2 => ∃ x H', Inv X pins σ H' s2 ∧ RelV x u ∧ J.yld i H x H' ∧ tn (i + 1) s2.heap ∧ ∀ b ∈ fp, H' b = none) E s1) E s
  done : ∀ (X : Cx), X.prog = P → X.w = w → X.K = K → X.calm = true → ∀ (i : Nat) (pins : List (Addr × Obj)) (s : Shared) (σ : St) (H : Hp) (E : Value → Shared → Prop), Inv X pins σ H s → (∀ b ∈ fp, FpOk X pins H b) → tn i s.heap → J.stop i H →
    wpAny (model P w) X.A (pyNext (.ref it)) (fun r s1 => r = none ∧ Inv X pins σ H s1) E s
  self : ∀ (A : Around) (i : Nat) (s : Shared) (Q : Value → Shared → Prop) (E : Value → Shared → Prop), tn i s.heap → Q (.ref it) s → wpAny (model P w) A (pyIter (.ref it)) Q E s
abbrev TI := St → Hp → (It → Hp → Prop) → Prop
/-- an iterator has come -/
def PIE (X : Cx) (pins : List (Addr × Obj)) (σ : St) (tg : Expr) (R : It → Hp → Prop) (itv : Value) (s2 : Shared) : Prop :=
  ∃ (it : Addr) (fp : List Addr) (tn : Nat → Heap → Prop) (J : It) (H' : Hp), itv = .ref it ∧ Inv X pins σ H' s2 ∧ Turn X.prog X.w X.K tg J fp it tn ∧ tn 0 s2.heap ∧ (∀ b ∈ fp, FpOk X pins H' b) ∧ R J H'
def PI (X : Cx) (tg iter : Expr) (wi : TI) : Prop :=
  ∀ (pins : List (Addr × Obj)) (s : Shared) (σ : St) (H : Hp) (R : It → Hp → Prop), Inv X pins σ H s → wi σ H R →
    wpAny (model X.prog X.w) X.A (eval iter X.env) (fun v s1 => wpAny (model X.prog X.w) X.A (pyIter v) (PIE X pins σ tg R) X.xe s1) X.xe s

/-- the step ahead of the store is nothing for an iterator that keeps no tuple -/
theorem go_of {M : Model} {A : Around} {E : Value → Shared → Prop} {s : Shared} {tg : Expr} {it : Addr} {u : Value} {o : Obj} {n : String} {vs : Array Value} {Q : Unit → Shared → Prop} (ho : s.heap.get? it = some o) (hc : o.cls = .type n) (hd : o.data = .fields vs)
    (hn : ["enumerate", "zip", "dict_itemiterator", "dict_reverseitemiterator", "odict_iterator", "itertools.zip_longest", "itertools.pairwise"].contains n = false) (hQ : Q () s) : wpAny M A (letOwnedTupleGo tg (.ref it) u) Q E s := by
  unfold letOwnedTupleGo
  cases tg <;> first
    | exact wpAny_pure hQ
    | (cases u <;> first
        | exact wpAny_pure hQ
        | (refine wpAny_bind (wpAny_load ho ?_)
           rw [hc, hd]
           show wpAny M A (if (["enumerate", "zip", "dict_itemiterator", "dict_reverseitemiterator", "odict_iterator", "itertools.zip_longest", "itertools.pairwise"].contains n && vs[0]? == some (rawInt _)) = true then _ else _) Q E s
           rw [if_neg (by intro h; rw [hn, Bool.false_and] at h; cases h)]
           exact wpAny_pure hQ))

/-- the list at a, as it stands at each turn (a loop may append to it) -/
def Itl (K : PySem.W.Frag) (a : Addr) : It :=
  ⟨fun i H => ∃ xs x, SqL K H a xs ∧ xs[i]? = some x, fun i H x H' => H' = H ∧ ∀ xs, SqL K H a xs → xs[i]? = some x, fun i H => ∃ xs, SqL K H a xs ∧ xs.length ≤ i⟩
def Itt (K : PySem.W.Frag) (a : Addr) : It :=
  ⟨fun i H => ∃ xs x, SqT K H a xs ∧ xs[i]? = some x, fun i H x H' => H' = H ∧ ∀ xs, SqT K H a xs → xs[i]? = some x, fun i H => ∃ xs, SqT K H a xs ∧ xs.length ≤ i⟩
/-- lo, lo + 1, .. (n of them) -/
def Itr (lo : Int) (n : Nat) : It := ⟨fun i _ => i < n, fun i H x H' => H' = H ∧ x = .int (lo + i), fun i _ => n ≤ i⟩
theorem turn_list {P : Program} {w : World} {K : PySem.W.Frag} {tg : Expr} (a it : Addr) : Turn P w K tg (Itl K a) [it] it (fun i h => h.IsListIter it a i) where
  mem := by simp
  obj := fun i h st b hb => by
    have e : b = it := by simpa using hb
    subst e
    obtain ⟨o, e, c, d⟩ := st
    exact ⟨o, e, fun v z => by rw [d] at z; cases z⟩
  keep := fun i h h' st k => st.at fun o e => k it (by simp) o e
  item := by
    intro X hP hw hK hc i pins s σ H E I hf st hg
    subst hP hw hK
    obtain ⟨xs, x, hq, hx⟩ := hg
    obtain ⟨its, rv, p, hz⟩ := I.list hq
    obtain ⟨u, hu, ru⟩ := rv.get hx
    obtain ⟨f0, f1, f2, f3, f4, f5⟩ := hf it (by simp)
    refine wpAny_pyNext_list_item st p.isList (x := u) (by simpa using hu) fun h' st' sb => ?_
    have I1 : Inv X pins σ H { s with heap := h' } := I.turned (t' := s.toks) (fun b o hb e => (sb.2 b hb).trans e) f0 f1 f3 f4 f5
    obtain ⟨o, e, c, d⟩ := id st'
    exact ⟨u, rfl, go_of (s := { s with heap := h' }) e c d (by decide) ⟨x, H, I1, ru, ⟨rfl, fun ys hy => by rw [I.list_inj hy hq]; exact hx⟩, st', fun b hb => (hf b hb).1⟩⟩
  done := by
    intro X hP hw hK hc i pins s σ H E I hf st hg
    subst hP hw hK
    obtain ⟨xs, hq, hx⟩ := hg
    obtain ⟨its, rv, p, hz⟩ := I.list hq
    obtain ⟨f0, f1, f2, f3, f4, f5⟩ := hf it (by simp)
    have hl := rv.length
    exact wpAny_pyNext_list_end (I.ok.hd hc) st p.isList (by simp; omega) fun h' eb => ⟨rfl, I.turned (t' := s.toks) (fun b o hb e => eb b o hb e) f0 f1 f3 f4 f5⟩
  self := fun _ _ _ _ _ st h => wpAny_pyIter_listiter st h
theorem turn_tuple {P : Program} {w : World} {K : PySem.W.Frag} {tg : Expr} (a it : Addr) : Turn P w K tg (Itt K a) [it] it (fun i h => h.IsTupleIter it a i) where
  mem := by simp
  obj := fun i h st b hb => by
    have e : b = it := by simpa using hb
    subst e
    obtain ⟨o, e, c, d⟩ := st
    exact ⟨o, e, fun v z => by rw [d] at z; cases z⟩
  keep := fun i h h' st k => st.at fun o e => k it (by simp) o e
  item := by
    intro X hP hw hK hc i pins s σ H E I hf st hg
    subst hP hw hK
    obtain ⟨xs, x, hq, hx⟩ := hg
    obtain ⟨its, rv, p, hz⟩ := I.tuple hq
    obtain ⟨u, hu, ru⟩ := rv.get hx
    obtain ⟨f0, f1, f2, f3, f4, f5⟩ := hf it (by simp)
    refine wpAny_pyNext_tuple_item st (show s.heap.IsTuple a its.toArray from p) (x := u) (by simpa using hu) fun h' st' sb => ?_
    have I1 : Inv X pins σ H { s with heap := h' } := I.turned (t' := s.toks) (fun b o hb e => (sb.2 b hb).trans e) f0 f1 f3 f4 f5
    obtain ⟨o, e, c, d⟩ := id st'
    exact ⟨u, rfl, go_of (s := { s with heap := h' }) e c d (by decide) ⟨x, H, I1, ru, ⟨rfl, fun ys hy => by rw [I.tuple_inj hy hq]; exact hx⟩, st', fun b hb => (hf b hb).1⟩⟩
  done := by
    intro X hP hw hK hc i pins s σ H E I hf st hg
    subst hP hw hK
    obtain ⟨xs, hq, hx⟩ := hg
    obtain ⟨its, rv, p, hz⟩ := I.tuple hq
    obtain ⟨f0, f1, f2, f3, f4, f5⟩ := hf it (by simp)
    have hl := rv.length
    exact wpAny_pyNext_tuple_end (I.ok.hd hc) st (show s.heap.IsTuple a its.toArray from p) (by simp; omega) fun h' eb => ⟨rfl, I.turned (t' := s.toks) (fun b o hb e => eb b o hb e) f0 f1 f3 f4 f5⟩
  self := fun _ _ _ _ _ st h => wpAny_pyIter_tupleiter st h
theorem turn_range {P : Program} {w : World} {K : PySem.W.Frag} {tg : Expr} (it : Addr) (lo : Int) (n : Nat) : Turn P w K tg (Itr lo n) [it] it (fun i h => IsRangeIter h it (lo + (i : Nat) * 1) ((n : Int) - (i : Nat)) 1) where
  mem := by simp
  obj := fun i h st b hb => by
    have e : b = it := by simpa using hb
    subst e
    exact ⟨_, st, fun v z => by
      have z' : Data.fields _ = Data.cell v := z
      cases z'⟩
  keep := fun i h h' st k => k it (by simp) _ st
  item := by
    intro X hP hw hK hc i pins s σ H E I hf st hg
    subst hP hw hK
    obtain ⟨f0, f1, f2, f3, f4, f5⟩ := hf it (by simp)
    have W := Walks.range (prog := X.prog) (w := X.w) (I.ok.hd hc) it lo 1 n
    refine W.item i s _ _ hg st fun v h' tk hv st' kk => ?_
    obtain ⟨t, rfl⟩ := hv
    have I1 : Inv X pins σ H { s with heap := h', toks := tk } := I.turned (fun b o hb e => kk b o (by simpa using hb) e) f0 f1 f3 f4 f5
    refine ⟨_, rfl, go_of (s := { s with heap := h', toks := tk }) (n := "range_iterator") st' rfl rfl (by decide) ⟨.int (lo + i), H, I1, ⟨t, ?_⟩, ⟨rfl, rfl⟩, st', fun b hb => (hf b hb).1⟩⟩
    rw [Int.mul_one]
  done := by
    intro X hP hw hK hc i pins s σ H E I hf st hg
    subst hP hw hK
    obtain ⟨f0, f1, f2, f3, f4, f5⟩ := hf it (by simp)
    exact wpAny_pyNext_range_end (I.ok.hd hc) st (by have : n ≤ i := hg; omega) fun h' eb => ⟨rfl, I.turned (t' := s.toks) (fun b o hb e => eb b o hb e) f0 f1 f3 f4 f5⟩
  self := fun _ _ _ _ _ st h => wpAny_pyIter_rangeiter st h
end L2

namespace L2
open PySem PySem.Spec PyProof.Rows
section
variable {X : Cx} {tg : Expr}
def iList (K : PySem.W.Frag) (tl : TE) : TI := fun σ H R => tl σ H fun x H1 => ∃ a, x = .ref a ∧ (∃ xs, SqL K H1 a xs) ∧ R (Itl K a) H1
def iTup (K : PySem.W.Frag) (tl : TE) : TI := fun σ H R => tl σ H fun x H1 => ∃ a, x = .ref a ∧ (∃ xs, SqT K H1 a xs) ∧ R (Itt K a) H1
theorem pi_list {l : Expr} {tl : TE} (hl : PE X l tl) : PI X tg l (iList X.K tl) := by
  intro pins s σ H R I h
  refine thn (hl pins s σ H _ I h) fun v s1 ⟨x, H1, I1, r1, q1⟩ => ?_
  obtain ⟨a, e, ⟨xs, hq⟩, q⟩ := q1
  subst e
  cases r1
  obtain ⟨its, rv, p, hz⟩ := I1.list hq
  refine wpAny_pyIter_list p.isList ?_
  refine ⟨s1.heap.objs.size, [s1.heap.objs.size], _, _, H1, rfl, I1.kept (t' := s1.toks) fun b o e => Heap.get?_push_of_some _ e, turn_list a _, ⟨_, Heap.get?_push_size _ rfl, rfl, rfl⟩, fun b hb => ?_, q⟩
  have e : b = s1.heap.objs.size := by simpa using hb
  subst e
  exact I1.fpOk (Nat.le_refl _) (I1.hok.fresh (Nat.le_refl _))
theorem pi_tup {l : Expr} {tl : TE} (hl : PE X l tl) : PI X tg l (iTup X.K tl) := by
  intro pins s σ H R I h
  refine thn (hl pins s σ H _ I h) fun v s1 ⟨x, H1, I1, r1, q1⟩ => ?_
  obtain ⟨a, e, ⟨xs, hq⟩, q⟩ := q1
  subst e
  cases r1
  obtain ⟨its, rv, p, hz⟩ := I1.tuple hq
  refine wpAny_pyIter_tuple (show s1.heap.IsTuple a its.toArray from p) ?_
  refine ⟨s1.heap.objs.size, [s1.heap.objs.size], _, _, H1, rfl, I1.kept (t' := s1.toks) fun b o e => Heap.get?_push_of_some _ e, turn_tuple a _, ⟨_, Heap.get?_push_size _ rfl, rfl, rfl⟩, fun b hb => ?_, q⟩
  have e : b = s1.heap.objs.size := by simpa using hb
  subst e
  exact I1.fpOk (Nat.le_refl _) (I1.hok.fresh (Nat.le_refl _))
/-- a range object just made, walked -/
theorem range_it {pins : List (Addr × Obj)} {σ : St} {H : Hp} {s : Shared} {R : It → Hp → Prop} {E : Value → Shared → Prop} {lo hi : Int} {t u v : Tok} {tk : Nat} (I : Inv X pins σ H s) (h1 : -(2 ^ 62) ≤ lo) (h2 : lo < 2 ^ 62) (h3 : -(2 ^ 62) ≤ hi) (h4 : hi < 2 ^ 62)
    (q : R (Itr lo (hi - lo).toNat) H) : wpAny (model X.prog X.w) X.A (pyIter (.ref s.heap.objs.size)) (PIE X pins σ tg R) E { s with heap := s.heap.push { cls := .type "range", data := .fields #[.int lo t, .int hi u, .int 1 v] }, toks := tk } := by
  refine wpAny_pyIter_range (IsRange.new ..) (small_one h1 h2 h3 h4) ?_
  have I1 : Inv X pins σ H { s with heap := s.heap.push { cls := .type "range", data := .fields #[.int lo t, .int hi u, .int 1 v] }, toks := tk } := I.kept fun b o e => Heap.get?_push_of_some _ e
  refine ⟨(s.heap.push { cls := .type "range", data := .fields #[.int lo t, .int hi u, .int 1 v] }).objs.size, [(s.heap.push { cls := .type "range", data := .fields #[.int lo t, .int hi u, .int 1 v] }).objs.size], _, _, H, rfl,
    I1.kept (t' := tk) fun b o e => Heap.get?_push_of_some _ e, turn_range _ lo (hi - lo).toNat, ?_, fun b hb => ?_, q⟩
  · have e1 : lo + ((0 : Nat) : Int) * 1 = lo := by simp
    have e2 : (((hi - lo).toNat : Nat) : Int) - ((0 : Nat) : Int) = Builtin.Range.rangeSize lo hi 1 := by rw [rangeSize_one]; split <;> omega
    show IsRangeIter _ _ (lo + ((0 : Nat) : Int) * 1) ((((hi - lo).toNat : Nat) : Int) - ((0 : Nat) : Int)) 1
    rw [e1, e2]
    exact Heap.get?_push_size _ rfl
  · have e : b = (s.heap.push { cls := .type "range", data := .fields #[.int lo t, .int hi u, .int 1 v] }).objs.size := by simpa using hb
    subst e
    exact I1.fpOk (Nat.le_refl _) (I1.hok.fresh (Nat.le_refl _))
def iRng1 (ta : TA) : TI := fun σ H R => ta σ H fun vs H1 => ∃ j : Int, vs = [.int j] ∧ -(2 ^ 62) ≤ j ∧ j < 2 ^ 62 ∧ R (Itr 0 j.toNat) H1
theorem pi_range1 {a : Expr} {ta : TA} {p pos : Pos} (hg : Gl X "range") (hm : X.mg "range" = none) (ha : PA X [a] ta) (hs : starEach [a] X.env = [(false, eval a X.env)] := by rfl) : PI X tg (.Call (.Name "range" p) [a] [] pos) (iRng1 ta) := by
  intro pins s σ H R I h
  refine Call_ (ld_blt I hg hm boot_range (PyProof.Rows.callWith_type1 (thn (ha pos pins s σ H _ I h) fun us s1 ⟨vs, H1, I1, r1, q1⟩ => ?_) hs rfl))
  obtain ⟨j, e, q1, q2, q⟩ := q1
  subst e
  cases r1 with
  | cons r rr =>
    cases rr
    obtain ⟨t, rfl⟩ := r
    exact call_range_1 (range_it I1 (by omega) (by omega) q1 q2 (by simpa using q))

/-! ### for -/
/-- W: the invariant by the turn and a measure; N: what the body is to reach -/
def tFor (wi : TI) (g : TG) (tb : TS) : TS := fun D σ H => wi σ H fun J H1 => ∃ W : Nat → Nat → St → Hp → Prop, (∃ m, W 0 m σ H1) ∧ ∀ i m σ H, W i m σ H →
  (J.stop i H ∧ D.nx σ H) ∨ (J.go i H ∧ ∃ N : St → Hp → Prop, (∀ σ' H', N σ' H' → ∃ m', m' < m ∧ W (i + 1) m' σ' H') ∧ ∀ x H', J.yld i H x H' → g x σ H' fun σ2 H2 => tb { D with nx := N, ct := N, bk := D.nx } σ2 H2)
/-- the records at fp as they stand -/
def pinsAt (fp : List Addr) (h : Heap) : List (Addr × Obj) := fp.filterMap fun b => (h.get? b).map fun o => (b, o)
theorem mem_pinsAt {fp : List Addr} {h : Heap} {b : Addr} {o : Obj} (hb : b ∈ fp) (e : h.get? b = some o) : (b, o) ∈ pinsAt fp h := List.mem_filterMap.mpr ⟨b, hb, by rw [e]; rfl⟩
theorem of_pinsAt {fp : List Addr} {h : Heap} {p : Addr × Obj} (hp : p ∈ pinsAt fp h) : p.1 ∈ fp ∧ h.get? p.1 = some p.2 := by
  obtain ⟨b, hb, e⟩ := List.mem_filterMap.mp hp
  cases q : h.get? b with
  | none => rw [q] at e; cases e
  | some o =>
    rw [q] at e
    have e' : (b, o) = p := Option.some.inj e
    subst e'
    exact ⟨hb, q⟩
theorem Inv.pinned {pins : List (Addr × Obj)} {σ : St} {H : Hp} {s : Shared} {fp : List Addr} (I : Inv X pins σ H s) (hf : ∀ b ∈ fp, FpOk X pins H b) (ho : ∀ b ∈ fp, ∃ o, s.heap.get? b = some o ∧ ∀ v, o.data ≠ .cell v) : Inv X (pins ++ pinsAt fp s.heap) σ H s :=
  I.pins_of fun p hp => (List.mem_append.mp hp).elim (fun z => I.pin p (List.mem_append_right _ z)) fun z => by
    obtain ⟨hb, e⟩ := of_pinsAt z
    obtain ⟨f0, f1, f2, _⟩ := hf p.1 hb
    obtain ⟨o, e', d⟩ := ho p.1 hb
    rw [e] at e'; cases e'
    exact ⟨e, f0, f1, f2, d⟩
theorem Inv.unpinned {pins pl : List (Addr × Obj)} {σ : St} {H : Hp} {s : Shared} (I : Inv X (pins ++ pl) σ H s) : Inv X pins σ H s := I.pins_of fun p hp => I.pin p (List.mem_append_right _ (List.mem_append_left _ hp))
theorem ps_for {iter : Expr} {body : List Stmt} {wi : TI} {g : TG} {tb : TS} {pos : Pos} (hp : PassesOwn (model X.prog X.w) X.A X.env X.xe) (hc : X.calm = true) (hi : PI X tg iter wi) (hg : PG X tg g) (hb : PSs X body tb)
    (hs : ∀ x, foldedSetIterable iter X.env x = pure x := by intro _; rfl) : PS X (.For tg iter body [] pos) (tFor wi g tb) := by
  intro pins s σ H D I h
  refine wpAny_For (thn (hi pins s σ H _ I h) fun v s1 h1 => thn h1 fun itv s2 h2 => ?_) hs
  obtain ⟨it, fp, tn, J, H2, e, I2, T, st2, f2, W, ⟨m0, w0⟩, turn⟩ := h2
  subst e
  -- what stays true of the iterator's objects through the loop
  have stat : ∀ {H' : Hp}, (∀ b ∈ fp, H' b = none) → ∀ b ∈ fp, FpOk X pins H' b := fun hn b hb => ⟨hn b hb, (f2 b hb).2⟩
  refine codeAny_forLoop_any (fun n s' => ∃ i σ' H', Inv X pins σ' H' s' ∧ tn i s'.heap ∧ (∀ b ∈ fp, H' b = none) ∧ W i n σ' H') ?_ m0 ⟨0, σ, H2, I2, st2, fun b hb => (f2 b hb).1, w0⟩
  rintro n s3 ⟨i, σ3, H3, I3, st3, fr3, w3⟩
  rcases turn i n σ3 H3 w3 with ⟨stop, qn⟩ | ⟨go, N, hN, step⟩
  · refine wpAny_passesOwn hp (thn (T.done X rfl rfl rfl hc i pins s3 σ3 H3 X.xe I3 (stat fr3) st3 stop) fun r s4 ⟨hr, I4⟩ => ?_)
    subst hr
    exact wpAny_execs_nil ⟨σ3, H3, I4, qn⟩
  · refine wpAny_passesOwn hp (thn (T.item X rfl rfl rfl hc i pins s3 σ3 H3 X.xe I3 (stat fr3) st3 go) fun r s4 ⟨u, hr, h4⟩ => ?_)
    subst hr
    refine wpAny_passesOwn hp (thn h4 fun _ s5 ⟨x, H5, I5, r5, y5, st5, fr5⟩ => ?_)
    have I5' := I5.pinned (stat fr5) (T.obj _ _ st5)
    refine wpAny_passesOwn hp (thn (hg _ s5 σ3 H5 x u _ I5' r5 (step x H5 y5)) fun _ s6 ⟨σ6, H6, I6, q6⟩ => ?_)
    refine wpAny_passesOwn hp (thn (hb _ s6 σ6 H6 _ I6 q6) fun f s7 q7 => ?_)
    have again : ∀ {σ7 : St} {H7 : Hp}, Inv X (pins ++ pinsAt fp s5.heap) σ7 H7 s7 → N σ7 H7 → ∃ m, m < n ∧ ∃ i σ' H', Inv X pins σ' H' s7 ∧ tn i s7.heap ∧ (∀ b ∈ fp, H' b = none) ∧ W i m σ' H' := fun {σ7 H7} I7 n7 => by
      obtain ⟨m', hm, w7⟩ := hN σ7 H7 n7
      refine ⟨m', hm, i + 1, σ7, H7, I7.unpinned, T.keep _ _ _ st5 fun b hb o e => (I7.pin (b, o) (List.mem_append_right _ (List.mem_append_right _ (mem_pinsAt hb e)))).1, fun b hb => ?_, w7⟩
      obtain ⟨o, e, d⟩ := T.obj _ _ st5 b hb
      exact (I7.pin (b, o) (List.mem_append_right _ (List.mem_append_right _ (mem_pinsAt hb e)))).2.1
    cases f with
    | next => obtain ⟨σ7, H7, I7, n7⟩ := q7; exact again I7 n7
    | cont => obtain ⟨σ7, H7, I7, n7⟩ := q7; exact again I7 n7
    | brk => obtain ⟨σ7, H7, I7, q7⟩ := q7; exact ⟨σ7, H7, I7.unpinned, q7⟩
    | ret v => obtain ⟨x7, σ7, H7, I7, r7, q7⟩ := q7; exact ⟨x7, σ7, H7, I7.unpinned, r7, q7⟩
end

/-! ### the forms one uses -/
/-- over a list that the body leaves as it is -/
theorem for_list {K : PySem.W.Frag} {a : Addr} {xs : List V} {g : TG} {tb : TS} {D : Ends} {σ : St} {H : Hp} (Pv : Nat → St → Hp → Prop) (h0 : Pv 0 σ H) (hl : ∀ i σ H, i ≤ xs.length → Pv i σ H → SqL K H a xs)
    (hs : ∀ i x σ H, xs[i]? = some x → Pv i σ H → g x σ H fun σ2 H2 => tb { D with nx := Pv (i + 1), ct := Pv (i + 1), bk := D.nx } σ2 H2) (hd : ∀ σ H, Pv xs.length σ H → D.nx σ H) :
    ∃ W : Nat → Nat → St → Hp → Prop, (∃ m, W 0 m σ H) ∧ ∀ i m σ H, W i m σ H →
      ((Itl K a).stop i H ∧ D.nx σ H) ∨ ((Itl K a).go i H ∧ ∃ N : St → Hp → Prop, (∀ σ' H', N σ' H' → ∃ m', m' < m ∧ W (i + 1) m' σ' H') ∧ ∀ x H', (Itl K a).yld i H x H' → g x σ H' fun σ2 H2 => tb { D with nx := N, ct := N, bk := D.nx } σ2 H2) := by
  refine ⟨fun i m σ H => m = xs.length - i ∧ i ≤ xs.length ∧ Pv i σ H, ⟨xs.length, by simp, Nat.zero_le _, h0⟩, ?_⟩
  rintro i m σ H ⟨rfl, hi, p⟩
  have q := hl i σ H hi p
  by_cases hlt : i < xs.length
  · refine .inr ⟨⟨xs, xs[i], q, by simp [hlt]⟩, Pv (i + 1), fun σ' H' p' => ⟨xs.length - (i + 1), by omega, rfl, hlt, p'⟩, fun x H' y => ?_⟩
    obtain ⟨e, y⟩ := y
    subst e
    exact hs i x σ _ (y xs q) p
  · have e : i = xs.length := by omega
    subst e
    exact .inl ⟨⟨xs, q, Nat.le_refl _⟩, hd σ H p⟩
theorem for_tup {K : PySem.W.Frag} {a : Addr} {xs : List V} {g : TG} {tb : TS} {D : Ends} {σ : St} {H : Hp} (Pv : Nat → St → Hp → Prop) (h0 : Pv 0 σ H) (hl : ∀ i σ H, i ≤ xs.length → Pv i σ H → SqT K H a xs)
    (hs : ∀ i x σ H, xs[i]? = some x → Pv i σ H → g x σ H fun σ2 H2 => tb { D with nx := Pv (i + 1), ct := Pv (i + 1), bk := D.nx } σ2 H2) (hd : ∀ σ H, Pv xs.length σ H → D.nx σ H) :
    ∃ W : Nat → Nat → St → Hp → Prop, (∃ m, W 0 m σ H) ∧ ∀ i m σ H, W i m σ H →
      ((Itt K a).stop i H ∧ D.nx σ H) ∨ ((Itt K a).go i H ∧ ∃ N : St → Hp → Prop, (∀ σ' H', N σ' H' → ∃ m', m' < m ∧ W (i + 1) m' σ' H') ∧ ∀ x H', (Itt K a).yld i H x H' → g x σ H' fun σ2 H2 => tb { D with nx := N, ct := N, bk := D.nx } σ2 H2) := by
  refine ⟨fun i m σ H => m = xs.length - i ∧ i ≤ xs.length ∧ Pv i σ H, ⟨xs.length, by simp, Nat.zero_le _, h0⟩, ?_⟩
  rintro i m σ H ⟨rfl, hi, p⟩
  have q := hl i σ H hi p
  by_cases hlt : i < xs.length
  · refine .inr ⟨⟨xs, xs[i], q, by simp [hlt]⟩, Pv (i + 1), fun σ' H' p' => ⟨xs.length - (i + 1), by omega, rfl, hlt, p'⟩, fun x H' y => ?_⟩
    obtain ⟨e, y⟩ := y
    subst e
    exact hs i x σ _ (y xs q) p
  · have e : i = xs.length := by omega
    subst e
    exact .inl ⟨⟨xs, q, Nat.le_refl _⟩, hd σ H p⟩
theorem for_range {lo : Int} {n : Nat} {g : TG} {tb : TS} {D : Ends} {σ : St} {H : Hp} (Pv : Nat → St → Hp → Prop) (h0 : Pv 0 σ H)
    (hs : ∀ i σ H, i < n → Pv i σ H → g (.int (lo + i)) σ H fun σ2 H2 => tb { D with nx := Pv (i + 1), ct := Pv (i + 1), bk := D.nx } σ2 H2) (hd : ∀ σ H, Pv n σ H → D.nx σ H) :
    ∃ W : Nat → Nat → St → Hp → Prop, (∃ m, W 0 m σ H) ∧ ∀ i m σ H, W i m σ H →
      ((Itr lo n).stop i H ∧ D.nx σ H) ∨ ((Itr lo n).go i H ∧ ∃ N : St → Hp → Prop, (∀ σ' H', N σ' H' → ∃ m', m' < m ∧ W (i + 1) m' σ' H') ∧ ∀ x H', (Itr lo n).yld i H x H' → g x σ H' fun σ2 H2 => tb { D with nx := N, ct := N, bk := D.nx } σ2 H2) := by
  refine ⟨fun i m σ H => m = n - i ∧ i ≤ n ∧ Pv i σ H, ⟨n, by simp, Nat.zero_le _, h0⟩, ?_⟩
  rintro i m σ H ⟨rfl, hi, p⟩
  by_cases hlt : i < n
  · refine .inr ⟨hlt, Pv (i + 1), fun σ' H' p' => ⟨n - (i + 1), by omega, rfl, hlt, p'⟩, fun x H' y => ?_⟩
    obtain ⟨e, y⟩ := y
    subst e y
    exact hs i σ _ hlt p
  · have e : i = n := by omega
    subst e
    exact .inl ⟨Nat.le_refl _, hd σ H p⟩
end L2

namespace L2
open PySem PySem.Spec PyProof.Rows

abbrev R2 := V → V → Hp → VK → Prop
/-- a two-place operation on values: f is binaryOp op, inplaceOp op or compareOp op -/
def OpR (X : Cx) (f : Value → Value → Sem Value) (r : R2) : Prop :=
  ∀ (pins : List (Addr × Obj)) (s : Shared) (σ : St) (H : Hp) (x y : V) (v u : Value) (Q : VK), Inv X pins σ H s → RelV x v → RelV y u → r x y H Q →
    wpAny (model X.prog X.w) X.A (f v u) (EP X pins σ Q) X.xe s
/-- a one-place operation -/
def UnR (X : Cx) (f : Value → Sem Value) (r : V → Hp → VK → Prop) : Prop :=
  ∀ (pins : List (Addr × Obj)) (s : Shared) (σ : St) (H : Hp) (x : V) (v : Value) (Q : VK), Inv X pins σ H s → RelV x v → r x H Q →
    wpAny (model X.prog X.w) X.A (f v) (EP X pins σ Q) X.xe s
/-- a call of a value that is known (a builtin, a type) with values -/
def CallR (X : Cx) (f : Value) (r : List V → Hp → VK → Prop) : Prop :=
  ∀ (pins : List (Addr × Obj)) (s : Shared) (σ : St) (H : Hp) (xs : List V) (us : List Value) (Q : VK), Inv X pins σ H s → Vals xs us → r xs H Q →
    wpAny (model X.prog X.w) X.A (call f us) (EP X pins σ Q) X.xe s
/-- a value's truth -/
def TruR (X : Cx) (r : V → Hp → (Bool → Hp → Prop) → Prop) : Prop :=
  ∀ (pins : List (Addr × Obj)) (s : Shared) (σ : St) (H : Hp) (x : V) (v : Value) (Q : Bool → Hp → Prop), Inv X pins σ H s → RelV x v → r x H Q →
    wpAny (model X.prog X.w) X.A (truthy v) (TP X pins σ Q) X.xe s

def tOp (r : R2) (ta tb : TE) : TE := fun σ H Q => ta σ H fun x H1 => tb σ H1 fun y H2 => r x y H2 Q
def tUn (r : V → Hp → VK → Prop) (ta : TE) : TE := fun σ H Q => ta σ H fun x H1 => r x H1 Q
/-- ints in, under C, and a value out -/
def rI (C : Int → Int → Prop) (g : Int → Int → V) : R2 := fun x y H Q => ∃ i j, x = .int i ∧ y = .int j ∧ C i j ∧ Q (g i j) H
def rI0 (g : Int → Int → V) : R2 := fun x y H Q => ∃ i j, x = .int i ∧ y = .int j ∧ Q (g i j) H
def rU (g : Int → V) : V → Hp → VK → Prop := fun x H Q => ∃ i, x = .int i ∧ Q (g i) H

section
variable {X : Cx} {a b c : Expr} {ta tb tc : TE} {pos : Pos}

theorem binT (ha : PE X a ta) (hb : PE X b tb) {pins : List (Addr × Obj)} {s : Shared} {σ : St} {H : Hp} {R : V → V → Hp → Prop} (I : Inv X pins σ H s)
    (h : ta σ H fun x H1 => tb σ H1 fun y H2 => R x y H2) {Q : Value → Shared → Prop} {f : Value → Value → Sem Value}
    (hf : ∀ v u s2 x y H2, Inv X pins σ H2 s2 → RelV x v → RelV y u → R x y H2 → wpAny (model X.prog X.w) X.A (f v u) Q X.xe s2) :
    wpAny (model X.prog X.w) X.A (eval a X.env) (fun v s₁ => wpAny (model X.prog X.w) X.A (eval b X.env) (fun u s₂ => wpAny (model X.prog X.w) X.A (f v u) Q X.xe s₂) X.xe s₁) X.xe s := by
  refine thn (ha pins s σ H _ I h) fun v s1 ⟨x, H1, I1, r1, q1⟩ => ?_
  refine thn (hb pins s1 σ H1 _ I1 q1) fun u s2 ⟨y, H2, I2, r2, q2⟩ => ?_
  exact hf v u s2 x y H2 I2 r1 r2 q2

theorem pe_op {op : Operator} {r : R2} (ho : OpR X (binaryOp op) r) (ha : PE X a ta) (hb : PE X b tb) : PE X (.BinOp a op b pos) (tOp r ta tb) := by
  intro pins s σ H Q I h
  exact wpAny_BinOp (binT ha hb I h fun v u s2 x y H2 I2 rx ry q => ho pins s2 σ H2 x y v u Q I2 rx ry q)
theorem pe_un {op : UnaryOp} {r : V → Hp → VK → Prop} (ho : UnR X (unaryOp op) r) (ha : PE X a ta) : PE X (.UnaryOp op a pos) (tUn r ta) := by
  intro pins s σ H Q I h
  exact UnaryOp_ (thn (ha pins s σ H _ I h) fun v s1 ⟨x, H1, I1, r1, q1⟩ => ho pins s1 σ H1 x v Q I1 r1 q1)

/-! ### ints -/
theorem opI {f : Value → Value → Sem Value} {C : Int → Int → Prop} {g : Int → Int → Int}
    (rule : ∀ (i j : Int) (t u : Tok) (s : Shared) (Q : Value → Shared → Prop) (E : Value → Shared → Prop), C i j → Q (.int (g i j) s.toks) { s with toks := s.toks + 1 } → wpAny (model X.prog X.w) X.A (f (.int i t) (.int j u)) Q E s) :
    OpR X f (rI C fun i j => .int (g i j)) := by
  intro pins s σ H x y v u Q I rx ry h
  obtain ⟨i, j, rfl, rfl, hc, q⟩ := h
  obtain ⟨t, rfl⟩ := rx
  obtain ⟨t', rfl⟩ := ry
  exact rule i j t t' s _ _ hc ⟨.int (g i j), H, I.tok _, ⟨_, rfl⟩, q⟩
theorem opI0 {f : Value → Value → Sem Value} {g : Int → Int → Int}
    (rule : ∀ (i j : Int) (t u : Tok) (s : Shared) (Q : Value → Shared → Prop) (E : Value → Shared → Prop), Q (.int (g i j) s.toks) { s with toks := s.toks + 1 } → wpAny (model X.prog X.w) X.A (f (.int i t) (.int j u)) Q E s) :
    OpR X f (rI0 fun i j => .int (g i j)) := by
  intro pins s σ H x y v u Q I rx ry h
  obtain ⟨i, j, rfl, rfl, q⟩ := h
  obtain ⟨t, rfl⟩ := rx
  obtain ⟨t', rfl⟩ := ry
  exact rule i j t t' s _ _ ⟨.int (g i j), H, I.tok _, ⟨_, rfl⟩, q⟩
theorem opB0 {f : Value → Value → Sem Value} {g : Int → Int → Bool}
    (rule : ∀ (i j : Int) (t u : Tok) (s : Shared) (Q : Value → Shared → Prop) (E : Value → Shared → Prop), Q (.bool (g i j)) s → wpAny (model X.prog X.w) X.A (f (.int i t) (.int j u)) Q E s) :
    OpR X f (rI0 fun i j => .bl (g i j)) := by
  intro pins s σ H x y v u Q I rx ry h
  obtain ⟨i, j, rfl, rfl, q⟩ := h
  obtain ⟨t, rfl⟩ := rx
  obtain ⟨t', rfl⟩ := ry
  exact rule i j t t' s _ _ ⟨.bl (g i j), H, I, rfl, q⟩

def CDiv (i j : Int) : Prop := 0 < j ∧ j < 1073741824
def CPow (i j : Int) : Prop := 0 ≤ j ∧ j ≤ 1000000 ∧ i.natAbs < 2 ^ 64
def CMul (i j : Int) : Prop := (-(2 ^ 64) < i ∧ i < 2 ^ 64) ∨ (-(2 ^ 64) < j ∧ j < 2 ^ 64)
theorem CMul.ok {i j : Int} (h : CMul i j) : IntMulOk i j := by
  rcases h with ⟨h1, h2⟩ | ⟨h1, h2⟩
  · exact .of_left (intBits_le_64 h1 h2)
  · exact .of_right (intBits_le_64 h1 h2)

theorem op_add : OpR X (binaryOp .Add) (rI0 fun i j => .int (i + j)) := opI0 fun _ _ _ _ _ _ _ q => add_int q
theorem op_sub : OpR X (binaryOp .Sub) (rI0 fun i j => .int (i - j)) := opI0 fun _ _ _ _ _ _ _ q => sub_int q
theorem op_mul : OpR X (binaryOp .Mult) (rI CMul fun i j => .int (i * j)) := opI fun _ _ _ _ _ _ _ hc q => mul_int q hc.ok
/-- // by a positive divisor -/
theorem op_fdiv : OpR X (binaryOp .FloorDiv) (rI CDiv fun i j => .int (i / j)) := opI fun i j _ _ _ _ _ hc q => by
  have h1 : (0 : Int) < j := hc.1
  have h2 : j < 1073741824 := hc.2
  exact floordiv_int (by omega) (by rw [Int.fdiv_eq_ediv_of_nonneg i (by omega)]; exact q) (.inl (PyProof.noPylong_small (by omega)))
/-- % by a positive divisor of any size -/
theorem op_mod : OpR X (binaryOp .Mod) (rI (fun _ j => 0 < j) fun i j => .int (i % j)) := opI fun i j _ _ _ _ _ hc q => by
  have h1 : (0 : Int) < j := hc
  exact mod_int' (by omega) (by rw [Int.fmod_eq_emod_of_nonneg i (by omega)]; exact q)
theorem op_pow : OpR X (binaryOp .Pow) (rI CPow fun i j => .int (i ^ j.toNat)) := opI fun _ _ _ _ _ _ _ hc q => pow_int_small hc.1 hc.2.1 hc.2.2 q


theorem unI {f : Value → Sem Value} {g : Int → Int}
    (rule : ∀ (i : Int) (t : Tok) (s : Shared) (Q : Value → Shared → Prop) (E : Value → Shared → Prop), Q (.int (g i) s.toks) { s with toks := s.toks + 1 } → wpAny (model X.prog X.w) X.A (f (.int i t)) Q E s) :
    UnR X f (rU fun i => .int (g i)) := by
  intro pins s σ H x v Q I rx h
  obtain ⟨i, rfl, q⟩ := h
  obtain ⟨t, rfl⟩ := rx
  exact rule i t s _ _ ⟨.int (g i), H, I.tok _, ⟨_, rfl⟩, q⟩
theorem un_neg : UnR X (unaryOp .USub) (rU fun i => .int (-i)) := unI fun _ _ _ _ _ q => neg_int q

/-! ### bools among ints: n += (a < b) -/
end

/-! ### comparisons -/
/-- the scalars that == tells apart as data does -/
def scal : V → V → Bool
  | .non, .non => true | .non, .int _ => true | .int _, .non => true | .non, .bl _ => true | .bl _, .non => true | .non, .str _ => true | .str _, .non => true
  | .int _, .int _ => true | .bl _, .bl _ => true | .str _, .str _ => true | .byt _, .byt _ => true
  | .int _, .str _ => true | .str _, .int _ => true | .bl _, .str _ => true | .str _, .bl _ => true
  | _, _ => false
def rEq : R2 := fun x y H Q => scal x y = true ∧ Q (.bl (decide (x = y))) H
def rNe : R2 := fun x y H Q => scal x y = true ∧ Q (.bl (!decide (x = y))) H

theorem dec_int {i j : Int} : decide (V.int i = V.int j) = (i == j) := by
  rw [Bool.eq_iff_iff]
  simp
theorem dec_bl {i j : Bool} : decide (V.bl i = V.bl j) = (i == j) := by
  rw [Bool.eq_iff_iff]
  simp
theorem dec_str {i j : Str} : decide (V.str i = V.str j) = (i == j) := by
  rw [Bool.eq_iff_iff]
  simp
theorem dec_byt {i j : Array UInt8} : decide (V.byt i = V.byt j) = (i.toList == j.toList) := by
  rw [Bool.eq_iff_iff]
  cases i
  cases j
  simp

section
variable {X : Cx} {a b c : Expr} {ta tb tc : TE} {pos : Pos}
theorem fin_bl {pins : List (Addr × Obj)} {σ : St} {H : Hp} {s : Shared} {Q : VK} {k k' : Bool} (I : Inv X pins σ H s) (q : Q (.bl k) H) (e : k = k') : EP X pins σ Q (.bool k') s := by
  subst e
  exact ⟨.bl k, H, I, rfl, q⟩
theorem op_eq : OpR X (compareOp .Eq) rEq := by
  intro pins s σ H x y v u Q I rx ry h
  obtain ⟨hs, q⟩ := h
  cases x with
  | non =>
    cases rx
    cases y with
    | non => cases ry; exact PySem.EqNone.eq_none_none (fin_bl I q (by simp))
    | bl j => cases ry; exact PySem.EqNone.eq_none_bool (fin_bl I q (by simp))
    | int j => obtain ⟨t', rfl⟩ := ry; exact PySem.EqNone.eq_none_int (fin_bl I q (by simp))
    | str j => obtain ⟨t', rfl⟩ := ry; exact PySem.EqNone.eq_none_str (fin_bl I q (by simp))
    | _ => exact absurd (show false = true from hs) Bool.false_ne_true
  | bl i =>
    cases rx
    cases y with
    | non => cases ry; exact PySem.EqNone.eq_bool_none (fin_bl I q (by simp))
    | bl j => cases ry; exact eq_bool (fin_bl I q dec_bl)
    | str j => obtain ⟨t', rfl⟩ := ry; exact PySem.EqMixed.eq_bool_str (fin_bl I q (by simp))
    | _ => exact absurd (show false = true from hs) Bool.false_ne_true
  | int i =>
    obtain ⟨t, rfl⟩ := rx
    cases y with
    | non => cases ry; exact PySem.EqNone.eq_int_none (fin_bl I q (by simp))
    | int j => obtain ⟨t', rfl⟩ := ry; exact eq_int (fin_bl I q dec_int)
    | str j => obtain ⟨t', rfl⟩ := ry; exact PySem.EqMixed.eq_int_str (fin_bl I q (by simp))
    | _ => exact absurd (show false = true from hs) Bool.false_ne_true
  | str i =>
    obtain ⟨t, rfl⟩ := rx
    cases y with
    | non => cases ry; exact PySem.EqNone.eq_str_none (fin_bl I q (by simp))
    | bl j => cases ry; exact PySem.EqMixed.eq_str_bool (fin_bl I q (by simp))
    | int j => obtain ⟨t', rfl⟩ := ry; exact PySem.EqMixed.eq_str_int (fin_bl I q (by simp))
    | str j => obtain ⟨t', rfl⟩ := ry; exact eq_str (fin_bl I q dec_str)
    | _ => exact absurd (show false = true from hs) Bool.false_ne_true
  | byt i =>
    obtain ⟨t, rfl⟩ := rx
    cases y with
    | byt j => obtain ⟨t', rfl⟩ := ry; exact PySem.W.eq_bytes (fin_bl I q dec_byt)
    | _ => exact absurd (show false = true from hs) Bool.false_ne_true
  | _ => cases y <;> exact absurd (show false = true from hs) Bool.false_ne_true
theorem op_ne : OpR X (compareOp .NotEq) rNe := by
  intro pins s σ H x y v u Q I rx ry h
  obtain ⟨hs, q⟩ := h
  cases x with
  | non =>
    cases rx
    cases y with
    | non => cases ry; exact PySem.EqNone.ne_none_none (fin_bl I q (by simp))
    | bl j => cases ry; exact PySem.EqNone.ne_none_bool (fin_bl I q (by simp))
    | int j => obtain ⟨t', rfl⟩ := ry; exact PySem.EqNone.ne_none_int (fin_bl I q (by simp))
    | str j => obtain ⟨t', rfl⟩ := ry; exact PySem.EqNone.ne_none_str (fin_bl I q (by simp))
    | _ => exact absurd (show false = true from hs) Bool.false_ne_true
  | bl i =>
    cases rx
    cases y with
    | non => cases ry; exact PySem.EqNone.ne_bool_none (fin_bl I q (by simp))
    | bl j => cases ry; exact ne_bool (fin_bl I q (congrArg not dec_bl))
    | str j => obtain ⟨t', rfl⟩ := ry; exact PySem.EqMixed.ne_bool_str (fin_bl I q (by simp))
    | _ => exact absurd (show false = true from hs) Bool.false_ne_true
  | int i =>
    obtain ⟨t, rfl⟩ := rx
    cases y with
    | non => cases ry; exact PySem.EqNone.ne_int_none (fin_bl I q (by simp))
    | int j => obtain ⟨t', rfl⟩ := ry; exact ne_int (fin_bl I q (congrArg not dec_int))
    | str j => obtain ⟨t', rfl⟩ := ry; exact PySem.EqMixed.ne_int_str (fin_bl I q (by simp))
    | _ => exact absurd (show false = true from hs) Bool.false_ne_true
  | str i =>
    obtain ⟨t, rfl⟩ := rx
    cases y with
    | non => cases ry; exact PySem.EqNone.ne_str_none (fin_bl I q (by simp))
    | bl j => cases ry; exact PySem.EqMixed.ne_str_bool (fin_bl I q (by simp))
    | int j => obtain ⟨t', rfl⟩ := ry; exact PySem.EqMixed.ne_str_int (fin_bl I q (by simp))
    | str j => obtain ⟨t', rfl⟩ := ry; exact ne_str (fin_bl I q (congrArg not dec_str))
    | _ => exact absurd (show false = true from hs) Bool.false_ne_true
  | byt i =>
    obtain ⟨t, rfl⟩ := rx
    cases y with
    | byt j => obtain ⟨t', rfl⟩ := ry; exact PySem.W.ne_bytes (fin_bl I q (congrArg not dec_byt))
    | _ => exact absurd (show false = true from hs) Bool.false_ne_true
  | _ => cases y <;> exact absurd (show false = true from hs) Bool.false_ne_true

theorem op_lt : OpR X (compareOp .Lt) (rI0 fun i j => .bl (decide (i < j))) := opB0 fun _ _ _ _ _ _ _ q => lt_int q
theorem op_gt : OpR X (compareOp .Gt) (rI0 fun i j => .bl (decide (j < i))) := opB0 fun _ _ _ _ _ _ _ q => gt_int q
theorem op_ge : OpR X (compareOp .GtE) (rI0 fun i j => .bl (decide (j ≤ i))) := opB0 fun _ _ _ _ _ _ _ q => ge_int q

/-- is None, is not None: the right side a value none -/
theorem op_isN : OpR X (compareOp .Is) (fun x y H Q => y = .non ∧ Q (.bl (decide (x = .non))) H) := by
  intro pins s σ H x y v u Q I rx ry h
  obtain ⟨rfl, q⟩ := h
  cases ry
  refine is_none_gen (fin_bl I q ?_)
  cases x <;> first
    | (cases rx; rfl)
    | (obtain ⟨t, rfl⟩ := rx; rfl)


/-- two rules for one operation: by cases -/
theorem OpR.or {f : Value → Value → Sem Value} {r r' : R2} (h : OpR X f r) (h' : OpR X f r') : OpR X f (fun x y H Q => r x y H Q ∨ r' x y H Q) := by
  intro pins s σ H x y v u Q I rx ry q
  rcases q with q | q
  · exact h pins s σ H x y v u Q I rx ry q
  · exact h' pins s σ H x y v u Q I rx ry q

theorem nomark (b : Expr) {op : CmpOp} (h : op ≠ .In := by decide) (h2 : op ≠ .NotIn := by decide) : behindInMarks op b = false := by
  have e1 : (op == CmpOp.In) = false := by cases op <;> first | rfl | exact absurd rfl h
  have e2 : (op == CmpOp.NotIn) = false := by cases op <;> first | rfl | exact absurd rfl h2
  cases b <;> simp [behindInMarks, e1, e2]
/-- a comparison as a value; hm: nomark b, or (for in, not in) by with_unfolding_all rfl -/
theorem pe_cmpR {op : CmpOp} {r : R2} (ho : OpR X (compareOp op) r) (ha : PE X a ta) (hb : PE X b tb) (hm : behindInMarks op b = false) : PE X (.Compare a [op] [b] pos) (tOp r ta tb) := by
  intro pins s σ H Q I h
  exact wpAny_Compare1 (binT ha hb I h fun v u s2 x y H2 I2 rx ry q => ho pins s2 σ H2 x y v u Q I2 rx ry q) hm
/-- a reading of a value as a test -/
def tTest (t : TE) : TT := fun σ H Q => t σ H fun x H' => ∃ k, x = .bl k ∧ Q k H'
theorem pt_cmpR {op : CmpOp} {r : R2} (ho : OpR X (compareOp op) r) (ha : PE X a ta) (hb : PE X b tb) (hm : behindInMarks op b = false) : PT X (.Compare a [op] [b] pos) (tTest (tOp r ta tb)) := by
  intro pins s σ H Q I h
  refine wpAny_isTrue_Compare1 (thn (ha pins s σ H _ I h) fun v s1 ⟨x, H1, I1, r1, q1⟩ => thn (hb pins s1 σ H1 _ I1 q1) fun u s2 ⟨y, H2, I2, r2, q2⟩ =>
    thn (ho pins s2 σ H2 x y v u _ I2 r1 r2 q2) fun c s3 ⟨z, H3, I3, r3, k, e, q3⟩ => ?_) hm
  subst e
  cases r3
  exact wpAny_truthy_bool ⟨H3, I3, q3⟩

/-! ### truth -/
/-- a value's truth by the abstract heap -/
def TruV (K : PySem.W.Frag) (x : V) (H : Hp) (k : Bool) : Prop :=
  match x with
  | .non => k = false
  | .bl b => k = b
  | .int i => k = (i != 0)
  | .str y => y.length ≤ sizeLine ∧ k = ((y.length : Int) != 0)
  | .byt y => y.size ≤ sizeLine ∧ k = ((y.size : Int) != 0)
  | .ref p => (∃ xs, SqL K H p xs ∧ k = !xs.isEmpty) ∨ (∃ xs, SqT K H p xs ∧ k = !xs.isEmpty) ∨ ∃ kvs, H p = some (.dK kvs) ∧ k = !kvs.isEmpty
  | _ => False
theorem isEmpty_kv {κ : Type} {kvs : List (κ × V)} {vs : List (κ × Value)} (r : KV kvs vs) : (!vs.isEmpty) = !kvs.isEmpty := by
  cases r <;> rfl
theorem isEmpty_of {xs : List V} {its : List Value} (r : Vals xs its) : (!its.toArray.isEmpty) = !xs.isEmpty := by
  cases r <;> simp
theorem line63 : (sizeLine : Nat) < 2 ^ 63 := by rw [sizeLine_eq]; decide
theorem tru_ok : TruR X (fun x H Q => ∃ k, TruV X.K x H k ∧ Q k H) := by
  intro pins s σ H x v Q I rx h
  obtain ⟨k, e, q⟩ := h
  have hl := line63
  have hs : sizeLine = 16777216 := sizeLine_eq
  cases x with
  | non =>
    cases rx
    have e' : k = false := e
    subst e'
    exact truthy_none ⟨H, I, q⟩
  | bl b =>
    cases rx
    have e' : k = b := e
    subst e'
    exact wpAny_truthy_bool ⟨H, I, q⟩
  | int i =>
    obtain ⟨t, rfl⟩ := rx
    have e' : k = (i != 0) := e
    subst e'
    exact PySem.P.truthy_int ⟨H, I, q⟩
  | str y =>
    obtain ⟨t, rfl⟩ := rx
    obtain ⟨hy, e'⟩ : y.length ≤ sizeLine ∧ k = ((y.length : Int) != 0) := e
    subst e'
    exact PySem.P.truthy_str (by omega) ⟨H, I.tok _, q⟩
  | byt y =>
    obtain ⟨t, rfl⟩ := rx
    obtain ⟨hy, e'⟩ : y.size ≤ sizeLine ∧ k = ((y.size : Int) != 0) := e
    subst e'
    exact PySem.W.truthy_bytes (by omega) ⟨H, I.tok _, q⟩
  | ref p =>
    cases rx
    have e' : (∃ xs, SqL X.K H p xs ∧ k = !xs.isEmpty) ∨ (∃ xs, SqT X.K H p xs ∧ k = !xs.isEmpty) ∨ ∃ kvs, H p = some (.dK kvs) ∧ k = !kvs.isEmpty := e
    rcases e' with ⟨xs, hx, e'⟩ | ⟨xs, hx, e'⟩ | ⟨kvs, hx, e'⟩
    · subst e'
      obtain ⟨its, r, pl, hz⟩ := I.list hx
      have hlen := r.length
      exact wpAny_truthy_list pl.isList (by simp only [List.size_toArray]; omega) ⟨H, I.tok _, by rw [isEmpty_of r]; exact q⟩
    · subst e'
      obtain ⟨its, r, pl, hz⟩ := I.tuple hx
      have hlen := r.length
      exact truthy_tuple pl (by simp only [List.size_toArray]; omega) ⟨H, I.tok _, by rw [isEmpty_of r]; exact q⟩
    · subst e'
      obtain ⟨hz, hS, vs, r, m⟩ : kvs.length ≤ sizeLine ∧ (p == sysModules) = false ∧ ∃ vs, KV kvs vs ∧ s.heap.DictOf (mixKind X.prog X.w) p vs := I.hok p _ hx
      have hlen : kvs.length = vs.length := Paired.length r
      exact wpAny_truthy_dict hS m (by omega) ⟨H, I.tok _, by rw [isEmpty_kv r]; exact q⟩
  | _ => exact (show False from e).elim

/-! ### strs and bytes -/
theorem op_add_str : OpR X (binaryOp .Add) (fun x y H Q => ∃ i j, x = .str i ∧ y = .str j ∧ i.length + j.length ≤ sizeLine ∧ Q (.str (i ++ j)) H) := by
  intro pins s σ H x y v u Q I rx ry h
  obtain ⟨i, j, rfl, rfl, hz, q⟩ := h
  obtain ⟨t, rfl⟩ := rx
  obtain ⟨t', rfl⟩ := ry
  exact add_str (fun t' tk => ⟨.str (i ++ j), H, I.tok _, ⟨_, rfl⟩, q⟩) hz


/-! ### scalar builtins, by CallR -/
theorem vals1 {x : V} {us : List Value} (r : Vals [x] us) : ∃ u, us = [u] ∧ RelV x u := by
  cases r with
  | cons r1 r2 => cases r2; exact ⟨_, rfl, r1⟩
theorem vals2 {x y : V} {us : List Value} (r : Vals [x, y] us) : ∃ u w', us = [u, w'] ∧ RelV x u ∧ RelV y w' := by
  cases r with
  | cons r1 r2 =>
    cases r2 with
    | cons r3 r4 => cases r4; exact ⟨_, _, rfl, r1, r3⟩
theorem call_max2 (hc : X.calm = true) : CallR X (.builtin "max") (fun xs H Q => ∃ i j, xs = [.int i, .int j] ∧ Q (.int (if j > i then j else i)) H) := by
  intro pins s σ H xs us Q I r h
  obtain ⟨i, j, rfl, q⟩ := h
  obtain ⟨u, w', rfl, ⟨t, rfl⟩, ⟨t', rfl⟩⟩ := vals2 r
  refine max_two_ints (I.ok.hd hc) fun h' tk k => ⟨_, H, I.kept k, ?_, q⟩
  by_cases hj : j > i
  · rw [if_pos hj, if_pos hj]; exact ⟨_, rfl⟩
  · rw [if_neg hj, if_neg hj]; exact ⟨_, rfl⟩
/-- len of a str, a bytes, a list, a tuple -/
def LenV (K : PySem.W.Frag) (x : V) (H : Hp) (n : Nat) : Prop :=
  match x with
  | .str y => y.length ≤ sizeLine ∧ n = y.length
  | .byt y => y.size ≤ sizeLine ∧ n = y.size
  | .ref p => (∃ xs, SqL K H p xs ∧ n = xs.length) ∨ ∃ xs, SqT K H p xs ∧ n = xs.length
  | _ => False
theorem call_len : CallR X (.builtin "len") (fun xs H Q => ∃ x n, xs = [x] ∧ LenV X.K x H n ∧ Q (.int n) H) := by
  intro pins s σ H xs us Q I r h
  obtain ⟨x, n, rfl, e, q⟩ := h
  obtain ⟨u, rfl, rx⟩ := vals1 r
  have hl := line63
  have hs : sizeLine = 16777216 := sizeLine_eq
  cases x with
  | str y =>
    obtain ⟨t, rfl⟩ := rx
    obtain ⟨hy, e'⟩ : y.length ≤ sizeLine ∧ n = y.length := e
    subst e'
    exact len_str (by omega) ⟨.int _, H, I.tok _, ⟨_, rfl⟩, q⟩
  | byt y =>
    obtain ⟨t, rfl⟩ := rx
    obtain ⟨hy, e'⟩ : y.size ≤ sizeLine ∧ n = y.size := e
    subst e'
    exact PySem.W.len_bytes (by omega) ⟨.int _, H, I.tok _, ⟨_, rfl⟩, q⟩
  | ref p =>
    cases rx
    have e' : (∃ xs, SqL X.K H p xs ∧ n = xs.length) ∨ ∃ xs, SqT X.K H p xs ∧ n = xs.length := e
    rcases e' with ⟨xs, hx, e'⟩ | ⟨xs, hx, e'⟩
    · subst e'
      obtain ⟨its, r', pl, hz⟩ := I.list hx
      have hlen := r'.length
      exact Calls.call_len_list pl.isList (by simp only [List.size_toArray]; omega) ⟨.int xs.length, H, I.tok _, ⟨_, by simp only [List.size_toArray]; rw [hlen]⟩, q⟩
    · subst e'
      obtain ⟨its, r', pl, hz⟩ := I.tuple hx
      have hlen := r'.length
      exact len_tuple pl (by simp only [List.size_toArray]; omega) ⟨.int xs.length, H, I.tok _, ⟨_, by simp only [List.size_toArray]; rw [hlen]⟩, q⟩
  | _ => exact (show False from e).elim
end
end L2

namespace L2
open PySem PySem.Spec PyProof.Rows

/-! ### an instance, its attributes a map -/
structure ObjM (h : Heap) (x dx C : Addr) (mA : Str → Option Value) : Prop where
  obj : h.get? x = some (PySem.W.instObj C dx)
  ns : h.Ns1 dx mA
  ne : dx ≠ x

theorem lookIn_ns {h : Heap} {dx : Addr} {mA : Str → Option Value} (n : h.Ns1 dx mA) : ∃ od, h.get? dx = some od ∧ ∀ name, PySem.W.lookIn name od = some (mA name) := by
  obtain ⟨o, es, ep, ho, hd, hk, _, hm⟩ := n
  refine ⟨o, ho, fun name => ?_⟩
  have e := hm name
  unfold nsFind findBy at e
  rw [← Array.find?_toList] at e
  unfold PySem.W.lookIn
  rw [hd]
  dsimp only
  split
  · rename_i y q
    rw [q] at e
    exact congrArg some e
  · rename_i q
    rw [q] at e
    have a : es.toList.any (·.refKey) = false := by
      rw [List.any_eq_false]
      intro y hy
      obtain ⟨z, t, hkey⟩ := hk y (Array.mem_toList_iff.mp hy)
      simp [DictEntry.refKey, hkey]
    have a' : ¬ es.toList.any (·.refKey) = true := by rw [a]; exact Bool.false_ne_true
    rw [if_neg a']
    exact congrArg some e

theorem ObjM.look {h : Heap} {x dx C : Addr} {mA : Str → Option Value} (I : ObjM h x dx C mA) : ∃ od, PySem.W.InstAt h x (PySem.W.instObj C dx) C (some od) ∧ ∀ name, PySem.W.lookIn name od = some (mA name) :=
  let ⟨od, ho, hl⟩ := lookIn_ns I.ns
  ⟨od, ⟨I.obj, rfl, rfl, ho⟩, hl⟩

section
variable {prog : Program} {w : World} {A : Around} {E : Value → Shared → Prop} {s : Shared} {K : PySem.W.Frag} {x dx C f : Addr} {mA : Str → Option Value} {name : Str} {v : Value}





end

/-! ### the attributes as a list of pairs -/

theorem RelO.some_of {v : V} {o : Option Value} (r : RelO (some v) o) : ∃ u, o = some u ∧ RelV v u := by
  cases o with
  | none => exact (show False from r).elim
  | some u => exact ⟨u, rfl, r⟩

section
variable {P : Program} {w : World} {H H' : Hp} {h h' : Heap} {a C dx : Addr} {fs fs' : List (Str × V)}
theorem ins_get (hok : HOk P w H h) (e : H a = some (.ins C dx fs)) : ∃ mA, ObjM h a dx C mA ∧ (∀ f, RelO (fs.lookup f) (mA f)) ∧ PySem.Within mA (fs.map (·.1)) ∧ fs.length ≤ 1000 ∧ H dx = some (.own a) := by
  obtain ⟨d, z, ne, ob, mA, n, r, q⟩ := (show ObjOk P w H h a (.ins C dx fs) from hok a _ e)
  exact ⟨mA, ⟨ob, n, ne⟩, r, q, z, d⟩
end

/-! ### what of the text a class must have -/
structure Cls (K : PySem.W.Frag) (C : Addr) : Prop where
  pg : PySem.W.plainGet K C Str.empty = true
  hd : PySem.W.hasDictIn K C = true
  po : PySem.W.plainOver K C = true
  sa : PySem.W.findIn K (.ref C) "__setattr__" = some (some (.builtin "object.__setattr__"))
theorem Cls.get {K : PySem.W.Frag} {C : Addr} (c : Cls K C) (f : Str) : PySem.W.plainGet K C f = true := c.pg

section
variable {X : Cx} {pins : List (Addr × Obj)} {σ : St} {H : Hp} {s : Shared} {a C dx : Addr} {fs : List (Str × V)} {f : Str} {v : V} {A : Around} {E : Value → Shared → Prop}






end

/-! ### readings and rules -/

section
variable {X : Cx} {o e value : Expr} {f : Str} {pos pos' tpos : Pos} {ta tv : TE}

end

/-! ### isinstance -/
section
variable {X : Cx} {pins : List (Addr × Obj)} {σ : St} {H : Hp} {s : Shared} {A : Around} {E : Value → Shared → Prop} {Q : Value → Shared → Prop} {c : Value} {b : Bool}
/-- the type of a value, as the fragment's deciders take it; for an instance its class -/
inductive TyOf (K : PySem.W.Frag) (H : Hp) : V → Value → Prop where
  | non : TyOf K H .non (.type "NoneType")
  | bl (x : Bool) : TyOf K H (.bl x) (.type "bool")
  | int (i : Int) : TyOf K H (.int i) (.type "int")
  | str (x : Str) : TyOf K H (.str x) (.type "str")
  | flt (x : UInt64) : TyOf K H (.flt x) (.type "float")
  | lst {a : Addr} {xs : List V} (e : H a = some (.lst xs)) : TyOf K H (.ref a) (.type "list")
  | frz {a : Addr} {o : Obj} {xs : List V} (e : H a = some (.frz o (.lst xs))) : TyOf K H (.ref a) (.type "list")
  | tup {a : Addr} {xs : List V} (e : H a = some (.tup xs)) : TyOf K H (.ref a) (.type "tuple")
  | dK {a : Addr} {kvs : List (Key × V)} (e : H a = some (.dK kvs)) : TyOf K H (.ref a) (.type "dict")
  | dT {a : Addr} {kvs : List (List Key × V)} (e : H a = some (.dT kvs)) : TyOf K H (.ref a) (.type "dict")
  | ins {a C dx : Addr} {fs : List (Str × V)} (e : H a = some (.ins C dx fs)) (cl : Cls K C) (ha : PySem.W.findIn K (.ref C) "__class__" = some (some (.builtin "object.__class__")))
      (hn : PySem.W.specialIn K (.builtin "object.__class__") "__get__" = some (some (.builtin "getset_descriptor.__get__"))) (htk : PySem.W.takesIn K (.builtin "object.__class__") = some true)
      (hm : PySem.W.mroIn K C (.type "object") = some true) : TyOf K H (.ref a) (.ref C)
/-- isinstance(x, c) for one class c, a built-in or an own one: kitOne's answer -/
theorem isinst_ok {x : V} {u t : Value} (I : Inv X pins σ H s) (rx : RelV x u) (ty : TyOf X.K H x t) (e : PySem.W.kitOne X.K t c = some b) (h : ∀ tk, Q (.bool b) { s with toks := tk }) :
    wpAny (model X.prog X.w) A (call (.builtin "isinstance") [u, c]) Q E s := by
  cases ty with
  | non => cases (show u = Value.none from rx); exact PySem.W.kia_one PySem.W.kitx_none I.kIn True.intro e (fun z => nomatch z) h
  | bl y => cases (show u = Value.bool y from rx); exact PySem.W.kia_one PySem.W.kitx_bool I.kIn True.intro e (fun z => nomatch z) h
  | int i => obtain ⟨t, q⟩ := (show ∃ t, u = Value.int i t from rx); cases q; exact PySem.W.kia_one PySem.W.kitx_int I.kIn True.intro e (fun z => nomatch z) h
  | str y => obtain ⟨t, q⟩ := (show ∃ t, u = Value.str y t from rx); cases q; exact PySem.W.kia_one PySem.W.kitx_str I.kIn True.intro e (fun z => nomatch z) h
  | flt y => obtain ⟨t, q⟩ := (show ∃ t, u = Value.float y t from rx); cases q; exact PySem.W.kia_one PySem.W.kitx_float I.kIn True.intro e (fun z => nomatch z) h
  | @lst a xs ea =>
    cases (show u = Value.ref a from rx)
    obtain ⟨_, _, n, _, h1⟩ := (show ObjOk X.prog X.w H s.heap a (.lst xs) from I.hok a _ ea)
    exact PySem.W.kia_one PySem.W.kitx_list I.kIn ⟨_, h1, rfl⟩ e (fun z => nomatch z) h
  | @frz a ob xs ea =>
    cases (show u = Value.ref a from rx)
    obtain ⟨_, _, _, n, _, h1⟩ := (show ObjOk X.prog X.w H s.heap a (.frz ob (.lst xs)) from I.hok a _ ea)
    exact PySem.W.kia_one PySem.W.kitx_list I.kIn ⟨_, h1, rfl⟩ e (fun z => nomatch z) h
  | @tup a xs ea =>
    cases (show u = Value.ref a from rx)
    obtain ⟨_, _, _, p, _⟩ := (show ObjOk X.prog X.w H s.heap a (.tup xs) from I.hok a _ ea)
    obtain ⟨o, h1, h2, _⟩ := p
    exact PySem.W.kia_one PySem.W.kitx_tuple I.kIn ⟨o, h1, h2⟩ e (fun z => nomatch z) h
  | @dK a kvs ea =>
    cases (show u = Value.ref a from rx)
    obtain ⟨_, _, vs, _, p⟩ := (show ObjOk X.prog X.w H s.heap a (.dK kvs) from I.hok a _ ea)
    obtain ⟨o, es, ep, h1, h2, _⟩ := p
    exact PySem.W.kia_one PySem.W.kitx_dict I.kIn ⟨o, h1, h2.1⟩ e (fun z => nomatch z) h
  | @dT a kvs ea =>
    cases (show u = Value.ref a from rx)
    obtain ⟨_, _, xs, _, o, es, ep, h1, h2, _⟩ := (show ObjOk X.prog X.w H s.heap a (.dT kvs) from I.hok a _ ea)
    exact PySem.W.kia_one PySem.W.kitx_dict I.kIn ⟨o, h1, h2.1⟩ e (fun z => nomatch z) h
  | @ins a C dx fs ea cl ha hn htk hm =>
    cases (show u = Value.ref a from rx)
    obtain ⟨mA, O, _⟩ := ins_get I.hok ea
    obtain ⟨od, J, _⟩ := O.look
    exact PySem.W.kia_one (PySem.W.kitx_own (cl.get _) cl.hd ha hn htk hm) I.kIn J e (fun z => nomatch z) h
end
end L2

namespace L2
open PySem PySem.Spec PyProof.Rows

/-! ### room -/
structure Room (k : Nat) (A : Around) : Prop where
  hd : A.handled = none
  dp : A.depth + 3 * k + 5 < recursionLimit
  un : A.units + 16 * k + 200 < cLine
theorem Room.mono {j k : Nat} {A : Around} (r : Room k A) (h : j ≤ k) : Room j A := ⟨r.hd, by have := r.dp; omega, by have := r.un; omega⟩
theorem Room.deeper {k : Nat} {A : Around} (r : Room (k + 1) A) (env : Env) : Room k (A.deeper env) :=
  ⟨r.hd, by have := r.dp; show A.depth + 1 + 3 * k + 5 < _; omega, by have := r.un; show A.units + 3 + 16 * k + 200 < _; omega⟩
theorem Room.depth {k : Nat} {A : Around} (r : Room k A) : A.depth < recursionLimit := by have := r.dp; omega
theorem Room.units {k : Nat} {A : Around} (r : Room k A) : A.units + 64 < cLine := by have := r.un; omega

/-! ### argument lists and displays -/
def tNil : TA := fun _ H Q => Q [] H
def tCons (ta : TE) (tr : TA) : TA := fun σ H Q => ta σ H fun x H1 => tr σ H1 fun xs H2 => Q (x :: xs) H2
section
variable {X : Cx} {e : Expr} {es : List Expr} {te : TE} {t : TA} {pos : Pos}
theorem pa_nil : PA X [] tNil := fun _ _ _ _ H Q I h => Calls.spliced_nil ⟨[], H, I, .nil, h⟩
theorem pa_cons (ha : PE X e te) (hr : PA X es t) (hs : starEach (e :: es) X.env = (false, eval e X.env) :: starEach es X.env := by rfl) : PA X (e :: es) (tCons te t) := by
  intro pos pins s σ H Q I h
  rw [hs]
  show wpAny _ _ (spliced ((false, eval e X.env) :: backTo pos (starEach es X.env))) _ _ s
  refine Calls.spliced_cons (thn (ha pins s σ H _ I h) fun u s1 ⟨x, H1, I1, r1, q1⟩ => ?_)
  exact thn (hr pos pins s1 σ H1 _ I1 q1) fun us s2 ⟨xs, H2, I2, r2, q2⟩ => ⟨x :: xs, H2, I2, .cons r1 r2, q2⟩

/-- a tuple, a list of written items -/
def tTup (t : TA) : TE := fun σ H Q => t σ H fun xs H1 => xs.length ≤ sizeLine ∧ ∀ p, H1 p = none → Q (.ref p) (upd H1 p (.tup xs))
def tLst (t : TA) : TE := fun σ H Q => t σ H fun xs H1 => xs.length ≤ sizeLine ∧ ∀ p, H1 p = none → Q (.ref p) (upd H1 p (.lst xs))
theorem pe_tup {x1} (h : PA X es t) : PE X (.Tuple es x1 pos) (tTup t) := by
  intro pins s σ H Q I hq
  refine wpAny_Tuple_spliced (thn (h pos pins s σ H _ I hq) fun us s1 ⟨xs, H1, I1, r, z, q⟩ => ⟨by rw [← r.length]; exact z, ?_⟩)
  have hf : H1 s1.heap.objs.size = none := I1.hok.fresh (Nat.le_refl _)
  refine ⟨.ref s1.heap.objs.size, upd H1 s1.heap.objs.size (.tup xs), I1.laid (t' := s1.toks) (fun b u e => Heap.get?_push_of_some _ e) (Nat.le_refl _) ?_, rfl, q _ hf⟩
  exact ⟨z, us, r, ⟨_, Heap.get?_push_size _ rfl, rfl, _, rfl⟩, noD_push rfl rfl⟩
theorem pe_lst (h : PA X es t) : PE X (.List es pos) (tLst t) := by
  intro pins s σ H Q I hq
  refine wpAny_List_spliced (thn (h pos pins s σ H _ I hq) fun us s1 ⟨xs, H1, I1, r, z, q⟩ => ⟨by rw [← r.length]; exact z, ?_⟩)
  have hf : H1 s1.heap.objs.size = none := I1.hok.fresh (Nat.le_refl _)
  refine ⟨.ref s1.heap.objs.size, upd H1 s1.heap.objs.size (.lst xs), I1.laid (t' := s1.toks) (fun b u e => Heap.get?_push_of_some _ e) (Nat.le_refl _) ?_, rfl, q _ hf⟩
  exact ⟨z, us, 0, r, Heap.get?_push_size _ rfl⟩
end

/-! ### what a def promises -/
/-- a def's promise: the bound arguments in the parameters' order, the heap, the wanted end, the wanted exception -/
abbrev Sp := List V → Hp → VK → XK → Prop
/-- how an exception lies behind a call (file 08 gives it): the callers' frames, abstract heap and state ahead of the call, the wish, the exception, the state -/
abbrev CXT := List Env → Hp → Shared → XK → Value → Shared → Prop

/-- the state at a call -/
structure Env0 (P : Program) (w : World) (K : PySem.W.Frag) (mg : Str → Option Value) (base : Heap) (A : Around) (outer : List Env) (s : Shared) (H : Hp) : Prop where
  frames : A.frames = some outer
  mod : Mod K mg base
  bs : ∀ b o, base.get? b = some o → s.heap.get? b = some o ∧ H b = none
  bsz : base.objs.size ≤ s.heap.objs.size
  funs : s.heap.FunFrames base outer
  frf : ∀ b ∈ frs outer, H b = none
  hok : HOk P w H s.heap
  bare : AllBare s.gens
/-- a call's end -/
def CE (outer : List Env) (P : Program) (w : World) (H : Hp) (s : Shared) (Q : VK) (u : Value) (s' : Shared) : Prop :=
  ∃ v H', s'.os = s.os ∧ AllBare s'.gens ∧ Un (frs outer) [] H H' s.heap s'.heap ∧ HOk P w H' s'.heap ∧ RelV v u ∧ Q v H'
def CR (CX : CXT) (outer : List Env) (P : Program) (w : World) (H : Hp) (s : Shared) (Q : VK) (E : XK) (r : Result) (s' : Shared) : Prop :=
  match r with
  | .ok (.ret u) => CE outer P w H s Q u s'
  | .ok _ => False
  | .error e => CX outer H s E e s'
structure FnOk (P : Program) (w : World) (K : PySem.W.Frag) (mg : Str → Option Value) (base : Heap) (CX : CXT) (k : Nat) (f : Addr) (fd : FuncData) (ps : List Str) (sp : Sp) : Prop where
  len : ∀ vs H Q E, sp vs H Q E → vs.length = ps.length
  run : ∀ (A : Around) (outer : List Env) (s : Shared) (H : Hp) (args : Args) (us : List Value) (vs : List V) (Q : VK) (E : XK), Room k A → Env0 P w K mg base A outer s H → BindsTo s fd args (ps.zip us) → Vals vs us → sp vs H Q E →
    codeAny (model P w) A (.call (.ref f) args) (CR CX outer P w H s Q E) s
theorem FnOk.mono {P : Program} {w : World} {K : PySem.W.Frag} {mg : Str → Option Value} {base : Heap} {CX : CXT} {j k : Nat} {f : Addr} {fd : FuncData} {ps : List Str} {sp : Sp} (F : FnOk P w K mg base CX j f fd ps sp) (h : j ≤ k) :
    FnOk P w K mg base CX k f fd ps sp := ⟨F.len, fun A outer s H args us vs Q E hr => F.run A outer s H args us vs Q E (hr.mono h)⟩


section
variable {X : Cx} {pins : List (Addr × Obj)} {σ : St} {H : Hp} {s s' : Shared}
/-- from a body: what a callee wants -/
theorem Inv.env0 (I : Inv X pins σ H s) : Env0 X.prog X.w X.K X.mg X.base X.A X.stack s H :=
  ⟨I.ok.frames, I.ok.mod, I.bs, Nat.le_trans I.ok.bsz I.sz, I.stack, I.stkFree, I.hok, I.bare⟩
/-- behind a call -/
theorem Inv.after {Q : VK} {u : Value} (I : Inv X pins σ H s) (h : CE X.stack X.prog X.w H s Q u s') : EP X pins σ Q u s' := by
  obtain ⟨v, H', os, bare, un, hok, r, q⟩ := h
  obtain ⟨hh, g, d, t, os'⟩ := s'
  obtain rfl : os' = s.os := os
  exact ⟨v, H', I.call (h' := hh) (g' := g) (d' := d) (t' := t) (ch := []) un hok bare (fun b z => absurd z (by simp)), r, q⟩
end

/-! ### calls -/
/-- f(..): the written arguments, then the defaults dvs; E: what is wanted of an exception -/
def tCall (sp : Sp) (dvs : List V) (E : XK) (t : TA) : TE := fun σ H Q => t σ H fun vs H1 => sp (vs ++ dvs) H1 Q E

/-- how the parameters are bound: us the positional arguments, kw the keywords' values by name, ds the defaults that fill up -/
def Binds (K : PySem.W.Frag) (fd : FuncData) (ps : List Str) (ds : List Value) : Prop :=
  ∀ (s : Shared) (us : List Value), K.In s.heap → (us ++ ds).length = ps.length → BindsTo s fd ⟨us, []⟩ (ps.zip (us ++ ds))
/-- every parameter is given -/
theorem Binds.all {K : PySem.W.Frag} {fd : FuncData} {ps : List Str} (h : ∀ us : List Value, us.length = ps.length → bindArgs fd ⟨us, []⟩ = pure (ps.zip us)) : Binds K fd ps [] := fun s us _ hl => by
  rw [List.append_nil] at hl ⊢
  exact .of_eq (h us hl)

/-- an exception of a callee reaches what this body wants of exceptions -/
def Passes (CX : CXT) (X : Cx) (E : XK) : Prop := ∀ (pins : List (Addr × Obj)) (σ : St) (H : Hp) (s : Shared) (e : Value) (s' : Shared), Inv X pins σ H s → CX X.stack H s E e s' → X.xe e s'

section
variable {X : Cx} {CX : CXT} {k : Nat} {f C : Addr} {fd : FuncData} {ps : List Str} {sp : Sp} {dvs : List V} {ds : List Value} {E : XK} {x m : Str} {p pos apos : Pos} {e o : Expr} {es : List Expr} {ta : TE} {t : TA}

/-- the callee runs -/
theorem run_fn {pins : List (Addr × Obj)} {σ : St} {H : Hp} {s : Shared} {Q : VK} {us : List Value} {vs : List V} (F : FnOk X.prog X.w X.K X.mg X.base CX k f fd ps sp) (hr : Room k X.A) (hb : Binds X.K fd ps ds) (hd : Vals dvs ds) (hx : Passes CX X E)
    (I : Inv X pins σ H s) (r : Vals vs us) (h : sp (vs ++ dvs) H Q E) : wpAny (model X.prog X.w) X.A (call (.ref f) us) (EP X pins σ Q) X.xe s := by
  have r2 : Vals (vs ++ dvs) (us ++ ds) := r.append hd
  have hl : (us ++ ds).length = ps.length := by rw [← r2.length]; exact F.len _ _ _ _ h
  refine wpAny_call (codeAny_mono (F.run X.A X.stack s H ⟨us, []⟩ (us ++ ds) (vs ++ dvs) Q E hr I.env0 (hb s us I.kIn hl) r2 h) fun r s' hq => ?_)
  cases r with
  | error e => exact hx pins σ H s e s' I hq
  | ok fl =>
    cases fl with
    | ret u => exact I.after hq
    | next => exact False.elim hq
    | brk => exact False.elim hq
    | cont => exact False.elim hq

theorem pe_call (F : FnOk X.prog X.w X.K X.mg X.base CX k f fd ps sp) (hr : Room k X.A) (hg : Gl X x) (hm : X.mg x = some (.ref f)) (hk : PySem.W.keepIn X.K (.ref f) = true) (hb : Binds X.K fd ps ds) (hd : Vals dvs ds) (hx : Passes CX X E)
    (ha : PA X (e :: es) t) (hdb : (x == ("__debug__" : Str)) = false := by decide) (he : starEach (e :: es) X.env = (false, eval e X.env) :: starEach es X.env := by rfl) (hpl : (backTo pos (starEach es X.env)).any (·.1) = false := by rfl) :
    PE X (.Call (.Name x p) (e :: es) [] pos) (tCall sp dvs E t) := by
  intro pins s σ H Q I h
  refine wpAny_Call_Name_kw (ld_glob I hg hm ?_ hdb)
  refine PySem.W.callWith_K (h₀ := X.base) I.ok.mod.kin hk (thn (ha pos pins s σ H _ I h) fun us s1 ⟨vs, H1, I1, r, q⟩ => ⟨I1.kIn, ?_⟩) he hpl
  exact run_fn F hr hb hd hx I1 r q



end

/-! ### keywords -/
section
variable {X : Cx} {CX : CXT} {k : Nat} {f C : Addr} {fd : FuncData} {ps ks : List Str} {sp : Sp} {E : XK} {x m : Str} {p pos apos kpos : Pos} {e o : Expr} {es : List Expr} {kws : List Keyword} {te ta : TE} {t tk : TA} {nm : Option Str}

variable {g : List Value → List Value → List Value} {gV : List V → List V → List V}
end

/-! ### a def's body keeps its promise -/
/-- names: the parameters first -/
structure FnScope (N P : List Str) (sc : Scope) : Prop where
  kind : sc.kind = .function
  co : sc.isCoroutine = false
  gen : sc.isGenerator = false
  nd : N.Nodup
  pre : N.take P.length = P
  par : ∀ x ∈ P, sc.names.lookup x = some .local ∨ sc.names.lookup x = some .cell
  nofree : ∀ y ∈ sc.names, y.2 ≠ .free

theorem bindL_out {kindOf : Str → Option NameKind} {x : Str} : ∀ {binds : List (Str × Value)} {m : Str → Option Value}, (∀ v, (x, v) ∉ binds) → bindL kindOf binds m x = m x
  | [], _, _ => rfl
  | (n, v) :: r, m, h => by
    unfold bindL
    rw [bindL_out fun w hw => h w (List.mem_cons_of_mem _ hw)]
    split
    · have : x ≠ n := by rintro rfl; exact h v List.mem_cons_self
      simp [this]
    · rfl
theorem bindC_out {kindOf : Str → Option NameKind} {x : Str} : ∀ {binds : List (Str × Value)} {m : Str → Option Value}, (∀ v, (x, v) ∉ binds) → bindC kindOf binds m x = m x
  | [], _, _ => rfl
  | (n, v) :: r, m, h => by
    unfold bindC
    rw [bindC_out fun w hw => h w (List.mem_cons_of_mem _ hw)]
    split
    · rfl
    · have : x ≠ n := by rintro rfl; exact h v List.mem_cons_self
      simp [this]
theorem bindL_get {kindOf : Str → Option NameKind} {x : Str} {v : Value} : ∀ {P : List Str} {vs : List Value} {i : Nat} {m : Str → Option Value}, P.Nodup → P[i]? = some x → vs[i]? = some v → kindOf x = some .local →
    bindL kindOf (P.zip vs) m x = some v
  | [], _, _, _, _, h, _, _ => by simp at h
  | _ :: _, [], _, _, _, _, h, _ => by simp at h
  | p :: P, w :: vs, 0, m, nd, h1, h2, hk => by
    simp at h1 h2; subst h1; subst h2
    show bindL kindOf ((p, w) :: P.zip vs) m p = _
    unfold bindL
    rw [bindL_out fun v hv => (List.nodup_cons.mp nd).1 (List.of_mem_zip hv).1, if_pos hk]
    simp
  | p :: P, w :: vs, i + 1, m, nd, h1, h2, hk => by
    show bindL kindOf ((p, w) :: P.zip vs) m x = _
    unfold bindL
    exact bindL_get (i := i) (List.nodup_cons.mp nd).2 (by simpa using h1) (by simpa using h2) hk
theorem bindC_get {kindOf : Str → Option NameKind} {x : Str} {v : Value} : ∀ {P : List Str} {vs : List Value} {i : Nat} {m : Str → Option Value}, P.Nodup → P[i]? = some x → vs[i]? = some v → kindOf x ≠ some .local →
    bindC kindOf (P.zip vs) m x = some v
  | [], _, _, _, _, h, _, _ => by simp at h
  | _ :: _, [], _, _, _, _, h, _ => by simp at h
  | p :: P, w :: vs, 0, m, nd, h1, h2, hk => by
    simp at h1 h2; subst h1; subst h2
    show bindC kindOf ((p, w) :: P.zip vs) m p = _
    unfold bindC
    rw [bindC_out fun v hv => (List.nodup_cons.mp nd).1 (List.of_mem_zip hv).1, if_neg hk]
    simp
  | p :: P, w :: vs, i + 1, m, nd, h1, h2, hk => by
    show bindC kindOf ((p, w) :: P.zip vs) m x = _
    unfold bindC
    exact bindC_get (i := i) (List.nodup_cons.mp nd).2 (by simpa using h1) (by simpa using h2) hk

/-- the names' values at the entry -/
def start (N : List Str) (vs : List V) : St := vs.map some ++ List.replicate (N.length - vs.length) none

/-- the context of a def's body, at its entry; an exception leaves the frame, then lies as CX says -/
def cxOf (CX : CXT) (P : Program) (w : World) (K : PySem.W.Frag) (mg : Str → Option Value) (base : Heap) (N : List Str) (qual : Str) (scope : Scope) (f : Addr) (cd : Value) (A : Around) (outer : List Env) (s : Shared) (H : Hp) (E : XK) : Cx where
  prog := P
  w := w
  K := K
  mg := mg
  base := base
  A := A.deeper (envOfC qual scope s.heap.objs.size f cd)
  N := N
  s₀ := s
  H₀ := H
  env := envOfC qual scope s.heap.objs.size f cd
  outer := outer
  stack := envOfC qual scope s.heap.objs.size f cd :: outer
  ex := []
  calm := true
  fn := fun _ => true
  pn := []
  xe := fun e s' => wpAny (model P w) (A.deeper (envOfC qual scope s.heap.objs.size f cd)) (leaving (envOfC qual scope s.heap.objs.size f cd) e) (fun _ s'' => CX outer H s E e s'') (fun e' s'' => CX outer H s E e' s'') s'

theorem cell_has {sc : Scope} {n : Nat} {x : Str} (h : sc.names.lookup x = some .cell) : ∃ c, (cellsFrom n sc.names []).lookup x = some c := by
  have q := PySem.W.cellsFrom_some sc.names n [] (.inl h)
  exact Option.isSome_iff_exists.mp q

theorem inv_start {CX : CXT} {P : Program} {w : World} {K : PySem.W.Frag} {mg : Str → Option Value} {base : Heap} {N ps : List Str} {qual : Str} {scope : Scope} {f : Addr} {cd : Value} {A : Around} {outer : List Env} {s s1 : Shared} {H : Hp} {E : XK} {us : List Value} {vs : List V}
    (S : FnScope N ps scope) (hd : A.handled = none) (e0 : Env0 P w K mg base A outer s H) (hl : vs.length = ps.length) (r : Vals vs us)
    (x : InCallC s s.heap.objs.size (bindL (envOfC qual scope s.heap.objs.size f cd).kindOf (ps.zip us) fun _ => none) (cellsFrom (s.heap.objs.size + 1) scope.names []) (bindC (envOfC qual scope s.heap.objs.size f cd).kindOf (ps.zip us) fun _ => none) s1) :
    Inv (cxOf CX P w K mg base N qual scope f cd A outer s H E) [] (start N vs) H s1 := by
  have hpl : ps.length ≤ N.length := by have := congrArg List.length S.pre; rw [List.length_take] at this; omega
  obtain ⟨h1, tk, rfl, hk⟩ := x.done
  have noA : ∀ b : Addr, b ∉ (cxOf CX P w K mg base N qual scope f cd A outer s H E).ex := fun b z => absurd (show b ∈ ([] : List Addr) from z) (by simp)
  refine ⟨⟨e0.mod, S.kind, rfl, rfl, Nat.le_refl _, fun y z c h1 h2 => ?_, fun y hy => ?_, fun y c _ h => ?_, fun _ => hd, Around.frames_deeper e0.frames, .inr ⟨rfl, rfl⟩, fun b z => absurd z (noA b), e0.bs, e0.bsz, fun b _ _ => noA b, fun b z => absurd z (noA b), e0.funs, e0.frf⟩,
    rfl, e0.bare, Un.kept hk, ⟨_, x.toInCall.ns, fun i y v h1 h2 h3 => ?_⟩, fun y c h => ⟨_, x.cell y c h⟩, e0.hok.fresh (Nat.le_refl _), fun y c h => ?_, fun p hp => absurd (show p ∈ ([] : List (Addr × Obj)) from hp) (by simp), e0.hok.kept hk, ?_⟩
  · exact name_of_addr x.apart (PySem.mem_of_lookup h1) (PySem.mem_of_lookup h2)
  · have hy : scope.names.lookup y = some .cell ∨ scope.names.lookup y = some .free := hy
    rcases hy with hy | hy
    · exact cell_has hy
    · exact absurd rfl (S.nofree _ (PySem.mem_of_lookup hy))
  · exact Nat.le_of_lt (x.above y c (PySem.mem_of_lookup h))
  · have hi : i < vs.length := by
      unfold start at h2
      by_cases hi : i < vs.length
      · exact hi
      · rw [List.getElem?_append_right (by simpa using hi)] at h2
        rw [List.getElem?_replicate] at h2
        split at h2 <;> cases h2
    have ha : vs[i]? = some v := by
      unfold start at h2
      rw [List.getElem?_append_left (by simpa using hi), List.getElem?_map] at h2
      cases e : vs[i]? with
      | none => rw [e] at h2; cases h2
      | some a => rw [e] at h2; cases h2; rfl
    obtain ⟨u, hu, rv⟩ := r.get ha
    have hp : ps[i]? = some y := by
      rw [← S.pre, List.getElem?_take_of_lt (by omega)]; exact h1
    have ndP : ps.Nodup := by rw [← S.pre]; exact S.nd.sublist (List.take_sublist _ _)
    refine ⟨u, rv, ?_⟩
    rcases S.par y (List.mem_of_getElem? hp) with k | k
    · exact .inl ⟨k, bindL_get ndP hp hu k⟩
    · obtain ⟨c, e⟩ := cell_has (n := s.heap.objs.size + 1) k
      refine .inr ⟨.inl k, c, e, ?_⟩
      have q := x.cell y c e
      rw [bindC_get ndP hp hu (by show scope.names.lookup y ≠ _; rw [k]; decide)] at q
      exact q
  · exact e0.hok.fresh (Nat.le_of_lt (x.above y c (PySem.mem_of_lookup h)))
  · unfold start
    show _ = N.length
    rw [List.length_append, List.length_map, List.length_replicate]
    omega

/-- THE RULE: a def (or a method) of the text, by its body. The body's reading t is chosen for each entry; it is run at the parameters' values -/
theorem fn_of {CX : CXT} {P : Program} {w : World} {K : PySem.W.Frag} {mg : Str → Option Value} {base : Heap} {k : Nat} {f : Addr} {name qual : Str} {params : Arguments} {body : List Stmt} {scope : Scope} {dV kV doc pm cdv ct oc : Value} {an od : Option Addr}
    {osl : Array (Option Value)} {N ps : List Str} {sp : Sp} (lk : K.lookup f = some ⟨oc, od, .func (PySem.W.fnOf name qual params body scope dV kV doc pm an cdv ct), osl⟩) (hcd : PySem.W.codeIn K cdv qual = true) (S : FnScope N ps scope)
    (len : ∀ vs H Q E, sp vs H Q E → vs.length = ps.length)
    (hbody : ∀ (A : Around) (outer : List Env) (s : Shared) (H : Hp) (vs : List V) (Q : VK) (E : XK), Room k (A.deeper (envOfC qual scope s.heap.objs.size f cdv)) → sp vs H Q E →
      ∃ t, PSs (cxOf CX P w K mg base N qual scope f cdv A outer s H E) body t ∧ t { nx := fun _ H' => Q .non H', rt := Q } (start N vs) H) :
    FnOk P w K mg base CX (k + 1) f (PySem.W.fnOf name qual params body scope dV kV doc pm an cdv ct) ps sp := by
  refine ⟨len, fun A outer s H args us vs Q E hr e0 hb r hsp => ?_⟩
  have hl := len _ _ _ _ hsp
  have KX : K.In s.heap := e0.mod.kin.keeps fun b o e => (e0.bs b o e).1
  have lim : s.heap.NoLimit := e0.mod.nolimit.keeps fun b o e => (e0.bs b o e).1
  have hkind : ∀ y ∈ ps.zip us, scope.names.lookup y.1 = some .local ∨ (scope.names.lookup y.1 = some .cell ∧ ((cellsFrom (s.heap.objs.size + 1) scope.names []).lookup y.1).isSome = true) := fun ⟨n, v⟩ hy => by
    rcases S.par n (List.of_mem_zip hy).1 with q | q
    · exact .inl q
    · exact .inr ⟨q, PySem.W.cellsFrom_some _ _ _ (.inl q)⟩
  refine codeAny_call_function hr.depth (KX _ _ lk) rfl S.co S.gen rfl (PySem.W.codeRec_of KX hcd) (hb _ _ _ _ ?_)
  refine wpAny_newFunctionEnv_cells S.kind hkind fun env he s1 x => ?_
  subst he
  refine ⟨lim.keeps x.toInCall.keep, codeAny_func ?_⟩
  obtain ⟨t, ht, hq⟩ := hbody A outer s H vs Q E (hr.deeper _) hsp
  have I : Inv (cxOf CX P w K mg base N qual scope f cdv A outer s H E) [] (start N vs) H s1 := inv_start S hr.hd e0 hl r x
  refine wpAny_mono (ht [] s1 (start N vs) H _ I hq) (fun fl s' hs => ?_) fun e s' hs => hs
  have fin : ∀ {σ' : St} {H' : Hp} {v : V} {u : Value}, Inv (cxOf CX P w K mg base N qual scope f cdv A outer s H E) [] σ' H' s' → RelV v u → Q v H' → CE outer P w H s Q u s' :=
    fun {σ' H' v u} J rv q => ⟨v, H', J.os, J.bare, J.base, J.hok, rv, q⟩
  cases fl with
  | ret u =>
    obtain ⟨v, σ', H', J, rv, q⟩ := hs
    exact fin J rv q
  | next =>
    obtain ⟨σ', H', J, q⟩ := hs
    exact fin (v := V.non) (u := Value.none) J rfl q
  | brk =>
    obtain ⟨_, _, _, q⟩ := hs
    exact False.elim q
  | cont =>
    obtain ⟨_, _, _, q⟩ := hs
    exact False.elim q
end L2

namespace L2
open PySem PySem.Spec PyProof.Rows
section
variable {X : Cx} {x : Str} {p pos : Pos} {e : Expr} {es : List Expr} {t : TA} {id T : String} {r : List V → Hp → VK → Prop}

def tCB (r : List V → Hp → VK → Prop) (t : TA) : TE := fun σ H Q => t σ H fun vs H1 => r vs H1 Q
/-- f(e, ..), f a built-in function -/
theorem pe_callB (hc : CallR X (.builtin id) r) (hg : Gl X x) (hm : X.mg x = none) (hv : bootBuiltins x = some (.builtin id)) (ha : PA X (e :: es) t) (hn : x ≠ "__name__" := by decide) (hdb : (x == ("__debug__" : Str)) = false := by decide)
    (he : starEach (e :: es) X.env = (false, eval e X.env) :: starEach es X.env := by rfl) (hpl : (backTo pos (starEach es X.env)).any (·.1) = false := by rfl) : PE X (.Call (.Name x p) (e :: es) [] pos) (tCB r t) := by
  intro pins s σ H Q I h
  refine wpAny_Call_Name_kw (ld_blt I hg hm hv ?_ hn hdb)
  exact PyProof.Rows.callWith_builtin1 (thn (ha pos pins s σ H _ I h) fun us s1 ⟨vs, H1, I1, r1, q1⟩ => hc pins s1 σ H1 vs us Q I1 r1 q1) he hpl
/-- T(e, ..), T a built-in type -/
theorem pe_callTy (hc : CallR X (.type T) r) (hg : Gl X x) (hm : X.mg x = none) (hv : bootBuiltins x = some (.type T)) (ha : PA X (e :: es) t) (hn : x ≠ "__name__" := by decide) (hdb : (x == ("__debug__" : Str)) = false := by decide)
    (he : starEach (e :: es) X.env = (false, eval e X.env) :: starEach es X.env := by rfl) (hpl : (backTo pos (starEach es X.env)).any (·.1) = false := by rfl) : PE X (.Call (.Name x p) (e :: es) [] pos) (tCB r t) := by
  intro pins s σ H Q I h
  refine wpAny_Call_Name_kw (ld_blt I hg hm hv ?_ hn hdb)
  exact PyProof.Rows.callWith_type1 (thn (ha pos pins s σ H _ I h) fun us s1 ⟨vs, H1, I1, r1, q1⟩ => hc pins s1 σ H1 vs us Q I1 r1 q1) he hpl
end
end L2

namespace L2
open PySem PySem.Spec PyProof.Rows

/-! ### lists of pairs as tables -/
section
variable {κ : Type} [DecidableEq κ]
def valV (kvs : List (κ × V)) (k : κ) : Option V := (kvs.find? fun kv => decide (kv.1 = k)).map (·.2)
/-- in its place, or at the end -/
def putK (kvs : List (κ × V)) (k : κ) (v : V) : List (κ × V) :=
  if (kvs.any fun kv => decide (kv.1 = k)) = true then kvs.map (fun kv => if kv.1 = k then (kv.1, v) else kv) else kvs ++ [(k, v)]
def dropK (kvs : List (κ × V)) (k : κ) : List (κ × V) := kvs.filter fun kv => decide (kv.1 ≠ k)

theorem valV_pos {p : κ × V} {r : List (κ × V)} {k : κ} (e : p.1 = k) : valV (p :: r) k = some p.2 := by simp [valV, List.find?_cons, e]
theorem valV_neg {p : κ × V} {r : List (κ × V)} {k : κ} (e : ¬ p.1 = k) : valV (p :: r) k = valV r k := by simp [valV, List.find?_cons, e]
theorem valV_any (k : κ) : ∀ kvs : List (κ × V), (kvs.any fun kv => decide (kv.1 = k)) = (valV kvs k).isSome
  | [] => rfl
  | p :: r => by
    rw [List.any_cons]
    by_cases e : p.1 = k
    · simp only [valV_pos e, decide_eq_true e, Bool.true_or, Option.isSome_some]
    · rw [valV_neg e, decide_eq_false e, Bool.false_or]; exact valV_any k r
theorem length_putK (kvs : List (κ × V)) (k : κ) (v : V) : (putK kvs k v).length ≤ kvs.length + 1 := by
  unfold putK
  split
  · rw [List.length_map]; omega
  · rw [List.length_append, List.length_cons, List.length_nil]; omega
theorem putK_new {kvs : List (κ × V)} {k : κ} (v : V) (h : valV kvs k = none) : putK kvs k v = kvs ++ [(k, v)] := by
  unfold putK
  rw [valV_any, h]
  exact if_neg (by decide)

theorem RelO.isSome_eq {o : Option V} {u : Option Value} (r : RelO o u) : o.isSome = u.isSome := by
  cases o with
  | none => cases u with
    | none => rfl
    | some _ => exact (show False from r).elim
  | some _ => cases u with
    | none => exact (show False from r).elim
    | some _ => rfl
theorem RelO.getD {o : Option V} {u : Option Value} {d : V} {d' : Value} (r : RelO o u) (rd : RelV d d') : RelV (o.getD d) (u.getD d') := by
  cases o with
  | none => cases u with
    | none => exact rd
    | some _ => exact (show False from r).elim
  | some _ => cases u with
    | none => exact (show False from r).elim
    | some _ => exact r

/-- raw tables of the same keys -/
theorem KV.val {kvs : List (κ × V)} {vs : List (κ × Value)} (r : KV kvs vs) (k : κ) : RelO (valV kvs k) (valueAt vs k) := by
  unfold KV at r
  induction r with
  | nil => exact True.intro
  | @cons p q ps qs h t ih =>
    obtain ⟨h1, h2⟩ := h
    by_cases e : p.1 = k
    · have e' : q.1 = k := h1.symm.trans e
      have b : valueAt (q :: qs) k = some q.2 := by simp [valueAt, List.find?_cons, e']
      rw [valV_pos e, b]; exact h2
    · have e' : ¬ q.1 = k := fun z => e (h1.trans z)
      have b : valueAt (q :: qs) k = valueAt qs k := by simp [valueAt, List.find?_cons, e']
      rw [valV_neg e, b]; exact ih
theorem KV.any {kvs : List (κ × V)} {vs : List (κ × Value)} (r : KV kvs vs) (k : κ) : (kvs.any fun kv => decide (kv.1 = k)) = vs.any fun kv => decide (kv.1 = k) := by
  unfold KV at r
  induction r with
  | nil => rfl
  | cons h t ih => rw [List.any_cons, List.any_cons, ih, h.1]
theorem KV.repl {kvs : List (κ × V)} {vs : List (κ × Value)} (r : KV kvs vs) (k : κ) {y : V} {u : Value} (ry : RelV y u) :
    KV (kvs.map fun kv => if kv.1 = k then (kv.1, y) else kv) (vs.map fun kv => if kv.1 = k then (kv.1, u) else kv) := by
  unfold KV at r ⊢
  induction r with
  | nil => exact .nil
  | @cons p q ps qs h t ih =>
    rw [List.map_cons, List.map_cons]
    refine .cons ?_ ih
    obtain ⟨h1, h2⟩ := h
    by_cases e : p.1 = k
    · rw [if_pos e, if_pos (h1.symm.trans e)]; exact ⟨h1, ry⟩
    · rw [if_neg e, if_neg (fun z => e (h1.trans z))]; exact ⟨h1, h2⟩
theorem KV.put {kvs : List (κ × V)} {vs : List (κ × Value)} (r : KV kvs vs) (k : κ) {y : V} {u : Value} (ry : RelV y u) : KV (putK kvs k y) (stored vs k u) := by
  unfold putK stored
  rw [r.any k]
  by_cases e : (vs.any fun kv => decide (kv.1 = k)) = true
  · rw [if_pos e, if_pos e]; exact r.repl k ry
  · rw [if_neg e, if_neg e]; exact Paired.snoc r ⟨rfl, ry⟩
theorem KV.drop {kvs : List (κ × V)} {vs : List (κ × Value)} (r : KV kvs vs) (k : κ) : KV (dropK kvs k) (without vs k) := by
  unfold KV at r ⊢
  unfold dropK without
  induction r with
  | nil => exact .nil
  | @cons p q ps qs h t ih =>
    obtain ⟨h1, h2⟩ := h
    rw [List.filter_cons, List.filter_cons]
    by_cases e : p.1 = k
    · have a : ¬ decide (p.1 ≠ k) = true := by simp [e]
      have b : ¬ decide (q.1 ≠ k) = true := by simp [h1.symm.trans e]
      rw [if_neg a, if_neg b]; exact ih
    · have e' : ¬ q.1 = k := fun z => e (h1.trans z)
      have a : decide (p.1 ≠ k) = true := by simp [e]
      have b : decide (q.1 ≠ k) = true := by simp [e']
      rw [if_pos a, if_pos b]; exact .cons ⟨h1, h2⟩ ih
theorem KV.length {kvs : List (κ × V)} {vs : List (κ × Value)} (r : KV kvs vs) : kvs.length = vs.length := Paired.length r
end


/-! ### a tracked dict, its keys ints and texts or tuples of these -/
theorem kV_is {P : Program} {w : World} {k : Key} {u : Value} (r : RelV (kV k) u) : (mixKind P w).is k u = true := by
  cases k with
  | inl i => obtain ⟨t, e⟩ := (show ∃ t, u = Value.int i t from r); subst e; exact mixKind_int P w i t
  | inr x => obtain ⟨t, e⟩ := (show ∃ t, u = Value.str x t from r); subst e; exact mixKind_str P w x t
theorem items_are {P : Program} {w : World} : ∀ {ks : List Key} {us : List Value}, Vals (ks.map kV) us → ItemsAre (mixKind P w) ks us
  | [], _, r => by rw [List.map_nil] at r; cases r; exact .nil
  | k :: ks, _, r => by
    rw [List.map_cons] at r
    cases r with
    | cons h t => exact .cons (kV_is h) (items_are t)

/-- raw entries of a dict with tuple keys -/
abbrev KT (H : Hp) : List (List Key × V) → List (List Key × Addr × Value) → Prop := Paired fun p q => p.1 = q.1 ∧ H q.2.1 = some (.tup (p.1.map kV)) ∧ RelV p.2 q.2.2
theorem KT.val {H : Hp} {kvs : List (List Key × V)} {xs : List (List Key × Addr × Value)} (r : KT H kvs xs) (k : List Key) : RelO (valV kvs k) ((atKey xs k).map (·.2)) := by
  induction r with
  | nil => exact True.intro
  | @cons p q ps qs h t ih =>
    obtain ⟨h1, _, h2⟩ := h
    by_cases e : p.1 = k
    · have e' : q.1 = k := h1.symm.trans e
      have b : atKey (q :: qs) k = some q.2 := by simp [atKey, List.find?_cons, e']
      rw [valV_pos e, b]; exact h2
    · have e' : ¬ q.1 = k := fun z => e (h1.trans z)
      have b : atKey (q :: qs) k = atKey qs k := by simp [atKey, List.find?_cons, e']
      rw [valV_neg e, b]; exact ih
theorem KT.repl {H : Hp} {kvs : List (List Key × V)} {xs : List (List Key × Addr × Value)} (r : KT H kvs xs) (k : List Key) {y : V} {u : Value} (ry : RelV y u) :
    KT H (kvs.map fun kv => if kv.1 = k then (kv.1, y) else kv) (xs.map (putAt k u)) := by
  induction r with
  | nil => exact .nil
  | @cons p q ps qs h t ih =>
    rw [List.map_cons, List.map_cons]
    refine .cons ?_ ih
    obtain ⟨h1, h2, h3⟩ := h
    unfold putAt
    by_cases e : p.1 = k
    · rw [if_pos e, if_pos (h1.symm.trans e)]; exact ⟨h1, h2, ry⟩
    · rw [if_neg e, if_neg (fun z => e (h1.trans z))]; exact ⟨h1, h2, h3⟩
theorem KT.put {H : Hp} {kvs : List (List Key × V)} {xs : List (List Key × Addr × Value)} (r : KT H kvs xs) (k : List Key) {b : Addr} {y : V} {u : Value} (hb : H b = some (.tup (k.map kV))) (ry : RelV y u) :
    KT H (putK kvs k y) (storedH xs k b u) := by
  have e : (kvs.any fun kv => decide (kv.1 = k)) = (atKey xs k).isSome := by
    rw [valV_any, (r.val k).isSome_eq, Option.isSome_map]
  unfold putK storedH
  rw [e]
  by_cases q : (atKey xs k).isSome = true
  · rw [if_pos q, if_pos q]; exact r.repl k ry
  · rw [if_neg q, if_neg q]; exact Paired.snoc r ⟨rfl, hb, ry⟩
theorem KT.keeps {H H' : Hp} {kvs : List (List Key × V)} {xs : List (List Key × Addr × Value)} (r : KT H kvs xs) (ht : ∀ b ys, H b = some (.tup ys) → H' b = some (.tup ys)) : KT H' kvs xs :=
  Paired.mapP r fun _ _ z => ⟨z.1, ht _ _ z.2.1, z.2.2⟩

section
variable {P : Program} {w : World} {H : Hp} {h : Heap} {a : Addr}
theorem rd_of {u : HO} (ok : HOk P w H h) (e : Rd H a u) : ObjOk P w H h a u := e.ok ok
theorem dk_rd {kvs : List (Key × V)} (ok : HOk P w H h) (e : Rd H a (.dK kvs)) : kvs.length ≤ sizeLine ∧ (a == sysModules) = false ∧ ∃ vs, KV kvs vs ∧ h.DictOf (mixKind P w) a vs :=
  show ObjOk P w H h a (.dK kvs) from rd_of ok e
theorem dk_of {kvs : List (Key × V)} (ok : HOk P w H h) (e : H a = some (.dK kvs)) : kvs.length ≤ sizeLine ∧ (a == sysModules) = false ∧ ∃ vs, KV kvs vs ∧ h.DictOf (mixKind P w) a vs := dk_rd ok (.inl e)
/-- a tracked tuple of ints and texts is a key -/
theorem key_of {ks : List Key} (ok : HOk P w H h) (e : H a = some (.tup (ks.map kV))) : (tupleKind (mixKind P w)).is h ks a := by
  obtain ⟨_, its, r, ⟨o, h1, h2, n, h3⟩, _⟩ := (show ObjOk P w H h a (.tup (ks.map kV)) from ok a _ e)
  exact ⟨o, its.toArray, n, h1, h2, h3, by simpa using items_are r⟩
theorem dt_rd {kvs : List (List Key × V)} (ok : HOk P w H h) (e : Rd H a (.dT kvs)) : kvs.length ≤ sizeLine ∧ (a == sysModules) = false ∧
    ∃ xs, KT H kvs xs ∧ h.DictOfH (tupleKind (mixKind P w)) a xs := by
  obtain ⟨z, y, xs, r, o, es, ep, h1, h2, h3, h4, h5⟩ := (show ObjOk P w H h a (.dT kvs) from rd_of ok e)
  refine ⟨z, y, xs, r, o, es, ep, h1, h2, h3, h4, fun x hx => ?_, h5⟩
  have all : ∀ {l : List (List Key × V)} {m : List (List Key × Addr × Value)}, KT H l m → ∀ x ∈ m, (tupleKind (mixKind P w)).is h x.1 x.2.1 := by
    intro l m q
    induction q with
    | nil => intro x hx; exact nomatch hx
    | @cons p q ps qs hq t ih =>
      intro x hx
      rcases List.mem_cons.mp hx with e | hx
      · subst e
        exact key_of ok (by rw [← hq.1]; exact hq.2.1)
      · exact ih x hx
  exact all r x hx
theorem dt_of {kvs : List (List Key × V)} (ok : HOk P w H h) (e : H a = some (.dT kvs)) : kvs.length ≤ sizeLine ∧ (a == sysModules) = false ∧
    ∃ xs, KT H kvs xs ∧ h.DictOfH (tupleKind (mixKind P w)) a xs := dt_rd ok (.inl e)
end

/-- what the dict at a holds at the key y -/
def DGet (H : Hp) (a : Addr) (y : V) (r : Option V) : Prop :=
  (∃ kvs k, Rd H a (.dK kvs) ∧ y = kV k ∧ r = valV kvs k) ∨ ∃ kvs k b, Rd H a (.dT kvs) ∧ y = .ref b ∧ H b = some (.tup (k.map kV)) ∧ r = valV kvs k
/-- the heap behind a[y] = v -/
def DPut (H : Hp) (a : Addr) (y v : V) (H' : Hp) : Prop :=
  (∃ kvs k, H a = some (.dK kvs) ∧ y = kV k ∧ kvs.length < sizeLine ∧ H' = upd H a (.dK (putK kvs k v))) ∨
  ∃ kvs k b, H a = some (.dT kvs) ∧ y = .ref b ∧ H b = some (.tup (k.map kV)) ∧ kvs.length < sizeLine ∧ H' = upd H a (.dT (putK kvs k v))
theorem DGet.k {H : Hp} {a : Addr} {kvs : List (Key × V)} {k : Key} (e : H a = some (.dK kvs)) : DGet H a (kV k) (valV kvs k) := .inl ⟨kvs, k, .inl e, rfl, rfl⟩
theorem DPut.k {H : Hp} {a : Addr} {kvs : List (Key × V)} {k : Key} {v : V} (e : H a = some (.dK kvs)) (hl : kvs.length < sizeLine) : DPut H a (kV k) v (upd H a (.dK (putK kvs k v))) := .inl ⟨kvs, k, e, rfl, hl, rfl⟩


section
variable {X : Cx} {pins : List (Addr × Obj)} {σ : St} {H : Hp} {s : Shared} {a : Addr} {y v : V} {u r : Value} {o : Option V} {A : Around} {E : Value → Shared → Prop}

theorem Inv.big (I : Inv X pins σ H s) : sysModules < s.heap.objs.size := by
  have h : mainGlobals < s.heap.objs.size := (I.mod.glob.keeps I.bk).lt
  exact Nat.lt_trans (by decide) h

/-- d[y], there -/
theorem d_getItem {Q : Value → Shared → Prop} (hu : A.units + 1 < cLine) (I : Inv X pins σ H s) (g : DGet H a y (some v)) (ry : RelV y u) (h : ∀ w' s', Inv X pins σ H s' → RelV v w' → Q w' s') :
    wpAny (model X.prog X.w) A (getItem (.ref a) u) Q E s := by
  rcases g with ⟨kvs, k, e, ey, l⟩ | ⟨kvs, k, b, e, ey, eb, l⟩
  · subst ey
    obtain ⟨z, hd, vs, rel, dd⟩ := dk_rd I.hok e
    obtain ⟨w', hw, rw'⟩ := RelO.some_of (v := v) (o := valueAt vs k) (by rw [l]; exact rel.val k)
    exact wpAny_getItem_of (kV_is ry) dd.mapOf hw (h w' _ (I.tok _) rw')
  · subst ey
    cases (show u = Value.ref b from ry)
    obtain ⟨z, hd, xs, rel, dd⟩ := dt_rd I.hok e
    obtain ⟨w', hw, rw'⟩ := RelO.some_of (v := v) (o := (atKey xs k).map (·.2)) (by rw [l]; exact rel.val k)
    obtain ⟨p, hp, hp2⟩ := Option.map_eq_some_iff.mp hw
    refine wpAny_getItem_heap (tupleKind_room_in1 hu) (key_of I.hok eb) dd hp ?_
    rw [hp2]
    exact h w' _ (I.tok _) rw'
/-- y in d -/
theorem d_in {Q : Value → Shared → Prop} (hu : A.units + 1 < cLine) (I : Inv X pins σ H s) (g : DGet H a y o) (ry : RelV y u) (h : ∀ s', Inv X pins σ H s' → Q (.bool o.isSome) s') :
    wpAny (model X.prog X.w) A (compareOp .In u (.ref a)) Q E s := by
  rcases g with ⟨kvs, k, e, ey, l⟩ | ⟨kvs, k, b, e, ey, eb, l⟩
  · subst ey
    obtain ⟨z, hd, vs, rel, dd⟩ := dk_rd I.hok e
    refine wpAny_in_of (kV_is ry) hd dd.mapOf ?_
    rw [← (rel.val k).isSome_eq, ← l]
    exact h _ (I.tok _)
  · subst ey
    cases (show u = Value.ref b from ry)
    obtain ⟨z, hd, xs, rel, dd⟩ := dt_rd I.hok e
    refine wpAny_in_heap (tupleKind_room_in1 hu) (key_of I.hok eb) hd dd ?_
    have q := (rel.val k).isSome_eq
    rw [Option.isSome_map] at q
    rw [← q, ← l]
    exact h _ (I.tok _)
theorem d_notIn {Q : Value → Shared → Prop} (hu : A.units + 1 < cLine) (I : Inv X pins σ H s) (g : DGet H a y o) (ry : RelV y u) (h : ∀ s', Inv X pins σ H s' → Q (.bool (!o.isSome)) s') :
    wpAny (model X.prog X.w) A (compareOp .NotIn u (.ref a)) Q E s := by
  rcases g with ⟨kvs, k, e, ey, l⟩ | ⟨kvs, k, b, e, ey, eb, l⟩
  · subst ey
    obtain ⟨z, hd, vs, rel, dd⟩ := dk_rd I.hok e
    refine wpAny_notIn_of (kV_is ry) hd dd.mapOf ?_
    rw [← (rel.val k).isSome_eq, ← l]
    exact h _ (I.tok _)
  · subst ey
    cases (show u = Value.ref b from ry)
    obtain ⟨z, hd, xs, rel, dd⟩ := dt_rd I.hok e
    refine wpAny_notIn_heap (tupleKind_room_in1 hu) (key_of I.hok eb) hd dd ?_
    have q := (rel.val k).isSome_eq
    rw [Option.isSome_map] at q
    rw [← q, ← l]
    exact h _ (I.tok _)
/-- a dict's object is replaced -/
theorem d_write {h' : Heap} {t' : Nat} {ob : HO} (I : Inv X pins σ H s) (mu : Mut (H a)) (hs : Heap.SameBut a s.heap h') (he : ∃ q, h'.get? a = some q) (new : ObjOk X.prog X.w (upd H a ob) h' a ob) :
    Inv X pins σ (upd H a ob) { s with heap := h', toks := t' } :=
  I.write (x := a) (e := a) mu (.inl rfl) (fun b q hb z => (hs.2 b hb).trans z) he new
theorem dk_new {P : Program} {w : World} {H' : Hp} {h' : Heap} {kvs : List (Key × V)} {vs : List (Key × Value)} (z : kvs.length ≤ sizeLine) (hd : (a == sysModules) = false) (rel : KV kvs vs) (dd : h'.DictOf (mixKind P w) a vs) :
    ObjOk P w H' h' a (.dK kvs) := ⟨z, hd, vs, rel, dd⟩
/-- d[y] = v -/
theorem d_setItem {H' : Hp} {Q : Unit → Shared → Prop} (hu : A.units + 1 < cLine) (I : Inv X pins σ H s) (g : DPut H a y v H') (ry : RelV y u) (rv : RelV v r) (h : ∀ s', Inv X pins σ H' s' → Q () s') :
    wpAny (model X.prog X.w) A (setItem (.ref a) u r) Q E s := by
  rcases g with ⟨kvs, k, e, ey, l, eH⟩ | ⟨kvs, k, b, e, ey, eb, l, eH⟩
  · subst ey eH
    obtain ⟨z, hd, vs, rel, dd⟩ := dk_of I.hok e
    have hz : vs.length ≤ sizeLine := by rw [← rel.length]; exact z
    have hl : (putK kvs k v).length ≤ sizeLine := by have := length_putK kvs k v; omega
    refine wpAny_setItem_pairs (hsz := hz) (kV_is ry) dd fun h' dd' hs => h _ ?_
    have he : ∃ q, h'.get? a = some q := let ⟨q, _, _, hq, _⟩ := dd'; ⟨q, hq⟩
    exact d_write I (by rw [e]; exact True.intro) hs he (dk_new hl hd (rel.put k rv) dd')
  · subst ey eH
    cases (show u = Value.ref b from ry)
    obtain ⟨z, hd, xs, rel, dd⟩ := dt_of I.hok e
    have hz : xs.length ≤ sizeLine := by rw [← Paired.length rel]; exact z
    have hl : (putK kvs k v).length ≤ sizeLine := by have := length_putK kvs k v; omega
    refine wpAny_setItem_heap (hsz := hz) (tupleKind_room_in1 hu) (key_of I.hok eb) dd fun h' dd' hs => h _ ?_
    obtain ⟨q, es, ep, hq, h2, h3, h4, _, h5⟩ := dd'
    refine d_write I (by rw [e]; exact True.intro) hs ⟨q, hq⟩ ⟨hl, hd, _, (rel.put k eb rv).keeps fun c ys ec => ?_, q, es, ep, hq, h2, h3, h4, h5⟩
    rw [upd_ne (ne_of ec e (fun z => nomatch z))]
    exact ec
end

section
variable {X : Cx} {pins : List (Addr × Obj)} {σ : St} {H : Hp} {s : Shared} {a : Addr} {kvs : List (Key × V)} {k : Key} {u : Value} {A : Around} {E : Value → Shared → Prop}
/-- len(d) -/
theorem d_len {Q : Value → Shared → Prop} (I : Inv X pins σ H s) (e : Rd H a (.dK kvs)) (h : ∀ t s', Inv X pins σ H s' → Q (.int kvs.length t) s') : wpAny (model X.prog X.w) A (call (.builtin "len") [.ref a]) Q E s := by
  obtain ⟨z, hd, vs, rel, dd⟩ := dk_rd I.hok e
  refine call_len_dict hd dd (by rw [← rel.length]; rw [sizeLine_eq] at z; omega) ?_
  rw [← rel.length]
  exact h _ _ (I.tok _)
end


/-! ### readings and rules -/
/-- the element of a subscription, not a slice -/
def NoSl (i : Expr) : Prop := ∀ ov iv, subscripted i false ov iv = operate [ov, iv] (getItem ov iv)
theorem subD_of {prog : Program} {w : World} {A : Around} {E : Value → Shared → Prop} {s : Shared} {env : Env} {value slice : Expr} {pos : Pos} {T id : String} {Q : Value → Shared → Prop}
    (hl : typeLookup (.type T) "__getitem__" = pure (some (.builtin id))) (hs : NoSl slice)
    (h : wpAny (model prog w) A (eval value env) (fun o s₁ => wpAny (model prog w) A (eval slice env) (fun i s₂ => s₂.TypeIs o T ∧ wpAny (model prog w) A (getItem o i) Q E s₂) E s₁) E s) :
    wpAny (model prog w) A (eval (.Subscript value slice pos) env) Q E s := by
  refine Subscript_ (wpAny_mono h (fun o s₁ h₁ => wpAny_mono h₁ (fun i s₂ h₂ => ?_) fun _ _ x => x) fun _ _ x => x)
  obtain ⟨hT, h₂⟩ := h₂
  unfold subscriptTail
  refine wpAny_bind ?_
  rw [getitemInPython_of_ne hT.not_modules]
  refine wpAny_bind (wpAny_specialOf hT hl ?_)
  have fin : wpAny (model prog w) A (subscripted slice false o i) (fun r s₃ => wpAny (model prog w) A (letTemporaryGo value o r >>= fun _ => pure r) Q E s₃) E s₂ := by
    rw [hs o i]
    exact wpAny_operating (wpAny_mono h₂ (fun r s₃ h₃ => wpAny_bind (wpAny_letTemporaryGo (wpAny_pure h₃))) fun _ _ x => x)
  first
    | exact wpAny_pure (wpAny_bind fin)
    | exact wpAny_bind (wpAny_pure (wpAny_bind fin))
    | exact wpAny_bind fin

theorem dict_typeIs {X : Cx} {pins : List (Addr × Obj)} {σ : St} {H : Hp} {s : Shared} {a : Addr} {y : V} {o : Option V} (I : Inv X pins σ H s) (g : DGet H a y o) : s.TypeIs (.ref a) "dict" := by
  rcases g with ⟨kvs, k, e, _, _⟩ | ⟨kvs, k, b, e, _, _, _⟩
  · obtain ⟨_, _, vs, _, dd⟩ := dk_rd I.hok e
    exact dd.typeIs
  · obtain ⟨_, _, xs, _, dd⟩ := dt_rd I.hok e
    exact dd.typeIs

/-- d[y] -/
def tDGet (td ty : TE) : TE := fun σ H Q => td σ H fun x H1 => ty σ H1 fun y H2 => ∃ a v, x = .ref a ∧ DGet H2 a y (some v) ∧ Q v H2
/-- y in d, y not in d -/
def tDIn (ty td : TE) : TE := fun σ H Q => ty σ H fun y H1 => td σ H1 fun x H2 => ∃ a o, x = .ref a ∧ DGet H2 a y o ∧ Q (.bl o.isSome) H2
def tDNotIn (ty td : TE) : TE := fun σ H Q => ty σ H fun y H1 => td σ H1 fun x H2 => ∃ a o, x = .ref a ∧ DGet H2 a y o ∧ Q (.bl (!o.isSome)) H2
/-- d[y] = v -/
def sDPut (td ty tv : TE) : TS := fun D σ H => tv σ H fun v H1 => td σ H1 fun x H2 => ty σ H2 fun y H3 => ∃ a H4, x = .ref a ∧ DPut H3 a y v H4 ∧ D.nx σ H4

section
variable {X : Cx} {o i e value : Expr} {pos pos' tpos : Pos} {td ty tv : TE}
theorem pe_dget (hu : X.A.units + 1 < cLine) (ho : PE X o td) (hi : PE X i ty) (hs : NoSl i) : PE X (.Subscript o i pos) (tDGet td ty) := by
  intro pins s σ H Q I h
  refine subD_of PySem.F.slot_dict_getitem.lookup hs (thn (ho pins s σ H _ I h) fun u s1 ⟨x, H1, I1, rx, q1⟩ => thn (hi pins s1 σ H1 _ I1 q1) fun iv s2 ⟨y, H2, I2, ry, a, v, ex, g, q2⟩ => ?_)
  subst ex
  obtain rfl : u = Value.ref a := rx
  exact ⟨dict_typeIs I2 g, d_getItem hu I2 g ry fun w' s3 I3 rw' => ⟨v, H2, I3, rw', q2⟩⟩
theorem pc_din (hu : X.A.units + 1 < cLine) (hi : PE X i ty) (ho : PE X o td) : PC X .In i o (tDIn ty td) := by
  intro pins s σ H Q I h
  refine thn (hi pins s σ H _ I h) fun iv s1 ⟨y, H1, I1, ry, q1⟩ => thn (ho pins s1 σ H1 _ I1 q1) fun u s2 ⟨x, H2, I2, rx, a, ov, ex, g, q2⟩ => ?_
  subst ex
  obtain rfl : u = Value.ref a := rx
  exact d_in hu I2 g ry fun s3 I3 => ⟨.bl ov.isSome, H2, I3, rfl, q2⟩
theorem pc_dnotin (hu : X.A.units + 1 < cLine) (hi : PE X i ty) (ho : PE X o td) : PC X .NotIn i o (tDNotIn ty td) := by
  intro pins s σ H Q I h
  refine thn (hi pins s σ H _ I h) fun iv s1 ⟨y, H1, I1, ry, q1⟩ => thn (ho pins s1 σ H1 _ I1 q1) fun u s2 ⟨x, H2, I2, rx, a, ov, ex, g, q2⟩ => ?_
  subst ex
  obtain rfl : u = Value.ref a := rx
  exact d_notIn hu I2 g ry fun s3 I3 => ⟨.bl (!ov.isSome), H2, I3, rfl, q2⟩
theorem ps_dput (hu : X.A.units + 1 < cLine) (ho : PE X o td) (hi : PE X i ty) (hv : PE X value tv) (hs : swapsWith value (some (.Subscript o i pos')) pos.line X.env = pure false) :
    PS X (.Assign [.Subscript o i pos'] value pos) (sDPut td ty tv) := by
  intro pins s σ H D I h
  refine wpAny_Assign_Subscript (thn (hv pins s σ H _ I h) fun r s1 ⟨v, H1, I1, rv, q1⟩ => thn (ho pins s1 σ H1 _ I1 q1) fun u s2 ⟨x, H2, I2, rx, q2⟩ => thn (hi pins s2 σ H2 _ I2 q2) fun iv s3 ⟨y, H3, I3, ry, a, H4, ex, g, q3⟩ => ?_) hs
  subst ex
  obtain rfl : u = Value.ref a := rx
  exact d_setItem hu I3 g ry rv fun s4 I4 => ⟨σ, H4, I4, q3⟩
end


/-! ### displays -/
theorem dk_empty {P : Program} {w : World} {H : Hp} (h : Heap) (hb : sysModules < h.objs.size) : ObjOk P w H (h.push { cls := .type "dict", data := .dict #[] }) h.objs.size (.dK []) :=
  ⟨Nat.zero_le _, beq_eq_false_iff_ne.mpr (Ne.symm (Nat.ne_of_lt hb)), [], .nil, Heap.DictOf.new h⟩
/-- {}, to be a dict of the kind that is wanted -/
def tDNewK : TE := fun _ H Q => ∀ p, H p = none → Q (.ref p) (upd H p (.dK []))
section
variable {X : Cx} {pos : Pos}
theorem pe_dnewK : PE X (.Dict [] [] pos) tDNewK := fun pins s σ H Q I h =>
  wpAny_Dict_empty ⟨.ref s.heap.objs.size, _, I.laid (a := s.heap.objs.size) (o := .dK []) (t' := s.toks) (fun _ _ q => Heap.get?_push_of_some _ q) (Nat.le_refl _) (dk_empty s.heap I.big), rfl, h _ (I.hok.fresh (Nat.le_refl _))⟩
end

/-- the pairs of a display, from the left -/
def tPairs : List (TE × TE) → St → Hp → (List (V × V) → Hp → Prop) → Prop
  | [], _, H, Q => Q [] H
  | (tk, tv) :: r, σ, H, Q => tk σ H fun x H1 => tv σ H1 fun y H2 => tPairs r σ H2 fun ps H3 => Q ((x, y) :: ps) H3
abbrev VV : List (V × V) → List (Value × Value) → Prop := Paired fun p q => RelV p.1 q.1 ∧ RelV p.2 q.2
def PPs (X : Cx) (pos : Pos) (keys : List (Option Expr)) (values : List Expr) (trs : List (TE × TE)) : Prop :=
  ∀ (pins : List (Addr × Obj)) (s : Shared) (σ : St) (H : Hp) (Q : List (V × V) → Hp → Prop), Inv X pins σ H s → tPairs trs σ H Q →
    wpAny (model X.prog X.w) X.A (evalPairs (pairTrees keys values X.env pos)) (fun vs s' => ∃ ps H', Inv X pins σ H' s' ∧ VV ps vs ∧ Q ps H') X.xe s
theorem pps_nil {X : Cx} {pos : Pos} : PPs X pos [] [] [] := fun pins s σ H Q I h => pairTrees_nil_walk ⟨[], H, I, .nil, h⟩
theorem pps_cons {X : Cx} {pos : Pos} {k v : Expr} {ks : List (Option Expr)} {vs : List Expr} {tk tv : TE} {trs : List (TE × TE)} (hk : PE X k tk) (hv : PE X v tv) (hr : PPs X pos ks vs trs) :
    PPs X pos (some k :: ks) (v :: vs) ((tk, tv) :: trs) := fun pins s σ H Q I h =>
  pairTrees_cons_walk (thn (hk pins s σ H _ I h) fun u s1 ⟨x, H1, I1, rx, q1⟩ => thn (hv pins s1 σ H1 _ I1 q1) fun w2 s2 ⟨y, H2, I2, ry, q2⟩ =>
    thn (hr pins s2 σ H2 _ I2 q2) fun ws s3 ⟨ps, H3, I3, rel, q3⟩ => ⟨(x, y) :: ps, H3, I3, .cons ⟨rx, ry⟩ rel, q3⟩)

def mergeK (kvs more : List (Key × V)) : List (Key × V) := more.foldl (fun acc kv => putK acc kv.1 kv.2) kvs
theorem KV.merge : ∀ {more : List (Key × V)} {rs : List (Key × Value)} {kvs : List (Key × V)} {vs : List (Key × Value)}, KV more rs → KV kvs vs → KV (mergeK kvs more) (merged vs rs) := by
  intro more rs kvs vs r
  unfold KV at r
  induction r generalizing kvs vs with
  | nil => intro q; exact q
  | @cons p q ps qs h t ih =>
    intro r0
    have e : KV (putK kvs p.1 p.2) (stored vs q.1 q.2) := by
      have := r0.put p.1 h.2
      rw [← h.1]; exact this
    exact ih e
theorem length_mergeK : ∀ (more kvs : List (Key × V)), (mergeK kvs more).length ≤ kvs.length + more.length
  | [], kvs => by show kvs.length ≤ kvs.length + 0; omega
  | p :: r, kvs => by
    have h1 := length_mergeK r (putK kvs p.1 p.2)
    have h2 := length_putK kvs p.1 p.2
    show (mergeK (putK kvs p.1 p.2) r).length ≤ _
    rw [List.length_cons]; omega
theorem carries_of {P : Program} {w : World} : ∀ {kvs : List (Key × V)} {ws : List (Value × Value)}, VV (kvs.map fun kv => (kV kv.1, kv.2)) ws → ∃ rs, Carries (mixKind P w) ws rs ∧ KV kvs rs
  | [], _, r => by rw [List.map_nil] at r; cases r; exact ⟨[], True.intro, .nil⟩
  | p :: kvs, _, r => by
    rw [List.map_cons] at r
    cases r with
    | @cons a b as bs h t =>
      obtain ⟨rs, c, q⟩ := carries_of (P := P) (w := w) t
      obtain ⟨b1, b2⟩ := b
      exact ⟨(p.1, b2) :: rs, ⟨kV_is h.1, rfl, c⟩, .cons ⟨rfl, h.2⟩ q⟩
/-- {k: v, ..} with keys ints and texts; the new dict stands empty while the pairs are made -/
def tDisp (trs : List (TE × TE)) : TE := fun σ H Q => ∀ p, H p = none → tPairs trs σ (upd H p (.dK [])) fun ps H2 => H2 p = some (.dK []) ∧ ∃ kvs : List (Key × V), ps = kvs.map (fun kv => (kV kv.1, kv.2)) ∧ kvs.length ≤ 15 ∧ Q (.ref p) (upd H2 p (.dK (mergeK [] kvs)))
theorem pe_disp {X : Cx} {pos : Pos} {keys : List (Option Expr)} {values : List Expr} {trs : List (TE × TE)} (h : PPs X pos keys values trs) (hall : keys.all (·.isSome) = true) (hl : keys.length = values.length) (h0 : keys ≠ [])
    (h15 : keys.length ≤ 15) : PE X (.Dict keys values pos) (tDisp trs) := by
  intro pins s σ H Q I q
  have hn := I.hok.fresh (Nat.le_refl s.heap.objs.size)
  have I1 := I.laid (a := s.heap.objs.size) (o := .dK []) (h' := s.heap.push { cls := .type "dict", data := .dict #[] }) (t' := s.toks) (fun _ _ q => Heap.get?_push_of_some _ q) (Nat.le_refl _) (dk_empty s.heap I.big)
  refine wpAny_Dict_walk (knd := mixKind X.prog X.w) hall hl h0 h15 (thn (h pins _ σ _ _ I1 (q _ hn)) fun ws s2 ⟨ps, H2, I2, rel, e, kvs, ep, lk, q2⟩ => ?_)
  subst ep
  obtain ⟨rs, c, rk⟩ := carries_of (P := X.prog) (w := X.w) rel
  obtain ⟨z, hd, vs0, r0, dd⟩ := dk_of I2.hok e
  cases r0
  refine ⟨rs, c, dd, fun h' dd' hs => ⟨.ref s.heap.objs.size, _, ?_, rfl, q2⟩⟩
  have hz : (mergeK [] kvs).length ≤ sizeLine := by
    have h1 := length_mergeK kvs []
    rw [List.length_nil] at h1
    rw [sizeLine_eq]; omega
  have he : ∃ q, h'.get? s.heap.objs.size = some q := let ⟨q, _, _, hq, _⟩ := dd'; ⟨q, hq⟩
  exact d_write I2 (by rw [e]; exact True.intro) hs he (dk_new hz hd (rk.merge .nil) dd')


/-! ### methods -/
structure M2 (X : Cx) (o : Expr) (m : Str) (apos : Pos) (e f : Expr) (cpos : Pos) : Prop where
  base : attributeBase o m X.env (eval o X.env) = eval o X.env
  few : ((backTo cpos (starEach [e, f] X.env)).all (fun x => !x.1) && (backToKw cpos (keywordEach [] X.env)).all (fun x => x.1.isSome)
    && decide (([e, f] : List Expr).length + ([] : List Keyword).length + (if ([] : List Keyword).isEmpty then 0 else 1) < 30)) = true
  line : (apos.endLine == cpos.line) = true
  trees : backTo cpos (starEach [e, f] X.env) = [(false, eval e X.env), (false, eval f X.env)]

/-- a is a dict, whatever its keys -/
def IsD (H : Hp) (a : Addr) : Prop := (∃ kvs, Rd H a (.dK kvs)) ∨ ∃ kvs, Rd H a (.dT kvs)
theorem isD_at {X : Cx} {pins : List (Addr × Obj)} {σ : St} {H : Hp} {s : Shared} {a : Addr} (I : Inv X pins σ H s) (d : IsD H a) :
    s.TypeIs (.ref a) "dict" ∧ (∀ b, Value.ref a = .ref b → ∃ ob, s.heap.get? b = some ob ∧ ob.dict = none) ∧ (a == sysModules) = false := by
  rcases d with ⟨kvs, e⟩ | ⟨kvs, e⟩
  · obtain ⟨_, hd, vs, _, dd⟩ := dk_rd I.hok e
    refine ⟨dd.typeIs, fun b q => ?_, hd⟩
    cases q
    obtain ⟨ob, _, _, h1, h2, _⟩ := dd
    exact ⟨ob, h1, h2.2.1⟩
  · obtain ⟨_, hd, xs, _, dd⟩ := dt_rd I.hok e
    refine ⟨dd.typeIs, fun b q => ?_, hd⟩
    cases q
    obtain ⟨ob, _, _, h1, h2, _⟩ := dd
    exact ⟨ob, h1, h2.2.1⟩

section
variable {X : Cx} {pins : List (Addr × Obj)} {σ : St} {H : Hp} {s : Shared} {a : Addr} {y d : V} {u r : Value} {o : Option V} {A : Around} {E : Value → Shared → Prop}
/-- d.get(y, x) -/
theorem d_get2 {Q : Value → Shared → Prop} (hu : A.units + 1 < cLine) (I : Inv X pins σ H s) (g : DGet H a y o) (ry : RelV y u) (rd : RelV d r) (h : ∀ w' s', Inv X pins σ H s' → RelV (o.getD d) w' → Q w' s') :
    wpAny (model X.prog X.w) A (call (.builtin "dict.get") [.ref a, u, r]) Q E s := by
  rcases g with ⟨kvs, k, e, ey, l⟩ | ⟨kvs, k, b, e, ey, eb, l⟩
  · subst ey
    obtain ⟨z, hd, vs, rel, dd⟩ := dk_rd I.hok e
    refine call_meetsIn PySem.F.slot_dict_get dd.typeIs PySem.F.entry_dict_get (PySem.F.args_dict_get_3 _ _ _) (meets_dict_get_default (mixKind X.prog X.w) a (kV_is ry) hd r) ⟨_, dd.mapOf, h _ _ (I.tok _) ?_⟩
    rw [l]
    exact (rel.val k).getD rd
  · subst ey
    cases (show u = Value.ref b from ry)
    obtain ⟨z, hd, xs, rel, dd⟩ := dt_rd I.hok e
    refine call_meetsIn PySem.F.slot_dict_get dd.typeIs PySem.F.entry_dict_get (PySem.F.args_dict_get_3 _ _ _) (meetsH_dict_get_default (tupleKind (mixKind X.prog X.w)) a b hd r) ⟨tupleKind_room_in1 hu, k, xs, key_of I.hok eb, dd, h _ _ (I.tok _) ?_⟩
    rw [l]
    exact (rel.val k).getD rd
end

def tDGet2 (td ty tx : TE) : TE := fun σ H Q => td σ H fun x H1 => ∃ a, x = .ref a ∧ IsD H1 a ∧ ty σ H1 fun y H2 => tx σ H2 fun z H3 => ∃ o, DGet H3 a y o ∧ Q (o.getD z) H3
section
variable {X : Cx} {o e f : Expr} {apos cpos : Pos} {td ty tx : TE}
theorem pe_dget2 (hu : X.A.units + 1 < cLine) (ho : PE X o td) (he : PE X e ty) (hf : PE X f tx) (m : M2 X o "get" apos e f cpos) : PE X (.Call (.Attribute o "get" apos) [e, f] [] cpos) (tDGet2 td ty tx) := by
  intro pins s σ H Q I h
  refine wpAny_Call_method m.base m.few m.line PySem.F.plainAttrs_dict PySem.F.slot_dict_get PySem.F.type_dict_get (thn (ho pins s σ H _ I h) fun u s1 ⟨x, H1, I1, rx, a, ex, d, q1⟩ => ?_)
  subst ex
  obtain rfl : u = Value.ref a := rx
  obtain ⟨t1, t2, _⟩ := isD_at I1 d
  refine ⟨t1, t2, ?_⟩
  rw [m.trees]
  refine Calls.callWith_builtin rfl (Calls.evalArgs_plain (Calls.spliced_cons (thn (he pins s1 σ H1 _ I1 q1) fun iv s2 ⟨y, H2, I2, ry, q2⟩ =>
    Calls.spliced_cons (thn (hf pins s2 σ H2 _ I2 q2) fun fv s3 ⟨z, H3, I3, rz, ov, g, q3⟩ => Calls.spliced_nil ?_))))
  exact d_get2 hu I3 g ry rz fun w' s4 I4 rw' => ⟨_, H3, I4, rw', q3⟩
end

/-! ### dict(d): a copy -/
section
variable {X : Cx} {pins : List (Addr × Obj)} {σ : St} {H : Hp} {s : Shared} {a : Addr} {kvs : List (Key × V)} {A : Around} {E : Value → Shared → Prop}
end


section
variable {X : Cx} {pins : List (Addr × Obj)} {σ : St} {H : Hp} {s : Shared} {a : Addr} {y : V} {u : Value} {A : Around} {E : Value → Shared → Prop}
end
end L2

namespace HT
open PySem PyProof.Rows



section
open PySem.SeqAt
open PySem.AutoSeq1 (wpAny_loadPart')
open PySem.MeetsSeq PySem.MeetsSeq2 PySem.MeetsSeq3

end

section
variable {prog : Program} {w : World} {A : Around} {E : Value → Shared → Prop} {s : Shared}



/-! ### t[a:b], not the whole -/
/-- a slice's bound as a place among n (d where it is left out) -/
def sIx (n d : Nat) : Option Int → Nat
  | none => d
  | some v => if v < 0 then (v + (n : Int)).toNat else min v.toNat n

end
end HT

namespace L2
open PySem PySem.Spec PyProof.Rows

/-! ### the parts of a slice -/
abbrev TO := St → Hp → (Option Int → Hp → Prop) → Prop
/-- a slice's part (left out, or an int) -/
def PO (X : Cx) (e : Option Expr) (t : TO) : Prop :=
  ∀ (pins : List (Addr × Obj)) (s : Shared) (σ : St) (H : Hp) (Q : Option Int → Hp → Prop), Inv X pins σ H s → t σ H Q →
    wpAny (model X.prog X.w) X.A (evalPart e X.env) (fun u s' => ∃ o H', Inv X pins σ H' s' ∧ IsPart u o ∧ Q o H') X.xe s
def tNoPart : TO := fun _ H Q => Q none H
def tPart (t : TE) : TO := fun σ H Q => t σ H fun x H1 => ∃ i, x = .int i ∧ Q (some i) H1

theorem intsAre_of {ns : List Int} : ∀ {us : List Value}, Vals (ns.map V.int) us → IntsAre us ns := by
  induction ns with
  | nil => intro us r; rw [List.map_nil] at r; cases r; exact .nil
  | cons n ns ih =>
    intro us r
    rw [List.map_cons] at r
    cases r with
    | cons r1 r2 =>
      obtain ⟨t, e⟩ := r1
      subst e
      exact .cons n t (ih r2)

section
variable {X : Cx} {e : Expr} {te : TE} {lo hi : Option Expr} {tl th : TO} {pos p2 : Pos}

theorem po_none : PO X none tNoPart := by
  intro pins s σ H Q I h
  rw [evalPart_none]
  exact wpAny_pure ⟨none, H, I, .none, h⟩
theorem po_some (h : PE X e te) : PO X (some e) (tPart te) := by
  intro pins s σ H Q I hw
  rw [evalPart_some]
  refine thn (h pins s σ H _ I hw) fun u s1 ⟨x, H1, I1, r1, q1⟩ => ?_
  obtain ⟨i, rfl, q⟩ := q1
  obtain ⟨t, rfl⟩ := r1
  exact ⟨some i, H1, I1, .int i t, q⟩

/-- what a slice of a value is, by values: the slice object stands at sl -/
def SlR (X : Cx) (r : V → Option Int → Option Int → Hp → VK → Prop) : Prop :=
  ∀ (pins : List (Addr × Obj)) (s : Shared) (σ : St) (H : Hp) (x : V) (v vl vu : Value) (lo hi : Option Int) (sl : Addr) (Q : VK), Inv X pins σ H s → RelV x v → s.heap.IsSliceOf sl vl vu .none → IsPart vl lo → IsPart vu hi → r x lo hi H Q →
    ∃ T id, typeLookup (.type T) "__getitem__" = pure (some (.builtin id)) ∧ s.TypeIs v T ∧ wpAny (model X.prog X.w) X.A (getItem v (.ref sl)) (EP X pins σ Q) X.xe s
theorem SlR.or {r r' : V → Option Int → Option Int → Hp → VK → Prop} (h : SlR X r) (h' : SlR X r') : SlR X (fun x lo hi H Q => r x lo hi H Q ∨ r' x lo hi H Q) := by
  intro pins s σ H x v vl vu lo hi sl Q I rx hs pl pu q
  rcases q with q | q
  · exact h pins s σ H x v vl vu lo hi sl Q I rx hs pl pu q
  · exact h' pins s σ H x v vl vu lo hi sl Q I rx hs pl pu q
def tSl (r : V → Option Int → Option Int → Hp → VK → Prop) (te : TE) (tl th : TO) : TE := fun σ H Q => te σ H fun x H1 => tl σ H1 fun l H2 => th σ H2 fun u H3 => r x l u H3 Q
/-- a[lo:hi], any a -/
theorem pe_slice {r : V → Option Int → Option Int → Hp → VK → Prop} (hr : SlR X r) (he : PE X e te) (hl : PO X lo tl) (hu : PO X hi th) : PE X (.Subscript e (.Slice lo hi none p2) pos) (tSl r te tl th) := by
  intro pins s σ H Q I h
  refine Subscript_ (thn (he pins s σ H _ I h) fun v s1 ⟨x, H1, I1, r1, q1⟩ => ?_)
  refine wpAny_Slice (thn (hl pins s1 σ H1 _ I1 q1) fun vl s2 ⟨l, H2, I2, pl, q2⟩ => thn (hu pins s2 σ H2 _ I2 q2) fun vu s3 ⟨u, H3, I3, pu, q3⟩ => ?_)
  rw [evalPart_none]
  refine wpAny_pure ?_
  have I4 : Inv X pins σ H3 { s3 with heap := s3.heap.push { cls := .type "slice", data := .fields #[vl, vu, .none] } } := I3.kept (t' := s3.toks) fun b ob q => Heap.get?_push_of_some _ q
  obtain ⟨T, id, hT, ht, hg⟩ := hr pins { s3 with heap := s3.heap.push { cls := .type "slice", data := .fields #[vl, vu, .none] } } σ H3 x v vl vu l u s3.heap.objs.size Q I4 r1 (Heap.IsSliceOf.new ..) pl pu q3
  show wpAny (model X.prog X.w) X.A (subscriptTail e (.Slice lo hi none p2) v (.ref s3.heap.objs.size)) (EP X pins σ Q) X.xe { s3 with heap := s3.heap.push { cls := .type "slice", data := .fields #[vl, vu, .none] } }
  exact tail_any (ops := [.ref s3.heap.objs.size, v]) ht hT hg (by with_unfolding_all rfl)

/-- the items of xs[lo:hi] -/
def cutV (xs : List V) (lo hi : Option Int) : List V := (xs.drop (HT.sIx xs.length 0 lo)).take (HT.sIx xs.length xs.length hi - HT.sIx xs.length 0 lo)
theorem cutV_length (xs : List V) (lo hi : Option Int) : (cutV xs lo hi).length ≤ xs.length := by
  unfold cutV
  rw [List.length_take, List.length_drop]
  omega

/-! ### t < u, t + u -/
end
end L2

namespace L2
open PySem PySem.Spec PyProof.Rows

/-! ### places -/
/-- the place that an index of any sign means -/
def ixN (n : Nat) (i : Int) : Option Nat := if 0 ≤ i then (if i < n then some i.toNat else none) else if -(n : Int) ≤ i then some (i + n).toNat else none
def atI {α : Type} (xs : List α) (i : Int) : Option α := (ixN xs.length i).bind fun j => xs[j]?
theorem ixN_seq {n : Nat} {i : Int} {j : Nat} (h : ixN n i = some j) : seqIndex? i n = some j ∧ j < n ∧ -(n : Int) ≤ i ∧ i < n := by
  unfold ixN at h
  by_cases h0 : 0 ≤ i
  · rw [if_pos h0] at h
    by_cases h1 : i < n
    · rw [if_pos h1] at h
      have e : i.toNat = j := Option.some.inj h
      exact ⟨by rw [seqIndex_of h0 h1, e], by omega, by omega, h1⟩
    · rw [if_neg h1] at h; cases h
  · rw [if_neg h0] at h
    by_cases h1 : -(n : Int) ≤ i
    · rw [if_pos h1] at h
      have e : (i + n).toNat = j := Option.some.inj h
      exact ⟨by rw [seqIndex_neg (by omega) h1, e], by omega, h1, by omega⟩
    · rw [if_neg h1] at h; cases h
theorem atI_get {α : Type} {xs : List α} {i : Int} {v : α} (h : atI xs i = some v) : ∃ j, seqIndex? i xs.length = some j ∧ xs[j]? = some v ∧ j < xs.length ∧ -(xs.length : Int) ≤ i ∧ i < xs.length := by
  unfold atI at h
  cases e : ixN xs.length i with
  | none => rw [e] at h; cases h
  | some j =>
    rw [e] at h
    obtain ⟨h1, h2, h3, h4⟩ := ixN_seq e
    exact ⟨j, h1, h, h2, h3, h4⟩
theorem atI_nat {α : Type} {xs : List α} {j : Nat} {v : α} (h : xs[j]? = some v) : atI xs (j : Int) = some v := by
  have hj : j < xs.length := (List.getElem?_eq_some_iff.mp h).1
  have e : ixN xs.length (j : Int) = some j := by
    unfold ixN
    rw [if_pos (by omega), if_pos (by omega)]; simp
  unfold atI; rw [e]; exact h

/-! ### what may be subscripted -/
/-- what stands as an index of a plain subscript -/
def PlainIx (b : Expr) : Prop := ∀ o i, subscripted b false o i = operate [o, i] (getItem o i)
/-- a subscript by values -/
def IxR (X : Cx) (r : R2) : Prop :=
  ∀ (value slice : Expr) (pins : List (Addr × Obj)) (s : Shared) (σ : St) (H : Hp) (x y : V) (v u : Value) (Q : VK), Inv X pins σ H s → RelV x v → RelV y u → r x y H Q →
    subscripted slice false v u = operate [v, u] (getItem v u) → wpAny (model X.prog X.w) X.A (subscriptTail value slice v u) (EP X pins σ Q) X.xe s
/-- a call of a builtin's method by values: the receiver, the arguments -/
def MtR (X : Cx) (id : String) (r : V → List V → Hp → VK → Prop) : Prop :=
  ∀ (pins : List (Addr × Obj)) (s : Shared) (σ : St) (H : Hp) (x : V) (xs : List V) (v : Value) (us : List Value) (Q : VK), Inv X pins σ H s → RelV x v → Vals xs us → r x xs H Q →
    wpAny (model X.prog X.w) X.A (call (.builtin id) (v :: us)) (EP X pins σ Q) X.xe s
section
variable {X : Cx} {a b : Expr} {ta tb : TE} {pos : Pos}
theorem IxR.or {r r' : R2} (h : IxR X r) (h' : IxR X r') : IxR X (fun x y H Q => r x y H Q ∨ r' x y H Q) := by
  intro value slice pins s σ H x y v u Q I rx ry q hs
  rcases q with q | q
  · exact h value slice pins s σ H x y v u Q I rx ry q hs
  · exact h' value slice pins s σ H x y v u Q I rx ry q hs
theorem MtR.or {id : String} {r r' : V → List V → Hp → VK → Prop} (h : MtR X id r) (h' : MtR X id r') : MtR X id (fun x xs H Q => r x xs H Q ∨ r' x xs H Q) := by
  intro pins s σ H x xs v us Q I rx rs q
  rcases q with q | q
  · exact h pins s σ H x xs v us Q I rx rs q
  · exact h' pins s σ H x xs v us Q I rx rs q
/-- a[b] -/
theorem pe_ix {r : R2} (hr : IxR X r) (ha : PE X a ta) (hb : PE X b tb) (hs : PlainIx b) : PE X (.Subscript a b pos) (tOp r ta tb) := by
  intro pins s σ H Q I h
  exact Subscript_ (binT ha hb I h fun v u s2 x y H2 I2 rx ry q => hr a b pins s2 σ H2 x y v u Q I2 rx ry q (hs _ _))

def rIxL (K : PySem.W.Frag) : R2 := fun x y H Q => ∃ p xs i v, x = .ref p ∧ y = .int i ∧ SqL K H p xs ∧ atI xs i = some v ∧ Q v H
def rIxT (K : PySem.W.Frag) : R2 := fun x y H Q => ∃ p xs i v, x = .ref p ∧ y = .int i ∧ SqT K H p xs ∧ atI xs i = some v ∧ Q v H
def rIxS : R2 := fun x y H Q => ∃ z i c, x = .str z ∧ y = .int i ∧ z.length ≤ sizeLine ∧ atI z.cps.toList i = some c ∧ Q (.str ⟨#[c]⟩) H
theorem ix_list : IxR X (rIxL X.K) := by
  intro value slice pins s σ H x y v u Q I rx ry h hs
  obtain ⟨p, xs, i, z, rfl, rfl, hq, he, q⟩ := h
  cases rx
  obtain ⟨t, rfl⟩ := ry
  obtain ⟨its, r, pl, hz⟩ := I.list hq
  obtain ⟨j, h1, h2, h3, h4, h5⟩ := atI_get he
  obtain ⟨w, ew, rw'⟩ := r.get h2
  have hl := r.length
  have hn := line63
  have fin : EP X pins σ Q w s := ⟨z, H, I, rw', q⟩
  by_cases h0 : 0 ≤ i
  · have hj : i.toNat = j := by
      rw [seqIndex_of h0 h5] at h1
      exact Option.some.inj h1
    exact item_listR pl.isList h0 (by omega) (by rw [hj]; simpa using ew) fin hs
  · have hj : (i + (its.toArray.size : Int)).toNat = j := by
      rw [seqIndex_neg (by omega) h4] at h1
      rw [List.size_toArray, ← hl]
      exact Option.some.inj h1
    exact subscriptTail_builtinR (x := w) pl.isList.typeIs slot_list_getitem.lookup
      (wpAny_getItem_list_neg (Q := fun r s' => r = w ∧ EP X pins σ Q r s') pl.isList (by omega) (by rw [List.size_toArray] <;> omega) (by omega) (by rw [hj]; simpa using ew) ⟨rfl, fin⟩) hs
theorem ix_tup : IxR X (rIxT X.K) := by
  intro value slice pins s σ H x y v u Q I rx ry h hs
  obtain ⟨p, xs, i, z, rfl, rfl, hq, he, q⟩ := h
  cases rx
  obtain ⟨t, rfl⟩ := ry
  obtain ⟨its, r, pl, hz⟩ := I.tuple hq
  obtain ⟨j, h1, h2, h3, h4, h5⟩ := atI_get he
  obtain ⟨w, ew, rw'⟩ := r.get h2
  have hl := r.length
  have hn := line63
  have fin : EP X pins σ Q w s := ⟨z, H, I, rw', q⟩
  exact subscriptTail_builtinR (x := w) pl.typeIs slot_tuple_getitem.lookup
    (getItem_tuple (j := j) (Q := fun r s' => r = w ∧ EP X pins σ Q r s') pl (by omega) (by omega) (by rw [List.size_toArray, ← hl]; exact h1) (by simpa using ew) ⟨rfl, fin⟩) hs
theorem ix_str : IxR X rIxS := by
  intro value slice pins s σ H x y v u Q I rx ry h hs
  obtain ⟨z, i, c, rfl, rfl, hz, he, q⟩ := h
  obtain ⟨t, rfl⟩ := rx
  obtain ⟨t', rfl⟩ := ry
  obtain ⟨j, h1, h2, h3, h4, h5⟩ := atI_get he
  have hl : z.cps.toList.length = z.length := by simp [Str.length]
  rw [hl] at h1 h4 h5
  have hn := line63
  exact tail_any (typeIs_str s z t) slot_str_getitem.lookup (getItem_str (c := c) (by
    have e1 : decide (i < -(2 ^ 63 : Int)) = false := decide_eq_false (by omega)
    have e2 : decide (i ≥ 2 ^ 63) = false := decide_eq_false (by omega)
    rw [e1, e2, Bool.or_false]) (by rw [h1]; simpa using h2) ⟨.str ⟨#[c]⟩, H, I.tok _, ⟨_, rfl⟩, q⟩) hs
/-- list, tuple or str -/
def rIx (K : PySem.W.Frag) : R2 := fun x y H Q => rIxL K x y H Q ∨ rIxT K x y H Q ∨ rIxS x y H Q
theorem ix_seq : IxR X (rIx X.K) := ix_list.or (ix_tup.or ix_str)

/-! ### xs[i] = v, any sign -/
/-- the list's object behind a store -/
theorem mapSeq_set (its : List Value) (n j : Nat) (u : Value) : Obj.mapSeq (·.setIfInBounds j u) { cls := .type "list", data := .seq its.toArray n } = { cls := .type "list", data := .seq (its.set j u).toArray n } := by
  simp [Obj.mapSeq]
theorem Inv.lst {pins : List (Addr × Obj)} {σ : St} {H : Hp} {s : Shared} {p : Addr} {xs : List V} (I : Inv X pins σ H s) (h : H p = some (.lst xs)) :
    ∃ (its : List Value) (n : Nat), Vals xs its ∧ s.heap.get? p = some { cls := .type "list", data := .seq its.toArray n } ∧ xs.length ≤ sizeLine := by
  obtain ⟨z, its, n, r, e⟩ := I.hok p _ h
  exact ⟨its, n, r, e, z⟩
/-- the list at p is written by an update of its object -/
theorem Inv.lstUpd {pins : List (Addr × Obj)} {σ : St} {H : Hp} {s : Shared} {p : Addr} {xs ys : List V} {its its' : List Value} {n n' : Nat} {f : Obj → Obj} (I : Inv X pins σ H s) (h : H p = some (.lst xs))
    (ho : s.heap.get? p = some { cls := .type "list", data := .seq its.toArray n }) (hf : f { cls := .type "list", data := .seq its.toArray n } = { cls := .type "list", data := .seq its'.toArray n' }) (r : Vals ys its') (hz : ys.length ≤ sizeLine) (t : Nat) :
    Inv X pins σ (upd H p (.lst ys)) { s with heap := s.heap.update p f, toks := t } := by
  have e : (s.heap.update p f).get? p = some { cls := .type "list", data := .seq its'.toArray n' } := by
    rw [Heap.get?_update_self f ho (by rw [hf] <;> rfl), hf]
  refine I.write (x := p) (e := p) (by rw [h]; trivial) (.inl rfl) (fun b u hb q => (Heap.get?_update_other _ _ (Ne.symm hb)).trans q) ⟨_, e⟩ ?_
  exact ⟨hz, its', n', r, e⟩
def rSetL : V → V → V → Hp → (Hp → Prop) → Prop := fun o i v H Q => ∃ p xs k j, o = .ref p ∧ i = .int k ∧ H p = some (.lst xs) ∧ ixN xs.length k = some j ∧ Q (upd H p (.lst (xs.set j v)))
theorem set_list : PSet X rSetL := by
  intro pins s σ H o i v ov iv u Q I ro ri rv h
  obtain ⟨p, xs, k, j, rfl, rfl, hp, hj, q⟩ := h
  cases ro
  obtain ⟨t, rfl⟩ := ri
  obtain ⟨its, n, r, ho, hz⟩ := I.lst hp
  obtain ⟨h1, h2, h3, h4⟩ := ixN_seq hj
  have hl := r.length
  have hn := line63
  have I' : Inv X pins σ (upd H p (.lst (xs.set j v))) { s with heap := s.heap.update p (Obj.mapSeq (·.setIfInBounds j u)) } :=
    I.lstUpd hp ho (mapSeq_set its n j u) (r.set rv j) (by rw [List.length_set]; exact hz) s.toks
  by_cases h0 : 0 ≤ k
  · have hk : k.toNat = j := by
      rw [seqIndex_of h0 h4] at h1
      exact Option.some.inj h1
    exact PySem.W.ki_setAt ho h0 (by omega) (by rw [List.size_toArray, ← hl]; exact h4) (by rw [hk]; exact ⟨_, I', q⟩)
  · have hk : (k + (its.toArray.size : Int)).toNat = j := by
      rw [seqIndex_neg (by omega) h3] at h1
      rw [List.size_toArray, ← hl]
      exact Option.some.inj h1
    exact PySem.W.ki_setBack ho (by omega) (by rw [List.size_toArray, ← hl]; exact h3) (by omega) (by rw [hk]; exact ⟨_, I', q⟩)

/-! ### slices -/
theorem slice_bounds (lo hi : Option Int) (n : Nat) : (sliceBounds lo hi none n).1 = ((HT.sIx n 0 lo : Nat) : Int) ∧ (sliceBounds lo hi none n).2.1 = ((HT.sIx n n hi : Nat) : Int) ∧ (sliceBounds lo hi none n).2.2 = 1 := by
  refine ⟨?_, ?_, rfl⟩
  · cases lo with
    | none => simp [sliceBounds, HT.sIx]
    | some i =>
      simp only [sliceBounds, HT.sIx, Option.getD_none, show (1 : Int) > 0 by decide, if_true]
      by_cases h : i < 0
      · simp only [h, if_true] <;> omega
      · simp only [h, if_false] <;> omega
  · cases hi with
    | none => simp [sliceBounds, HT.sIx]
    | some i =>
      simp only [sliceBounds, HT.sIx, Option.getD_none, show (1 : Int) > 0 by decide, if_true]
      by_cases h : i < 0
      · simp only [h, if_true] <;> omega
      · simp only [h, if_false] <;> omega
theorem slicePick_cut (its : List Value) (lo hi : Option Int) : slicePick its.toArray lo hi none = ((its.drop (HT.sIx its.length 0 lo)).take (HT.sIx its.length its.length hi - HT.sIx its.length 0 lo)).toArray := by
  obtain ⟨h1, h2, h3⟩ := slice_bounds lo hi its.toArray.size
  unfold slicePick
  rw [h1, h2, h3]
  simp only [sliceRange_one, pick_run, List.size_toArray] <;> rfl
/-- xs[lo:hi] of a list: a new list -/
def rSlL (K : PySem.W.Frag) : V → Option Int → Option Int → Hp → VK → Prop := fun x lo hi H Q => ∃ a xs, x = .ref a ∧ SqL K H a xs ∧ ∀ p, H p = none → Q (.ref p) (upd H p (.lst (cutV xs lo hi)))
theorem sl_list : SlR X (rSlL X.K) := by
  intro pins s σ H x v vl vu lo hi sl Q I rx hs pl pu h
  obtain ⟨a, xs, rfl, hx, q⟩ := h
  cases rx
  obtain ⟨its, r, ht, hz⟩ := I.list hx
  have hlen := r.length
  refine ⟨"list", _, slot_list_getitem.lookup, ht.isList.typeIs, ?_⟩
  refine wpAny_getItem_list_slice ht.isList hs pl pu .none (by simp) ?_ (by rw [List.size_toArray] <;> omega)
  rw [slicePick_cut, ← hlen]
  refine ⟨.ref s.heap.objs.size, _, I.laid (t' := s.toks) (o := .lst (cutV xs lo hi)) (fun b ob q => Heap.get?_push_of_some _ q) (Nat.le_refl _) ?_, rfl, q _ (I.hok.fresh (Nat.le_refl _))⟩
  exact ⟨Nat.le_trans (cutV_length xs lo hi) hz, _, 0, (r.drop (HT.sIx xs.length 0 lo)).take (HT.sIx xs.length xs.length hi - HT.sIx xs.length 0 lo), Heap.get?_push_size _ rfl⟩

/-! ### in, not in: flat items -/

/-! ### len, list(x), tuple(x) of any list or tuple that is read -/
theorem CallR.or {f : Value} {r r' : List V → Hp → VK → Prop} (h : CallR X f r) (h' : CallR X f r') : CallR X f (fun xs H Q => r xs H Q ∨ r' xs H Q) := by
  intro pins s σ H xs us Q I rs q
  rcases q with q | q
  · exact h pins s σ H xs us Q I rs q
  · exact h' pins s σ H xs us Q I rs q
theorem call_list_of : CallR X (.type "list") (fun xs H Q => ∃ p ys, xs = [.ref p] ∧ (SqL X.K H p ys ∨ SqT X.K H p ys) ∧ ∀ l, H l = none → Q (.ref l) (upd H l (.lst ys))) := by
  intro pins s σ H xs us Q I r h
  obtain ⟨p, ys, rfl, hq, q⟩ := h
  obtain ⟨u, rfl, rx⟩ := vals1 r
  cases rx
  have fin : ∀ (its : List Value), Vals ys its → ys.length ≤ sizeLine → ∀ (h' : Heap) (c' : Nat), (∀ b o', s.heap.get? b = some o' → h'.get? b = some o') →
      h'.get? s.heap.objs.size = some { cls := .type "list", dict := none, data := .seq its.toArray c', slots := #[] } → EP X pins σ Q (.ref s.heap.objs.size) { s with heap := h' } := fun its r' hz h' c' kp e =>
    ⟨.ref s.heap.objs.size, _, I.laid (t' := s.toks) kp (Nat.le_refl _) (show ObjOk X.prog X.w _ h' _ (.lst ys) from ⟨hz, its, c', r', e⟩), rfl, q _ (I.hok.fresh (Nat.le_refl _))⟩
  rcases hq with hq | hq
  · obtain ⟨its, r', pl, hz⟩ := I.list hq
    have hlen := r'.length
    obtain ⟨o, ho, hc, n, hd⟩ := pl.isList
    exact call_list_seq p (.inl rfl) ho hc hd (fun h' c' kp e => fin its r' hz h' c' kp e) (by simp only [List.size_toArray] <;> omega)
  · obtain ⟨its, r', pl, hz⟩ := I.tuple hq
    have hlen := r'.length
    obtain ⟨o, ho, hc, n, hd⟩ := pl
    exact call_list_seq p (.inr rfl) ho hc hd (fun h' c' kp e => fin its r' hz h' c' kp e) (by simp only [List.size_toArray] <;> omega)
theorem call_tuple_of : CallR X (.type "tuple") (fun xs H Q => ∃ p ys, xs = [.ref p] ∧ ((SqL X.K H p ys ∧ ∀ l, H l = none → Q (.ref l) (upd H l (.tup ys))) ∨ (SqT X.K H p ys ∧ Q (.ref p) H))) := by
  intro pins s σ H xs us Q I r h
  obtain ⟨p, ys, rfl, h⟩ := h
  obtain ⟨u, rfl, rx⟩ := vals1 r
  cases rx
  rcases h with ⟨hq, q⟩ | ⟨hq, q⟩
  · obtain ⟨its, r', pl, hz⟩ := I.list hq
    have hlen := r'.length
    refine call_tuple_list pl.isList (fun h' kp => ?_) (by simp only [List.size_toArray] <;> omega)
    have I1 : Inv X pins σ H { s with heap := h' } := I.kept (t' := s.toks) kp
    have I2 : Inv X pins σ (upd H h'.objs.size (.tup ys)) { s with heap := h'.push { cls := .type "tuple", data := .seq its.toArray } } :=
      I1.laid (t' := s.toks) (fun b o e => Heap.get?_push_of_some _ e) (Nat.le_refl _) (show ObjOk X.prog X.w _ _ _ (.tup ys) from ⟨hz, its, r', IsTup.new _ _, noD_push rfl rfl⟩)
    exact ⟨.ref h'.objs.size, _, I2, rfl, q _ (I1.hok.fresh (Nat.le_refl _))⟩
  · obtain ⟨its, r', pl, hz⟩ := I.tuple hq
    exact call_tuple_same pl ⟨.ref p, H, I, rfl, q⟩

/-! ### the call of a builtin's method: o.m(..) -/
/-- the value is of that builtin type -/
def tyV (K : PySem.W.Frag) (T : String) (x : V) (H : Hp) : Prop := match x with
  | .str _ => T = "str"
  | .int _ => T = "int"
  | .ref p => (T = "list" ∧ ∃ xs, SqL K H p xs) ∨ (T = "tuple" ∧ ∃ o, K.lookup p = some o ∧ o.cls = .type "tuple" ∧ o.dict = none) ∨
      (T = "dict" ∧ ((∃ kvs, H p = some (.dK kvs)) ∨ ∃ kvs, H p = some (.dT kvs))) ∨ (T = "set" ∧ ∃ S n, H p = some (.set S n))
  | _ => False
theorem tyV_is {pins : List (Addr × Obj)} {σ : St} {H : Hp} {s : Shared} {T : String} {x : V} {v : Value} (I : Inv X pins σ H s) (r : RelV x v) (ty : tyV X.K T x H) :
    s.TypeIs v T ∧ ∀ a, v = .ref a → ∃ ob, s.heap.get? a = some ob ∧ ob.dict = none := by
  cases x with
  | str z =>
    obtain ⟨t, rfl⟩ := r
    cases (show T = "str" from ty)
    exact ⟨typeIs_str s z t, fun _ e => nomatch e⟩
  | int i =>
    obtain ⟨t, rfl⟩ := r
    cases (show T = "int" from ty)
    exact ⟨typeIs_int s i t, fun _ e => nomatch e⟩
  | ref p =>
    cases r
    rcases ty with ⟨rfl, xs, hq⟩ | ⟨rfl, o, hk, hc, hd⟩ | ⟨rfl, hk⟩ | ⟨rfl, S, n, hk⟩
    · obtain ⟨its, _, pl, _⟩ := I.list hq
      refine ⟨pl.isList.typeIs, fun a e => ?_⟩
      cases e
      obtain ⟨o, n, e, c, hd, _⟩ := pl
      exact ⟨o, e, hd⟩
    · refine ⟨⟨o, I.kIn p o hk, hc⟩, fun a e => ?_⟩
      cases e
      exact ⟨o, I.kIn _ o hk, hd⟩
    · have z : ∃ o, s.heap.get? p = some o ∧ o.ExactDict := by
        rcases hk with ⟨kvs, hk⟩ | ⟨kvs, hk⟩
        · obtain ⟨_, _, _, _, o, _, _, e, ex, _⟩ := I.hok p _ hk
          exact ⟨o, e, ex⟩
        · obtain ⟨_, _, _, _, o, _, _, e, ex, _⟩ := I.hok p _ hk
          exact ⟨o, e, ex⟩
      obtain ⟨o, e, ex⟩ := z
      refine ⟨⟨o, e, ex.1⟩, fun a e2 => ?_⟩
      cases e2
      exact ⟨o, e, ex.2.1⟩
    · obtain ⟨o, _, _, _, e, ex, _⟩ := I.hok p _ hk
      refine ⟨⟨o, e, ex.1⟩, fun a e2 => ?_⟩
      cases e2
      exact ⟨o, e, ex.2.1⟩
  | _ => exact False.elim ty
def tBM0 (K : PySem.W.Frag) (T : String) (r : V → List V → Hp → VK → Prop) (to : TE) : TE := fun σ H Q => to σ H fun x H1 => tyV K T x H1 ∧ r x [] H1 Q
def tBM (K : PySem.W.Frag) (T : String) (r : V → List V → Hp → VK → Prop) (to : TE) (t : TA) : TE := fun σ H Q => to σ H fun x H1 => tyV K T x H1 ∧ t σ H1 fun xs H2 => r x xs H2 Q
variable {o e : Expr} {es : List Expr} {to : TE} {t : TA} {name : Str} {apos cpos : Pos} {T id : String} {r : V → List V → Hp → VK → Prop}
theorem pe_bm0 (pa : PlainAttrs T) (slot : Slot T name id) (hty : typeOf (.builtin id) = pure (.type "method_descriptor")) (hm : MtR X id r) (ho : PE X o to)
    (hbase : attributeBase o name X.env (eval o X.env) = eval o X.env := by rfl) (hline : (apos.endLine == cpos.line) = true := by rfl) : PE X (.Call (.Attribute o name apos) [] [] cpos) (tBM0 X.K T r to) := by
  intro pins s σ H Q I h
  refine wpAny_Call_method0_late hbase hline (thn (ho pins s σ H _ I h) fun v s1 ⟨x, H1, I1, r1, ty, q1⟩ => ?_)
  obtain ⟨h1, h2⟩ := tyV_is I1 r1 ty
  exact ⟨T, id, pa, slot, hty, h1, h2, Calls.callWith_builtin rfl (PySem.evalArgs_none (hm pins s1 σ H1 x [] v [] Q I1 r1 .nil q1))⟩
theorem pe_bm (pa : PlainAttrs T) (slot : Slot T name id) (hty : typeOf (.builtin id) = pure (.type "method_descriptor")) (hm : MtR X id r) (ho : PE X o to) (ha : PA X (e :: es) t)
    (hbase : attributeBase o name X.env (eval o X.env) = eval o X.env := by rfl)
    (hfew : ((backTo cpos (starEach (e :: es) X.env)).all (fun x => !x.1) && (backToKw cpos (keywordEach [] X.env)).all (fun x => x.1.isSome)
      && decide ((e :: es).length + ([] : List Keyword).length + (if ([] : List Keyword).isEmpty then 0 else 1) < 30)) = true := by rfl)
    (hline : (apos.endLine == cpos.line) = true := by rfl) (hs : starEach (e :: es) X.env = (false, eval e X.env) :: starEach es X.env := by rfl) (hplain : (backTo cpos (starEach es X.env)).any (·.1) = false := by rfl) :
    PE X (.Call (.Attribute o name apos) (e :: es) [] cpos) (tBM X.K T r to t) := by
  intro pins s σ H Q I h
  refine wpAny_Call_method_late hbase hfew hline rfl (thn (ho pins s σ H _ I h) fun v s1 ⟨x, H1, I1, r1, ty, q1⟩ => ?_)
  obtain ⟨h1, h2⟩ := tyV_is I1 r1 ty
  refine ⟨T, id, pa, slot, hty, h1, h2, ?_⟩
  have hA := ha cpos pins s1 σ H1 _ I1 q1
  rw [hs] at hA ⊢
  refine Calls.callWith_builtin (by show (false || (backTo cpos (starEach es X.env)).any (·.1)) = false; rw [hplain] <;> rfl) (Calls.evalArgs_plain ?_)
  exact thn hA fun us s2 ⟨vs, H2, I2, r2, q2⟩ => hm pins s2 σ H2 x vs v us Q I2 r1 r2 q2
/- xs.append(e), list.index on a module's tuple .. are MtR facts of 06m -/
end
end L2

namespace L2
open PySem PySem.Spec PyProof.Rows

def MtM (X : Cx) (id : String) (r : V → List V → Hp → VK → Prop) : Prop :=
  ∀ (pins : List (Addr × Obj)) (s : Shared) (σ : St) (H : Hp) (x : V) (xs : List V) (v : Value) (us : List Value) (Q : VK), Inv X pins σ H s → RelV x v → Vals xs us → r x xs H Q →
    wpAny (model X.prog X.w) X.A (call (.builtin id) (v :: us)) (EP X pins σ Q) X.xe s

/-! ### lists of values -/
theorem Vals.one : ∀ {x : V} {us : List Value}, Vals [x] us → ∃ u, us = [u] ∧ RelV x u
  | _, _, .cons r .nil => ⟨_, rfl, r⟩
theorem Vals.zero : ∀ {us : List Value}, Vals [] us → us = []
  | _, .nil => rfl
theorem Vals.dropLast {xs : List V} {us : List Value} (h : Vals xs us) : Vals xs.dropLast us.dropLast := by
  induction h with
  | nil => exact .nil
  | cons r t ih =>
    cases t with
    | nil => exact .nil
    | cons q t' => exact .cons r ih
theorem Vals.eraseIdx : ∀ {xs : List V} {us : List Value} (i : Nat), Vals xs us → Vals (xs.eraseIdx i) (us.eraseIdx i)
  | _, _, _, .nil => .nil
  | _, _, 0, .cons _ t => t
  | _, _, i + 1, .cons r t => .cons r (Vals.eraseIdx i t)
theorem erase_last {α : Type} (l : List α) : l.eraseIdx (l.length - 1) = l.dropLast := by
  induction l with
  | nil => rfl
  | cons a r ih =>
    cases r with
    | nil => rfl
    | cons b r =>
      have e : (a :: b :: r).length - 1 = ((b :: r).length - 1) + 1 := by
        have h1 : (a :: b :: r).length = r.length + 2 := rfl
        have h2 : (b :: r).length = r.length + 1 := rfl
        omega
      rw [e, List.eraseIdx_cons_succ, ih]
      all_goals rfl

section
variable {X : Cx} {pins : List (Addr × Obj)} {σ : St} {H : Hp} {s : Shared} {l b : Addr} {xs ys zs : List V}

/-! ### the two steps: a tracked list is rewritten, a new list is laid -/
theorem Inv.lset {its its' : List Value} {n : Nat} {f : Array Value → Array Value} {t' : Nat} (I : Inv X pins σ H s) (hH : H l = some (.lst xs))
    (e : s.heap.get? l = some { cls := .type "list", data := .seq its.toArray n }) (hf : f its.toArray = its'.toArray) (hv : Vals ys its') (hz : ys.length ≤ sizeLine) :
    Inv X pins σ (upd H l (.lst ys)) { s with heap := s.heap.update l (Obj.mapSeq f), toks := t' } := by
  have q := PySem.IsL.update e f
  rw [hf] at q
  refine I.write (x := l) (e := l) (by rw [hH]; exact trivial) (.inl rfl) (fun b' u hb hu => (Heap.get?_update_other s.heap (Obj.mapSeq f) (Ne.symm hb)).trans hu) ⟨_, q⟩ ?_
  exact ⟨hz, its', _, hv, q⟩
theorem Inv.lnew {its : List Value} {t' : Nat} (I : Inv X pins σ H s) (hv : Vals ys its) (hz : ys.length ≤ sizeLine) :
    Inv X pins σ (upd H s.heap.objs.size (.lst ys)) { s with heap := s.heap.push { cls := .type "list", data := .seq its.toArray }, toks := t' } :=
  I.laid (fun _ _ q => Heap.get?_push_of_some _ q) (Nat.le_refl _) ⟨hz, its, 0, hv, Heap.get?_push_size _ rfl⟩
theorem Inv.fresh (I : Inv X pins σ H s) : H s.heap.objs.size = none := I.hok.fresh (Nat.le_refl _)
theorem Inv.lstM (I : Inv X pins σ H s) (hH : H l = some (.lst xs)) : xs.length ≤ sizeLine ∧ ∃ (its : List Value) (n : Nat), Vals xs its ∧ xs.length = its.length ∧ s.heap.get? l = some { cls := .type "list", data := .seq its.toArray n } := by
  obtain ⟨z, its, n, r, e⟩ := I.hok l _ hH
  exact ⟨z, its, n, r, r.length, e⟩

theorem notLongL {n : Nat} (h : n ≤ sizeLine) : Builtin.List.listTooLong n = false := by
  unfold Builtin.List.listTooLong
  exact decide_eq_false (by omega)
end

section
variable {X : Cx}

/-! ### methods -/
def rAppend : V → List V → Hp → VK → Prop := fun x vs H Q => ∃ l xs y, x = .ref l ∧ vs = [y] ∧ H l = some (.lst xs) ∧ xs.length < sizeLine ∧ Q .non (upd H l (.lst (xs ++ [y])))
theorem mt_append : MtM X "list.append" rAppend := by
  intro pins s σ H x vs v us Q I rx rv h
  obtain ⟨l, xs, y, rfl, rfl, hH, hz, q⟩ := h
  cases rx
  obtain ⟨u, rfl, ru⟩ := rv.one
  obtain ⟨z, its, n, r, hl, e⟩ := I.lstM hH
  refine call_meets F.slot_list_append ⟨_, e, rfl⟩ F.entry_list_append (F.args_list_append_2 _ _) (PySem.list_append l its.toArray n u (by rw [List.size_toArray]; omega)) ⟨e, ?_⟩
  refine ⟨.non, _, I.lset (its' := its ++ [u]) hH e (by simp) (r.append (.cons ru .nil)) ?_, rfl, q⟩
  rw [List.length_append, List.length_singleton]
  omega

def rExtend : V → List V → Hp → VK → Prop := fun x vs H Q => ∃ l b xs zs, x = .ref l ∧ vs = [.ref b] ∧ H l = some (.lst xs) ∧ H b = some (.lst zs) ∧ xs.length + zs.length ≤ sizeLine ∧ Q .non (upd H l (.lst (xs ++ zs)))
theorem mt_extend : MtM X "list.extend" rExtend := by
  intro pins s σ H x vs v us Q I rx rv h
  obtain ⟨l, b, xs, zs, rfl, rfl, hH, hB, hz, q⟩ := h
  cases rx
  obtain ⟨u, rfl, ru⟩ := rv.one
  cases ru
  obtain ⟨z, its, n, r, hl, e⟩ := I.lstM hH
  obtain ⟨z2, its2, n2, r2, hl2, e2⟩ := I.lstM hB
  have hsz : its.toArray.size + its2.toArray.size ≤ sizeLine := by rw [List.size_toArray, List.size_toArray]; omega
  have hlong : ¬ (!its.toArray.isEmpty && Builtin.List.listTooLong (its.toArray.size + its2.toArray.size)) = true := by
    rw [notLongL hsz, Bool.and_false]
    exact Bool.false_ne_true
  refine call_meets F.slot_list_extend ⟨_, e, rfl⟩ F.entry_list_extend (F.args_list_extend_2 _ _)
    (AutoSeq1.list_extend_list_list_0 l its.toArray n b its2.toArray n2 hlong (by rw [List.size_toArray]; omega) (by omega)) ⟨e, e2, ?_⟩
  refine ⟨.non, _, I.lset (its' := its ++ its2) hH e (by simp) (r.append r2) ?_, rfl, q⟩
  rw [List.length_append]
  omega

def rPop : V → List V → Hp → VK → Prop := fun x vs H Q => ∃ l xs y, x = .ref l ∧ vs = [] ∧ H l = some (.lst xs) ∧ xs[xs.length - 1]? = some y ∧ Q y (upd H l (.lst xs.dropLast))
theorem mt_pop : MtM X "list.pop" rPop := by
  intro pins s σ H x vs v us Q I rx rv h
  obtain ⟨l, xs, y, rfl, rfl, hH, hy, q⟩ := h
  cases rx
  have hus := rv.zero
  subst hus
  obtain ⟨z, its, n, r, hl, e⟩ := I.lstM hH
  obtain ⟨u, hu, ru⟩ := r.get hy
  have hy' : its.toArray[its.toArray.size - 1]? = some u := by
    show its.toArray[its.length - 1]? = some u
    rw [← Array.getElem?_toList, ← hl]
    exact hu
  refine call_meets F.slot_list_pop ⟨_, e, rfl⟩ F.entry_list_pop (F.args_list_pop_1 _) (MeetsSeq.list_pop_last l its.toArray n u hy' (by rw [List.size_toArray]; omega)) ⟨e, ?_⟩
  refine ⟨y, _, I.lset (its' := its.dropLast) hH e ?_ r.dropLast ?_, ru, q⟩
  · show its.toArray.eraseIdxIfInBounds (its.toArray.size - 1) = its.dropLast.toArray
    rw [List.size_toArray, List.eraseIdxIfInBounds_toArray, erase_last]
  · rw [List.length_dropLast]
    omega




/-! ### list + list, list += list, list * int -/
def rCat : R2 := fun x y H Q => ∃ l b xs zs, x = .ref l ∧ y = .ref b ∧ H l = some (.lst xs) ∧ H b = some (.lst zs) ∧ xs.length + zs.length ≤ sizeLine ∧ ∀ p, H p = none → Q (.ref p) (upd H p (.lst (xs ++ zs)))
theorem op_cat : OpR X (binaryOp .Add) rCat := by
  intro pins s σ H x y v u Q I rx ry h
  obtain ⟨l, b, xs, zs, rfl, rfl, hH, hB, hz, q⟩ := h
  cases rx
  cases ry
  obtain ⟨z, its, n, r, hl, e⟩ := I.lstM hH
  obtain ⟨z2, its2, n2, r2, hl2, e2⟩ := I.lstM hB
  refine PySem.P.add_list e e2 ?_ (by rw [List.size_toArray, List.size_toArray]; omega)
  have ea : its.toArray ++ its2.toArray = (its ++ its2).toArray := by simp
  rw [ea]
  exact ⟨.ref _, _, I.lnew (t' := s.toks) (r.append r2) (by rw [List.length_append]; omega), rfl, q _ I.fresh⟩

/-! ### del xs[i] -/
end

/-! ### xs[a:b] = ys -/
section
variable {prog : Program} {w : World} {A : Around} {E : Value → Shared → Prop} {s : Shared}
end

section
variable {X : Cx}
end
end L2

namespace Att
open PySem PySem.W PySem.Calls PyProof.Rows

/-! ### the script -/
theorem ints_of_wellAll {P : Params} {h : Heap} : ∀ (ns : List Int) (vs : List Value), WellAll P h vs (ns.map WData.int) → IntsAre vs ns := by
  intro ns
  induction ns with
  | nil =>
    intro vs w
    rw [List.map_nil] at w
    cases w
    exact .nil
  | cons n ns ih =>
    intro vs w
    rw [List.map_cons] at w
    cases w with
    | cons a b =>
      cases a
      exact .cons _ _ (ih _ b)

theorem script_of {l : OpenLaw} {n : Nat} (hn : l.most = some n) {P : Params} {h : Heap} {args : List WData} {vals : List Value}
    (hpre : l.row.toRowW.claim.pre args = true) (hwl : WellAll P h vals args) :
    ∃ a vs ns, vals = [Value.ref a] ∧ args = [WData.list (ns.map WData.int)] ∧ h.get? a = some { cls := .type "list", data := .seq vs.toArray } ∧ IntsAre vs ns ∧ ns.length ≤ n := by
  have hsh : WShape.hasAll [] args [.list .int] = true := (pre_splitW hpre).1
  have hc : l.pre.holds [] { args := args } = true := (pre_splitW hpre).2
  obtain ⟨d, r, rfl, h1, h2⟩ := hasAllW_cons hsh
  obtain rfl := hasAllW_nil h2
  obtain ⟨xs, rfl, h3⟩ := hasW_list h1
  obtain ⟨ns, rfl⟩ := items_int h3
  have hlen : ns.length ≤ n := by
    unfold OpenLaw.pre at hc
    have h4 : (WTm.not (.lt (.lit (.int (n : Int))) (.len (.arg 0)))).holds [] { args := [.list (ns.map .int)] } = true := by
      have h4 := (holds_andW hc).1
      rw [hn] at h4
      exact h4
    have h5 := condW_of h4 (w_not (w_lt w_lit (w_len_list (w_arg rfl))))
    rw [List.length_map] at h5
    refine Nat.le_of_not_lt fun q => ?_
    have q' : (n : Int) < ((ns.length : Nat) : Int) := by omega
    first
      | (rw [decide_eq_true q'] at h5; exact absurd h5 (by decide))
      | (simp at h5; omega)
  cases hwl with
  | cons w1 w2 =>
    cases w2
    cases w1 with
    | list ho hall => exact ⟨_, _, ns, rfl, rfl, ho, ints_of_wellAll ns _ hall, hlen⟩

theorem post_true (l : OpenLaw) (args : List WData) : l.row.toRowW.claim.post args (.bool true) args = true :=
  postW_of (r := l.row.toRowW) (X := (true == true))
    (show WShape.has [] (.bool true) .bool = true by first | rfl | decide | simp [WShape.has, WShape.arms, WShape.armsAll])
    (show (WTm.eq .res (.lit (.bool true))).value [] { args := args, res := some (.bool true), after := args } = some (.bool (true == true)) from w_eq_bool (w_res rfl) w_lit) rfl

/-! ### the attachment: holds_open's last premise (the goal 'hc' behind k_head) from a wpAny of the law's body -/

/-- the same from a codeAny of the CALL (for a layer whose function contracts speak of calls) -/
theorem attach_call {l : OpenLaw} {n : Nat} {q : Program} {loose : List Str} {XP : (Str → Option Value) → Heap → Prop} {YP : World → Heap → Prop} {d : DefRec}
    (hn : l.most = some n) (hdf : d.params.defaults = [])
    (call : ∀ (w : World) (s₀ s₁ : Shared) (mg mb : Str → Option Value) (fa : Addr) (o : Obj) (pm cd doc : Value) (a : Addr) (vs : List Value) (ns : List Int),
      Ground q loose [] XP w s₀ mg mb s₁.heap → YP w s₁.heap →
      s₁.heap.get? fa = some o → o.data = .func (docDef d.name d.params d.body d.scope pm cd doc) → s₁.heap.CodeRec cd d.name → mg d.name = some (.ref fa) →
      s₁.heap.get? a = some { cls := .type "list", data := .seq vs.toArray } → IntsAre vs ns → ns.length ≤ n → s₁.gens = #[] →
      codeAny (model l.prog w) callerA (.call (.ref fa) ⟨[.ref a], []⟩) (fun r s' => r = .ok (.ret (.bool true)) ∧ OldK s₁.heap s'.heap ∧ s'.os = s₁.os ∧ AllBare s'.gens) s₁) :
    WalkO q loose XP YP l.row.toRowW d [] (fun f vs => PySem.call f vs) := by
  intro w s₀ s₁ mg mb G Y fa o pm cd doc dV kV ho hd hcd hD hmg hg args vals as hpre hlay hrd hwl hlo
  obtain rfl : dV = .none := Dflts.none hD hdf
  obtain rfl : kV = .none := Dflts.noKw hD
  obtain ⟨a, vs, ns, rfl, rfl, hobj, hints, hlen⟩ := script_of hn hpre hwl
  refine enter_call (codeAny_mono (call w s₀ s₁ mg mb fa o pm cd doc a vs ns G Y ho (fd_plain hd) hcd hmg hobj hints hlen hg) fun r s' hq => ?_)
  obtain ⟨rfl, h2, h3, h4⟩ := hq
  exact ⟨.inl ⟨.bool true, .bool true, [], rfl, fun _ => rfl, .bool true, post_true l _, fun _ => ⟨List.Pairwise.nil, fun _ hm => (nomatch hm)⟩⟩, h2, h3, h4⟩


/-! ### rules over ANY heap (no ledger) from facts about the written part K: the library's own take a ledger (News) for what they write -/
section
variable {prog : Program} {w : World} {A : Around} {E : Value → Shared → Prop} {s : Shared} {K : Frag}





/-! the whole heap as the ledger: makes every rule that writes through a ledger a rule over any heap -/
def ledger (h : Heap) (L d : Addr) : List (Addr × Obj) := (List.range h.objs.size).filterMap fun a => if a = L ∨ a = d then none else (h.get? a).map fun o => (a, o)

end
end Att

namespace L2
open PySem PySem.Spec PyProof.Rows

theorem vals_ints : ∀ {vs : List Value} {ns : List Int}, IntsAre vs ns → Vals (ns.map V.int) vs
  | _, _, .nil => .nil
  | _, _, .cons n t h => .cons ⟨t, rfl⟩ (vals_ints h)

/-- nothing is tracked but the script, known to the object (or it is an object of the module) -/
def Only (H : Hp) : Prop := ∀ b, H b = none ∨ ∃ o xs, H b = some (.frz o (.lst xs))

/-- THE HEAD: the law's promise, at the heap behind the top. F, the promise of the law's def, may use that base is part of the heap (so K.In base, base.Ns mainGlobals mg stand in Mod) -/
theorem law_call {P : Program} {w : World} {K : PySem.W.Frag} {mg mb : Str → Option Value} {CX : CXT} {k : Nat} {fa a : Addr} {fd : FuncData} {x : Str} {sp : Sp} {s₁ : Shared} {vs : List Value} {ns : List Int}
    (KX : K.In s₁.heap) (hns : s₁.heap.Ns mainGlobals mg) (hb : s₁.heap.Ns builtinsNs mb) (hbb : ∀ x : Str, x ≠ "__name__" → mb x = bootBuiltins x) (hlim : s₁.heap.NoLimit) (hg : s₁.gens = #[])
    (ha : s₁.heap.get? a = some { cls := .type "list", data := .seq vs.toArray }) (hi : IntsAre vs ns) (hl : ns.length ≤ sizeLine) (hr : Room k callerA)
    (F : ∀ base : Heap, K.In base → base.Ns mainGlobals mg → FnOk P w K mg base CX k fa fd [x] sp) (hbind : ∀ (s : Shared) (u : Value), BindsTo s fd ⟨[u], []⟩ [(x, u)])
    (hsp : ∀ H : Hp, Only H → SqL K H a (ns.map V.int) → sp [.ref a] H (fun v _ => v = .bl true) fun _ _ _ => False)
    (hCX : ∀ H e s', CX [] H s₁ (fun _ _ _ => False) e s' → False) :
    codeAny (model P w) callerA (.call (.ref fa) ⟨[.ref a], []⟩) (fun r s' => r = .ok (.ret (.bool true)) ∧ OldK s₁.heap s'.heap ∧ s'.os = s₁.os ∧ AllBare s'.gens) s₁ := by
  have rv := vals_ints hi
  have lenV := hi.length
  -- from an abstract heap in which nothing but the script may be tracked
  have core : ∀ H : Hp, Only H → SqL K H a (ns.map V.int) → HOk P w H s₁.heap → (∀ b, H b ≠ none → b = a) → (H a ≠ none → K.lookup a = none) →
      codeAny (model P w) callerA (.call (.ref fa) ⟨[.ref a], []⟩) (fun r s' => r = .ok (.ret (.bool true)) ∧ OldK s₁.heap s'.heap ∧ s'.os = s₁.os ∧ AllBare s'.gens) s₁ := by
    intro H hO hS hok hA hK
    have base_of : ∀ {b : Addr} {o : Obj}, s₁.heap.get? b = some o → H b = none → (hidT s₁.heap H).get? b = some o := fun e n => hidT_get e n
    have noA : ∀ {b : Addr} {o : Obj} {es : Array DictEntry} {ep : Nat}, s₁.heap.get? b = some o → o.data = .dict es ep → H b = none := fun {b o es ep} e d => by
      cases q : H b with
      | none => rfl
      | some u =>
        have e' : b = a := hA b (by rw [q]; simp)
        subst e'
        rw [ha] at e; cases e
        have d' : Data.seq vs.toArray _ = Data.dict es ep := d
        cases d'
    have nsK : ∀ {b : Addr} {m : Str → Option Value}, s₁.heap.Ns b m → (hidT s₁.heap H).Ns b m := fun {b m} ⟨o, es, ep, e, d, r⟩ => ⟨o, es, ep, base_of e (noA e d), d, r⟩
    have hKb : K.In (hidT s₁.heap H) := fun b o e => base_of (KX b o e) (by
      cases q : H b with
      | none => rfl
      | some u =>
        have e' : b = a := hA b (by rw [q]; simp)
        subst e'
        rw [hK (by rw [q]; simp)] at e; cases e)
    have hM : Mod K mg (hidT s₁.heap H) := ⟨hKb, nsK hns, ⟨mb, nsK hb, hbb⟩, let ⟨mc, h1, h2⟩ := hlim; ⟨mc, nsK h1, h2⟩⟩
    have e0 : Env0 P w K mg (hidT s₁.heap H) callerA [] s₁ H := ⟨rfl, hM, fun b o e => of_hidT e, Nat.le_of_eq (hidT_size _ _), trivial, fun b hb => absurd (show b ∈ ([] : List Addr) from hb) (by simp), hok, .of_eq hg⟩
    refine codeAny_mono ((F _ hKb (nsK hns)).run callerA [] s₁ H ⟨[.ref a], []⟩ [.ref a] [.ref a] _ _ hr e0 (hbind s₁ (.ref a)) (.cons rfl .nil) (hsp H hO hS)) fun r s' h => ?_
    cases r with
    | error e => exact (hCX H e s' h).elim
    | ok fl =>
      cases fl with
      | next => exact False.elim h
      | brk => exact False.elim h
      | cont => exact False.elim h
      | ret u =>
        obtain ⟨v, H', os, bare, un, hok', r', q⟩ := h
        have q' : v = .bl true := q
        subst q'
        obtain rfl : u = Value.bool true := r'
        refine ⟨rfl, OldK.of_keep fun b o e => ?_, os, bare⟩
        cases q : H b with
        | none => exact un.keep b o e q (by intro z; exact absurd (show b ∈ ([] : List Addr) from z) (by simp)) (by simp)
        | some u =>
          rcases hO b with z | ⟨ob, xs, z⟩
          · rw [q] at z; cases z
          · have z2 := un.frzs b ob _ z
            obtain ⟨e1, _⟩ := hok b _ z
            obtain ⟨e2, _⟩ := hok' b _ z2
            rw [e] at e1; cases e1
            exact e2
  cases hk : K.lookup a with
  | some o =>
    -- the script is one of the module's own objects
    have e := KX a o hk
    rw [ha] at e
    cases e
    refine core (fun _ => none) (fun _ => .inl rfl) (.inr ⟨_, vs.toArray, _, hk, rfl, rfl, rfl, by rw [List.size_toArray, lenV]; exact hl, by simpa using rv⟩) (fun b u z => by have z' : (none : Option HO) = some u := z; cases z') (fun b z => absurd rfl z) fun z => absurd rfl z
  | none =>
    refine core (fun b => if b = a then some (.frz { cls := .type "list", data := .seq vs.toArray } (.lst (ns.map V.int))) else none) (fun b => ?_) (.inl (.inr ⟨{ cls := .type "list", data := .seq vs.toArray }, if_pos rfl⟩)) (fun b u z => ?_) (fun b z => ?_) fun _ => hk
    · by_cases hb : b = a
      · exact .inr ⟨_, _, if_pos hb⟩
      · exact .inl (if_neg hb)
    · by_cases hb : b = a
      · have z' := (if_pos hb).symm.trans z
        cases z'
        subst hb
        exact ⟨ha, by rw [List.length_map]; exact hl, vs, _, rv, ha⟩
      · have z' := (if_neg hb).symm.trans z
        cases z'
    · by_cases hb : b = a
      · exact hb
      · exact absurd (if_neg hb) z
end L2

namespace L2
open PySem PySem.Spec PyProof.Rows


/-- the goal that k_head leaves (case hc), from the law's promise. F gives the function object fd (K's own) once, then the promise over every base -/
theorem walk_of {l : PySem.W.OpenLaw} {n k : Nat} {q : Program} {loose : List Str} {XP : (Str → Option Value) → Heap → Prop} {YP : World → Heap → Prop} {d : DefRec} {K : Params → PySem.W.Frag} {CX : World → CXT} {sp : World → Sp} {x : Str}
    (hn : l.most = some n) (hn2 : n ≤ sizeLine) (hdf : d.params.defaults = []) (hr : Room k callerA)
    (hY : ∀ (w : World) (h : Heap), YP w h → (K w.params).In h)
    (F : ∀ (w : World) (mg : Str → Option Value) (fa : Addr) (h : Heap), (K w.params).In h → h.Ns mainGlobals mg → mg d.name = some (.ref fa) →
      ∃ fd : FuncData, (∀ (s : Shared) (u : Value), BindsTo s fd ⟨[u], []⟩ [(x, u)]) ∧
        ∀ base : Heap, (K w.params).In base → base.Ns mainGlobals mg → FnOk l.prog w (K w.params) mg base (CX w) k fa fd [x] (sp w))
    (hsp : ∀ (w : World) (H : Hp) (a : Addr) (ns : List Int), ns.length ≤ n → Only H → SqL (K w.params) H a (ns.map V.int) → sp w [.ref a] H (fun v _ => v = .bl true) fun _ _ _ => False)
    (hCX : ∀ (w : World) (H : Hp) (s : Shared) (e : Value) (s' : Shared), CX w [] H s (fun _ _ _ => False) e s' → False) :
    PySem.W.WalkO q loose XP YP l.row.toRowW d [] (fun f vs => PySem.call f vs) := by
  refine Att.attach_call hn hdf fun w s₀ s₁ mg mb fa o pm cd doc a vs ns G Y ho hd hcd hmg hobj hints hlen hg => ?_
  have KX := hY w _ Y
  obtain ⟨fd, hb, hF⟩ := F w mg fa _ KX G.T.g hmg
  exact law_call KX G.T.g G.T.b G.T.builtins G.T.nolimit hg hobj hints (Nat.le_trans hlen hn2) hr hF hb (fun H hO hS => hsp w H a ns hlen hO hS) fun H e s' => hCX w H s₁ e s'
end L2

/- THE LAST THEOREM (shape; LID, My.* are yours):
   My.Adr: a structure of the addresses that your layer names (classes, functions); My.Txt K t: a structure (Prop) of the equations over K;
   My.txt_mk : {K} {implicit addresses ..} (e1 : nsIn K mainGlobals "law" = some (some (.ref f))) (e2 : K.lookup f = some ⟨oc, od, .func (fnOf "law" "law" params body scope dV kV doc pm an cdv ct), sl⟩) (e3 : codeIn K cdv "law" = true) .. : ∃ t, My.Txt K t

(the tactic k_is has no namespace: write k_is) -/

/-! SHORT WORDS over the layer: a def of the text, its body, what a loop and a test want. -/
namespace L2
open PySem PySem.Spec PyProof.Rows

/-! ### the text by places -/
def defArgs (s : Stmt) : Arguments := match s with
  | .FunctionDef _ a _ _ _ _ _ _ _ _ => a
  | _ => { posonlyargs := [], args := [], vararg := none, kwonlyargs := [], kw_defaults := [], kwarg := none, defaults := [] }
def defBody (s : Stmt) : List Stmt := match s with
  | .FunctionDef _ _ b _ _ _ _ _ _ _ => b
  | _ => []
def defScope (s : Stmt) : Scope := match s with
  | .FunctionDef _ _ _ _ _ _ sc _ _ _ => sc
  | _ => { kind := .function, names := [], isGenerator := false, isCoroutine := false }

/-! ### no exception leaves a def -/
abbrev CX0 : CXT := fun _ _ _ _ _ _ => False
abbrev E0 : XK := fun _ _ _ => False
theorem pass0 {X : Cx} : Passes CX0 X E0 := fun _ _ _ _ _ _ _ h => h.elim

/-! ### a def (or method) of the text as it stands behind the top -/
structure Fun (K : PySem.W.Frag) (x qual : Str) (st : Stmt) (f : Addr) (fd : FuncData) : Prop where
  ex : ∃ (oc : Value) (od : Option Addr) (kV doc pm : Value) (an : Option Addr) (cdv ct : Value) (osl : Array (Option Value)),
    fd = PySem.W.fnOf x qual (defArgs st) (defBody st) (defScope st) .none kV doc pm an cdv ct ∧ K.lookup f = some ⟨oc, od, .func fd, osl⟩ ∧ PySem.W.codeIn K cdv qual = true
  kp : PySem.W.keepIn K (.ref f) = true
section
variable {P : Program} {w : World} {K : PySem.W.Frag} {mg : Str → Option Value} {base : Heap}
/-- THE RULE for a def: its body as a term of rules, and the reading of that term -/
theorem Fun.ok {x qual : Str} {st : Stmt} {f : Addr} {fd : FuncData} {N ps : List Str} {k : Nat} {sp : Sp} (F : Fun K x qual st f fd) (S : FnScope N ps (defScope st)) (len : ∀ vs H Q E, sp vs H Q E → vs.length = ps.length)
    (hbody : ∀ (cdv : Value) (A : Around) (outer : List Env) (s : Shared) (H : Hp) (vs : List V) (Q : VK) (E : XK), Room k (A.deeper (envOfC qual (defScope st) s.heap.objs.size f cdv)) → sp vs H Q E →
      ∃ t, PSs (cxOf CX0 P w K mg base N qual (defScope st) f cdv A outer s H E).nox (defBody st) t ∧ t { nx := fun _ H' => Q .non H', rt := Q } (start N vs) H) : FnOk P w K mg base CX0 (k + 1) f fd ps sp := by
  obtain ⟨oc, od, kV, doc, pm, an, cdv, ct, osl, rfl, lk, hcd⟩ := F.ex
  refine fn_of lk hcd S len fun A outer s H vs Q E hr hsp => ?_
  obtain ⟨t, h, q⟩ := hbody cdv A outer s H vs Q E hr hsp
  exact ⟨t, h.nox, q⟩
/-- how its arguments bind (no defaults): h is «fun _ _ _ _ _ _ us hl => match us, hl with | [_, _], _ => rfl», one _ a parameter -/
theorem Fun.binds {x qual : Str} {st : Stmt} {f : Addr} {fd : FuncData} {ps : List Str} (F : Fun K x qual st f fd)
    (h : ∀ (kV doc pm : Value) (an : Option Addr) (cdv ct : Value) (us : List Value), us.length = ps.length → bindArgs (PySem.W.fnOf x qual (defArgs st) (defBody st) (defScope st) .none kV doc pm an cdv ct) ⟨us, []⟩ = pure (ps.zip us)) : Binds K fd ps [] := by
  obtain ⟨oc, od, kV, doc, pm, an, cdv, ct, osl, rfl, lk, hcd⟩ := F.ex
  exact .all (h kV doc pm an cdv ct)
theorem fun_mk {x qual : Str} {st : Stmt} {f : Addr} {oc : Value} {od an : Option Addr} {osl : Array (Option Value)} {kV doc pm cdv ct : Value} (l : K.lookup f = some ⟨oc, od, .func (PySem.W.fnOf x qual (defArgs st) (defBody st) (defScope st) .none kV doc pm an cdv ct), osl⟩)
    (c : PySem.W.codeIn K cdv qual = true) (k : PySem.W.keepIn K (.ref f) = true) : Fun K x qual st f (PySem.W.fnOf x qual (defArgs st) (defBody st) (defScope st) .none kV doc pm an cdv ct) := ⟨⟨oc, od, kV, doc, pm, an, cdv, ct, osl, rfl, l, c⟩, k⟩
end
theorem hu_of {A : Around} {k : Nat} (hr : Room k A) : A.units + 1 < cLine := Nat.lt_of_le_of_lt (Nat.add_le_add_left (by decide : 1 ≤ 64) _) hr.units
theorem small1000 {n : Nat} (h : n ≤ 1000) : n < sizeLine := Nat.lt_of_le_of_lt h (by decide)

/-! ### expressions in short: the name that stands in the i-th slot -/
section
variable {X : Cx}
theorem pv (i : Nat) {x : Str} {pos : Pos} (hN : X.N[i]? = some x := by rfl) (hv : Vis X.env.scope x := by first | exact Or.inl rfl | exact Or.inr (Or.inl rfl) | exact Or.inr (Or.inr rfl)) (hd : (x == ("__debug__" : Str)) = false := by decide)
    (hcd : (x == ("__classdict__" : Str)) = false := by decide) : PE X (.Name x pos) (tVar i) := pe_var hN hv hd hcd
/-- len of a dict -/
theorem call_lenD : CallR X (.builtin "len") (fun xs H Q => ∃ a kvs, xs = [V.ref a] ∧ H a = some (.dK kvs) ∧ Q (.int kvs.length) H) := by
  intro pins s σ H xs us Q I r h
  obtain ⟨a, kvs, rfl, ha, q⟩ := h
  obtain ⟨u, rfl, ru⟩ := vals1 r
  cases ru
  exact d_len I (.inl ha) fun t s' I' => ⟨.int kvs.length, H, I', ⟨t, rfl⟩, q⟩
end

/-! ### tests -/
theorem iteF {A B : Prop} (h : B) : if false = true then A else B := by
  rw [if_neg Bool.false_ne_true]
  exact h

/-! ### heaps -/
/-- all that was tracked is as it was -/
def Same (H H' : Hp) : Prop := ∀ b o, H b = some o → H' b = some o
theorem Same.refl (H : Hp) : Same H H := fun _ _ h => h
theorem Same.trans {H H1 H2 : Hp} (a : Same H H1) (b : Same H1 H2) : Same H H2 := fun c o h => b c o (a c o h)
theorem Same.free {H H' : Hp} (e : Same H H') {l : Addr} (h : H' l = Option.none) : H l = Option.none := by
  cases q : H l with
  | none => rfl
  | some o =>
    rw [e l o q] at h
    cases h
theorem Same.seq {K : PySem.W.Frag} {H H' : Hp} {a : Addr} {xs : List V} (e : Same H H') (h : SqL K H a xs) : SqL K H' a xs := by
  rcases h with (h | ⟨o, h⟩) | h
  · exact .inl (.inl (e _ _ h))
  · exact .inl (.inr ⟨o, e _ _ h⟩)
  · exact .inr h

/-! ### a dict's pairs: keys that differ -/
section
variable {κ : Type} [DecidableEq κ]
end
end L2

set_option Elab.async false
set_option linter.all false
set_option maxRecDepth 100000
/-! own work over the hand layer: list comprehensions, texts walked sign by sign -/
namespace L2
open PySem PySem.Spec PyProof.Rows

/-! ### what a comprehension's block takes from around it -/
def closL (env : Env) : List (Str × NameKind) → List (Str × Addr) → List (Str × Addr)
  | [], cs => cs
  | y :: r, cs => closL env r (if y.2 == NameKind.free then (y.1, (env.cells.lookup y.1).getD 0) :: cs else cs)
theorem forIn_closL {env : Env} (f : Str × NameKind → List (Str × Addr) → Sem (ForInStep (List (Str × Addr)))) :
    ∀ (ns : List (Str × NameKind)) (cs : List (Str × Addr)), (∀ y ∈ ns, ∀ c, f y c = pure (.yield (if y.2 == NameKind.free then (y.1, (env.cells.lookup y.1).getD 0) :: c else c))) →
      forIn ns cs f = pure (closL env ns cs)
  | [], cs, _ => rfl
  | y :: r, cs, h => by
    rw [List.forIn_cons, h y List.mem_cons_self, pure_bind]
    exact forIn_closL f r _ fun z hz => h z (List.mem_cons_of_mem _ hz)
theorem closureFor_of {env : Env} {scope : Scope} (h : ∀ y ∈ scope.names, y.2 = .free → ∃ c, env.cells.lookup y.1 = some c) :
    closureFor scope env = pure (closL env scope.names []) := by
  simp only [closureFor]
  rw [forIn_closL (env := env) _ _ _ (fun y hy c => ?_)]
  · rfl
  · obtain ⟨n, k⟩ := y
    cases hk : (k == NameKind.free) with
    | true =>
      obtain ⟨a, ha⟩ := h (n, k) hy (by simpa using hk)
      have ha' : env.cells.lookup n = some a := ha
      simp only [if_true, cellOf, ha', Option.getD_some, pure_bind]
    | false => simp only [Bool.false_eq_true, if_false]
theorem closL_sub {env : Env} : ∀ (ns : List (Str × NameKind)) (cs : List (Str × Addr)), (∀ y ∈ ns, y.2 = .free → ∃ c, env.cells.lookup y.1 = some c) →
    (∀ n c, cs.lookup n = some c → env.cells.lookup n = some c) → ∀ n c, (closL env ns cs).lookup n = some c → env.cells.lookup n = some c
  | [], cs, _, h, n, c, e => h n c e
  | y :: r, cs, hf, h, n, c, e => by
    refine closL_sub r _ (fun z hz => hf z (List.mem_cons_of_mem _ hz)) (fun n c e => ?_) n c e
    split at e
    · rename_i hk
      obtain ⟨a, ha⟩ := hf y List.mem_cons_self (by simpa using hk)
      rw [ha, Option.getD_some] at e
      cases hn : n == y.1 with
      | true =>
        simp only [List.lookup_cons, hn] at e
        cases e
        rw [eq_of_beq hn]
        exact ha
      | false =>
        simp only [List.lookup_cons, hn] at e
        exact h n c e
    · exact h n c e
theorem closL_has {env : Env} : ∀ (ns : List (Str × NameKind)) (cs : List (Str × Addr)) (n : Str), ((n, NameKind.free) ∈ ns ∨ (cs.lookup n).isSome = true) →
    ((closL env ns cs).lookup n).isSome = true
  | [], cs, n, h => by
    rcases h with h | h
    · cases h
    · exact h
  | y :: r, cs, n, h => by
    refine closL_has r _ n ?_
    rcases h with h | h
    · rcases List.mem_cons.mp h with h | h
      · right
        subst h
        simp
      · exact .inl h
    · right
      split
      · cases hn : n == y.1 with
        | true => simp only [List.lookup_cons, hn]; rfl
        | false => simp only [List.lookup_cons, hn]; exact h
      · exact h

/-- a name's kind within the block -/
def rlab (env : Env) (n : Str) (k : NameKind) : NameKind := if (k == NameKind.free && env.scope.kind == .function && env.kindOf n == some .cell) = true then .cell else k
theorem relab_look (env : Env) (x : Str) : ∀ names : List (Str × NameKind),
    (names.map fun (n, k) => if (k == NameKind.free && env.scope.kind == .function && env.kindOf n == some .cell) then (n, NameKind.cell) else (n, k)).lookup x = (names.lookup x).map (rlab env x)
  | [] => rfl
  | (n, k) :: r => by
    have ih := relab_look env x r
    have e1 : (if (k == NameKind.free && env.scope.kind == .function && env.kindOf n == some .cell) = true then (n, NameKind.cell) else (n, k)) = (n, rlab env n k) := by
      unfold rlab
      split <;> rfl
    rw [List.map_cons]
    show List.lookup x ((if (k == NameKind.free && env.scope.kind == .function && env.kindOf n == some .cell) = true then (n, NameKind.cell) else (n, k)) :: _) = _
    rw [e1]
    cases hx : x == n with
    | true =>
      simp only [List.lookup_cons, hx]
      rw [eq_of_beq hx]
      rfl
    | false =>
      simp only [List.lookup_cons, hx]
      exact ih
theorem relabel_look (scope : Scope) (env : Env) (x : Str) : (relabel scope env).names.lookup x = (scope.names.lookup x).map (rlab env x) := relab_look env x scope.names

/-! ### the block's context -/
/-- its names: the targets, then the outer names at the places mp -/
def lcN (N xs : List Str) (mp : List Nat) : List Str := xs ++ mp.map fun j => N.getD j ""
def lcS (k : Nat) (mp : List Nat) (σ : St) : St := List.replicate k none ++ mp.map fun j => (σ[j]?).getD none
structure LcOk (sc scope : Scope) (N xs : List Str) (mp : List Nat) : Prop where
  kind : scope.kind = .function
  nocell : ∀ y ∈ scope.names, y.2 ≠ .cell
  names : ∀ y ∈ scope.names, y.2 = .local → scope.names.lookup y.1 = some .local
  tg : ∀ x ∈ xs, scope.names.lookup x = some .local
  fr : ∀ y ∈ scope.names, y.2 = .free → sc.names.lookup y.1 = some .cell ∨ sc.names.lookup y.1 = some .free
  out : ∀ j ∈ mp, scope.names.lookup (N.getD j "") = some .free
  nd : (lcN N xs mp).Nodup
def lcChk (sc scope : Scope) (N xs : List Str) (mp : List Nat) : Bool :=
  decide (scope.kind = .function) && scope.names.all (fun y => decide (y.2 ≠ .cell)) && scope.names.all (fun y => decide (y.2 = .local → scope.names.lookup y.1 = some .local)) &&
    xs.all (fun x => decide (scope.names.lookup x = some .local)) && scope.names.all (fun y => decide (y.2 = .free → sc.names.lookup y.1 = some .cell ∨ sc.names.lookup y.1 = some .free)) &&
    mp.all (fun j => decide (scope.names.lookup (N.getD j "") = some .free)) && decide (lcN N xs mp).Nodup
theorem lcChk_ok {sc scope : Scope} {N xs : List Str} {mp : List Nat} (h : lcChk sc scope N xs mp = true) : LcOk sc scope N xs mp := by
  simp only [lcChk, Bool.and_eq_true, List.all_eq_true, decide_eq_true_eq] at h
  obtain ⟨⟨⟨⟨⟨⟨h1, h2⟩, h3⟩, h4⟩, h5⟩, h6⟩, h7⟩ := h
  exact ⟨h1, h2, h3, h4, h5, h6, h7⟩

abbrev lcx (X : Cx) (M : List Str) (scope : Scope) (cl : List (Str × Addr)) (C : Addr) (s₀ : Shared) (H₀ : Hp) (fp : List Addr) : Cx where
  prog := X.prog
  w := X.w
  K := X.K
  mg := X.mg
  base := X.base
  A := X.A
  N := M
  s₀ := s₀
  H₀ := H₀
  env := compEnvC scope cl C X.env
  outer := X.stack
  stack := X.stack
  ex := fp
  fn := fun _ => false
  calm := X.calm
  pn := []
  xe := fun _ _ => False

section
variable {X : Cx} {pins : List (Addr × Obj)} {σ : St} {H₀ : Hp} {s₀ : Shared} {scope sc : Scope} {N xs : List Str} {mp : List Nat} {fp : List Addr}

theorem lc_cells (I : Inv X pins σ H₀ s₀) (hsc : X.env.scope = sc) (S : LcOk sc scope N xs mp) : ∀ y ∈ scope.names, y.2 = .free → ∃ c, X.env.cells.lookup y.1 = some c := fun y hy e => by
  refine I.ok.has y.1 ?_
  have q := S.fr y hy e
  rw [← hsc] at q
  exact q
theorem lc_sub (I : Inv X pins σ H₀ s₀) (hsc : X.env.scope = sc) (S : LcOk sc scope N xs mp) {n : Str} {c : Addr} (e : (closL X.env scope.names []).lookup n = some c) : X.env.cells.lookup n = some c :=
  closL_sub scope.names [] (lc_cells I hsc S) (fun _ _ z => nomatch z) n c e

theorem lc_inv {h₁ : Heap} {o : Obj} {m : Str → Option Value} {tk : Nat} (I : Inv X pins σ H₀ s₀) (hsc : X.env.scope = sc) (S : LcOk sc scope N xs mp) (hf : ∀ b ∈ fp, FpOk X pins H₀ b)
    (hx : ∀ b ∈ fp, ∃ ob, s₀.heap.get? b = some ob) (hns : h₁.Ns s₀.heap.objs.size m) (hsb : Heap.SameBut s₀.heap.objs.size (s₀.heap.push o) h₁) :
    Inv (lcx X (lcN N xs mp) scope (closL X.env scope.names []) s₀.heap.objs.size s₀ H₀ fp) [] (List.replicate (xs.length + mp.length) none) H₀ { s₀ with heap := h₁, toks := tk } := by
  have kp : ∀ b u, s₀.heap.get? b = some u → h₁.get? b = some u := fun b u e => hsb.extBut b u (Nat.ne_of_lt (Heap.lt_size e)) (Heap.get?_push_of_some _ e)
  have sub := @lc_sub X pins σ H₀ s₀ scope sc N xs mp I hsc S
  refine ⟨⟨I.ok.mod, S.kind, I.ok.glob, I.ok.blt, Nat.le_refl _, fun x y c e1 e2 => I.ok.inj x y c (sub e1) (sub e2), fun x hk => ?_, fun x c h _ => (Bool.false_ne_true h).elim, I.ok.hd, I.ok.frames, .inl rfl,
    fun b hb => ⟨?_, fun x c e => (hf b hb).2.2.2.2.1 x c (sub e)⟩, fun b o e => I.bs b o e, Nat.le_trans I.ok.bsz I.sz, fun b o e hb => ?_, fun b hb z => ?_, I.stack, I.stkFree⟩,
    rfl, I.bare, Un.kept kp, ⟨m, hns, fun i x v _ e2 _ => ?_⟩, fun x c e => ?_, I.hok.fresh (Nat.le_refl _), fun x c e => I.freeC x c (sub e), fun p hp => absurd (show p ∈ ([] : List (Addr × Obj)) from hp) (by simp), I.hok.kept kp, ?_⟩
  · have hk' : (relabel scope X.env).names.lookup x = some .cell ∨ (relabel scope X.env).names.lookup x = some .free := hk
    rw [relabel_look] at hk'
    cases e : scope.names.lookup x with
    | none => rw [e] at hk'; rcases hk' with z | z <;> cases z
    | some k =>
      have mem : (x, k) ∈ scope.names := PySem.mem_of_lookup e
      have hkf : k = .free := by
        rw [e] at hk'
        have n1 := S.nocell _ mem
        simp only [Option.map_some, Option.some.injEq] at hk'
        unfold rlab at hk'
        split at hk'
        · rename_i hc
          simp only [Bool.and_eq_true] at hc
          simpa using hc.1.1
        · rcases hk' with z | z
          · exact absurd z n1
          · exact z
      subst hkf
      exact Option.isSome_iff_exists.mp (closL_has scope.names [] x (.inl mem))
  · obtain ⟨ob, e⟩ := hx b hb
    exact Nat.ne_of_lt (Heap.lt_size e)
  · rcases (hf b hb).2.2.2.1 with z | z
    · exact I.ok.noex b o e z
    · exact absurd (Nat.lt_of_lt_of_le (Heap.lt_size (I.ok.bs b o e).1) z) (Nat.lt_irrefl _)
  · rcases List.mem_cons.mp (I.stkSub b z) with e | e
    · exact (hf b hb).2.1 e
    · exact (hf b hb).2.2.1 e
  · rw [List.getElem?_replicate] at e2
    split at e2 <;> cases e2
  · obtain ⟨v, ob, ho, hd⟩ := I.cell x c (sub e)
    exact ⟨v, ob, kp c ob ho, hd⟩
  · show (List.replicate (xs.length + mp.length) none : St).length = (lcN N xs mp).length
    simp [lcN]

/-- between two turns: the targets forgotten, the outer names as they were -/
theorem lc_reset {pY : List (Addr × Obj)} {σ' : St} {H : Hp} {s' : Shared} {C : Addr} (I : Inv X pins σ H₀ s₀) (hsc : X.env.scope = sc) (hN : X.N = N) (S : LcOk sc scope N xs mp) (hf : ∀ b ∈ fp, FpOk X pins H₀ b)
    (J : Inv (lcx X (lcN N xs mp) scope (closL X.env scope.names []) C s₀ H₀ fp) pY σ' H s') : Inv (lcx X (lcN N xs mp) scope (closL X.env scope.names []) C s₀ H₀ fp) pY (lcS xs.length mp σ) H s' := by
  obtain ⟨m, hn, _⟩ := J.loc
  refine ⟨J.ok, J.os, J.bare, J.base, ⟨m, hn, fun i x v e1 e2 e3 => ?_⟩, J.cell, J.free, J.freeC, J.pin, J.hok, ?_⟩
  · have e1' : (lcN N xs mp)[i]? = some x := e1
    unfold lcN at e1'
    unfold lcS at e2
    by_cases hi : i < xs.length
    · rw [List.getElem?_append_left (by simpa using hi), List.getElem?_replicate, if_pos hi] at e2
      cases e2
    · rw [List.getElem?_append_right (by simpa using hi), List.length_replicate, List.getElem?_map] at e2
      rw [List.getElem?_append_right (by simpa using hi), List.getElem?_map] at e1'
      cases ej : mp[i - xs.length]? with
      | none => rw [ej] at e2; cases e2
      | some j =>
        rw [ej] at e1' e2
        have e1'' : N.getD j "" = x := Option.some.inj e1'
        have e2' : (σ[j]?).getD none = some v := Option.some.inj e2
        have e2'' : σ[j]? = some (some v) := by
          cases q : σ[j]? with
          | none => rw [q] at e2'; cases e2'
          | some z => rw [q] at e2'; exact congrArg some e2'
        have hj : j < N.length := by
          have h1 := (List.getElem?_eq_some_iff.mp e2'').1
          rw [I.len, hN] at h1
          exact h1
        have eN : N[j]? = some x := by
          rw [← e1'', List.getD_eq_getElem?_getD]
          cases q : N[j]? with
          | none => exact absurd (List.getElem?_eq_none_iff.mp q) (by omega)
          | some z => rfl
        have fr : scope.names.lookup x = some .free := by rw [← e1'']; exact S.out j (List.mem_of_getElem? ej)
        have mem : (x, NameKind.free) ∈ scope.names := PySem.mem_of_lookup fr
        have kX : X.env.scope.names.lookup x = some .cell ∨ X.env.scope.names.lookup x = some .free := by
          rw [hsc]
          exact S.fr _ mem rfl
        obtain ⟨mX, hnX, hl⟩ := I.loc
        obtain ⟨u, r, lk⟩ := hl j x v (by rw [hN]; exact eN) e2'' (.inr kX)
        rcases lk with ⟨k, _⟩ | ⟨k, c, hc, hcell⟩
        · have k' : X.env.scope.names.lookup x = some .local := k
          rw [k'] at kX
          rcases kX with z | z <;> cases z
        · refine ⟨u, r, .inr ⟨?_, c, ?_, ?_⟩⟩
          · show (relabel scope X.env).names.lookup x = some .cell ∨ (relabel scope X.env).names.lookup x = some .free
            rw [relabel_look, fr]
            simp only [Option.map_some]
            unfold rlab
            split
            · exact .inl rfl
            · exact .inr rfl
          · obtain ⟨c', e'⟩ := Option.isSome_iff_exists.mp (closL_has (env := X.env) scope.names [] x (.inl mem))
            have e'' := lc_sub I hsc S e'
            rw [hc] at e''
            cases e''
            exact e'
          · obtain ⟨ob, ho, hd⟩ := hcell
            obtain ⟨sl, q⟩ := J.base.any ho (I.freeC x c hc) fun z => (hf c z).2.2.2.2.1 x c hc rfl
            exact ⟨_, q, hd⟩
  · show (lcS xs.length mp σ).length = (lcN N xs mp).length
    simp [lcS, lcN]

theorem lc_back {pY : List (Addr × Obj)} {σ' : St} {H : Hp} {s' : Shared} {C : Addr} {M : List Str} {cl : List (Str × Addr)} (I : Inv X pins σ H₀ s₀) (hf : ∀ b ∈ fp, FpOk X pins H₀ b)
    (J : Inv (lcx X M scope cl C s₀ H₀ fp) pY σ' H s') : Inv X pins σ H s' :=
  I.call' (ch := fp) J.os J.base J.hok J.bare fun b hb => ⟨(hf b hb).2.2.2.1, (hf b hb).2.1, (hf b hb).2.2.2.2.1, (hf b hb).2.2.2.2.2⟩
end

/-! ### the loop -/
theorem compLoop_of {prog : Program} {w : World} {A : Around} {R : Result → Shared → Prop} {s : Shared} {elt target iter : Expr} {ifs : List Expr} {scope : Scope} {pos : Pos} {it acc : Value} {env : Env} (I : Nat → Shared → Prop)
    (turn : ∀ n s, I n s → wpAny (model prog w) A (pyNext it) (fun r s1 => match r with
      | none => R (.ok .next) s1
      | some v => wpAny (model prog w) A (letOwnedTupleGo target it v) (fun _ s1' => wpAny (model prog w) A (assign target env v) (fun _ s2 =>
          wpAny (model prog w) A (forIn ifs true fun c r => if r = true then do let ok ← isTrue c env (eval c env); pure (ForInStep.yield ok) else pure (ForInStep.yield r)) (fun ok s3 =>
            if ok = true then wpAny (model prog w) A (eval elt env) (fun x s4 => wpAny (model prog w) A (call (.builtin "list.append") [acc, x]) (fun _ s5 => ∃ m, m < n ∧ I m s5) (fun _ _ => False) s4) (fun _ _ => False) s3
            else ∃ m, m < n ∧ I m s3) (fun _ _ => False) s2) (fun _ _ => False) s1') (fun _ _ => False) s1) (fun _ _ => False) s)
    (n : Nat) (h : I n s) : codeAny (model prog w) A (.compLoop (.ListComp elt [⟨target, iter, ifs, 0⟩] scope pos) 0 it acc env) R s := by
  refine codeAny_loop rfl I (fun n s hI => ?_) n h
  show wpAny (model prog w) A ((compTurn (.ListComp elt [⟨target, iter, ifs, 0⟩] scope pos) 0 it acc env).onRaise (fun x => do noteFrame x env; theTreesLotGoes x)) _ _ s
  refine wpAny_noted ?_
  rw [compTurn_list]
  refine wpAny_bind (wpAny_standAt (wpAny_bind (wpAny_mono (turn n s hI) (fun r s1 h1 => ?_) fun _ _ z => z.elim)))
  cases r with
  | none => exact wpAny_pure h1
  | some v =>
    refine wpAny_bind (wpAny_mono h1 (fun _ s1' h1' => ?_) fun _ _ z => z.elim)
    refine wpAny_bind (wpAny_mono h1' (fun _ s2 h2 => wpAny_bind (wpAny_mono h2 (fun ok s3 h3 => ?_) fun _ _ z => z.elim)) fun _ _ z => z.elim)
    cases ok with
    | false => exact wpAny_pure ⟨rfl, h3⟩
    | true => exact wpAny_bind (wpAny_bind (wpAny_mono h3 (fun x s4 h4 => wpAny_bind (wpAny_mono h4 (fun _ s5 h5 => wpAny_pure (wpAny_pure ⟨rfl, h5⟩)) fun _ _ z => z.elim)) fun _ _ z => z.elim))

/-- the tests of a clause -/
def PCs (X : Cx) (ifs : List Expr) (t : TT) : Prop :=
  ∀ (pins : List (Addr × Obj)) (s : Shared) (σ : St) (H : Hp) (Q : Bool → Hp → Prop), Inv X pins σ H s → t σ H Q →
    wpAny (model X.prog X.w) X.A (forIn ifs true fun c r => if r = true then do let ok ← isTrue c X.env (eval c X.env); pure (ForInStep.yield ok) else pure (ForInStep.yield r)) (TP X pins σ Q) X.xe s
def tYes : TT := fun _ H Q => Q true H
theorem pcs_nil {X : Cx} : PCs X [] tYes := fun _ _ _ H _ I h => wpAny_tests_nil ⟨H, I, h⟩
theorem pcs_one {X : Cx} {c : Expr} {t : TT} (h : PT X c t) : PCs X [c] t := fun pins s σ H Q I hw => wpAny_tests_one (h pins s σ H Q I hw)

/-- what a comprehension asks, behind its iterator: W by the turn, a measure, the items so far -/
def lcPost (k : Nat) (mp : List Nat) (σ : St) (g : TG) (tc : TT) (te : TE) (J : It) (H1 : Hp) (Q : VK) : Prop :=
  ∀ D, H1 D = none → ∃ W : Nat → Nat → List V → Hp → Prop, (∃ m, W 0 m [] (upd H1 D (.lst []))) ∧ ∀ i m acc H2, W i m acc H2 →
    (J.stop i H2 ∧ Q (.ref D) H2) ∨ (J.go i H2 ∧ ∀ x H3, J.yld i H2 x H3 → g x (lcS k mp σ) H3 fun σ4 H4 => tc σ4 H4 fun b H5 =>
      if b = true then te σ4 H5 fun v H6 => H6 D = some (.lst acc) ∧ acc.length < sizeLine ∧ ∃ m', m' < m ∧ W (i + 1) m' (acc ++ [v]) (upd H6 D (.lst (acc ++ [v])))
      else ∃ m', m' < m ∧ W (i + 1) m' acc H5)
def tLc (k : Nat) (mp : List Nat) (wi : TI) (g : TG) (tc : TT) (te : TE) : TE := fun σ H Q => wi σ H fun J H1 => lcPost k mp σ g tc te J H1 Q

section
variable {X : Cx} {pins : List (Addr × Obj)} {σ : St} {elt tgt iter : Expr} {ifs : List Expr} {scope sc : Scope} {pos : Pos} {N xs : List Str} {mp : List Nat} {wi : TI} {g : TG} {tc : TT} {te : TE}

theorem lc_run {H2 : Hp} {s2 : Shared} {it : Addr} {fp : List Addr} {tn : Nat → Heap → Prop} {J : It} {Qv : VK} {E : Value → Shared → Prop} {RR : Value → Addr → Result → Shared → Prop}
    (hsc : X.env.scope = sc) (hN : X.N = N) (S : LcOk sc scope N xs mp) (hcalm : X.calm = true)
    (hg : ∀ cl C s₀ H₀ fp, PG (lcx X (lcN N xs mp) scope cl C s₀ H₀ fp) tgt g) (hc : ∀ cl C s₀ H₀ fp, PCs (lcx X (lcN N xs mp) scope cl C s₀ H₀ fp) ifs tc) (he : ∀ cl C s₀ H₀ fp, PE (lcx X (lcN N xs mp) scope cl C s₀ H₀ fp) elt te)
    (I2 : Inv X pins σ H2 s2) (T : Turn X.prog X.w X.K tgt J fp it tn) (st2 : tn 0 s2.heap) (f2 : ∀ b ∈ fp, FpOk X pins H2 b) (h : lcPost xs.length mp σ g tc te J H2 Qv)
    (hRR : ∀ (D C : Addr) (s' : Shared) (H' : Hp) (m : Str → Option Value), s'.heap.Ns C m → Inv X pins σ H' s' → FpOk X pins H' C → Qv (.ref D) H' → RR (.ref D) C (.ok .next) s') :
    wpAny (model X.prog X.w) X.A (newList []) (fun acc s3 => wpAny (model X.prog X.w) X.A (newFunctionEnv scope X.env.globals (closL X.env scope.names []) [] X.env.qual none .none (some X.env)) (fun cenv s4 =>
      codeAny (model X.prog X.w) X.A (.compStart (.ListComp elt [⟨tgt, iter, ifs, 0⟩] scope pos) 0 (.ref it) acc { cenv with scope := relabel scope X.env }) (RR acc cenv.locals) s4) E s3) E s2 := by
  have hD : H2 s2.heap.objs.size = none := I2.hok.fresh (Nat.le_refl _)
  obtain ⟨W, ⟨m0, w0⟩, turn⟩ := h s2.heap.objs.size hD
  refine wpAny_newObj_type (wpAny_newFunctionEnv S.nocell (by intro y hy; simp at hy) (fun h1 hns1 hsb1 => ?_) S.kind)
  dsimp only at hns1 hsb1 ⊢
  have fpD : ∀ b ∈ fp, b ≠ s2.heap.objs.size := fun b hb => by
    obtain ⟨o, e, _⟩ := T.obj _ _ st2 b hb
    exact Nat.ne_of_lt (Heap.lt_size e)
  have I3 : Inv X pins σ (upd H2 s2.heap.objs.size (.lst [])) { s2 with heap := s2.heap.push { cls := .type "list", dict := none, data := .seq ([] : List Value).toArray } } :=
    I2.laid (t' := s2.toks) (fun b u e => Heap.get?_push_of_some _ e) (Nat.le_refl _) ⟨Nat.zero_le _, [], 0, .nil, Heap.get?_push_size _ rfl⟩
  have f3 : ∀ b ∈ fp, FpOk X pins (upd H2 s2.heap.objs.size (.lst [])) b := fun b hb => ⟨by rw [upd_ne (fpD b hb)]; exact (f2 b hb).1, (f2 b hb).2⟩
  generalize hs3 : ({ s2 with heap := s2.heap.push { cls := .type "list", dict := none, data := .seq ([] : List Value).toArray } } : Shared) = s3 at I3
  have hh3 : s2.heap.push { cls := .type "list", dict := none, data := .seq ([] : List Value).toArray } = s3.heap := by rw [← hs3]
  have kp3 : ∀ b o, s2.heap.get? b = some o → s3.heap.get? b = some o := fun b o e => by rw [← hh3]; exact Heap.get?_push_of_some _ e
  rw [hh3] at hns1 hsb1 ⊢
  have st3 : tn 0 s3.heap := T.keep _ _ _ st2 fun b _ o e => kp3 b o e
  have x3 : ∀ b ∈ fp, ∃ o, s3.heap.get? b = some o := fun b hb => by
    obtain ⟨o, e, _⟩ := T.obj _ _ st3 b hb
    exact ⟨o, e⟩
  have st4 : tn 0 h1 := T.keep _ _ _ st3 fun b _ o e => hsb1.extBut b o (Nat.ne_of_lt (Heap.lt_size e)) (Heap.get?_push_of_some _ e)
  have I4 := fun tk => lc_reset I3 hsc hN S f3 (lc_inv (tk := tk) I3 hsc S f3 x3 hns1 hsb1)
  have key : ∀ s4 : Shared, s4 = { s3 with heap := h1, toks := s4.toks } → codeAny (model X.prog X.w) X.A (.compLoop (.ListComp elt [⟨tgt, iter, ifs, 0⟩] scope pos) 0 (.ref it) (.ref s2.heap.objs.size) (compEnvC scope (closL X.env scope.names []) s3.heap.objs.size X.env))
      (RR (.ref s2.heap.objs.size) s3.heap.objs.size) s4 := by
    intro s4 hs4
    have stat : ∀ {H' : Hp}, (∀ b ∈ fp, H' b = none) → ∀ b ∈ fp, FpOk (lcx X (lcN N xs mp) scope (closL X.env scope.names []) s3.heap.objs.size s3 (upd H2 s2.heap.objs.size (.lst [])) fp) [] H' b := fun hn b hb =>
      ⟨hn b hb, ((I4 0).ok.exf b hb).1, (I4 0).ok.exfs b hb, .inl hb, ((I4 0).ok.exf b hb).2, fun p hp => absurd (show p ∈ ([] : List (Addr × Obj)) from hp) (by simp)⟩
    refine compLoop_of (fun n s' => ∃ i acc H', Inv (lcx X (lcN N xs mp) scope (closL X.env scope.names []) s3.heap.objs.size s3 (upd H2 s2.heap.objs.size (.lst [])) fp) [] (lcS xs.length mp σ) H' s' ∧ tn i s'.heap ∧ (∀ b ∈ fp, H' b = none) ∧ W i n acc H') ?_ m0
      ⟨0, [], _, (by rw [hs4]; exact I4 _), (by rw [hs4]; exact st4), fun b hb => (f3 b hb).1, w0⟩
    rintro n s6 ⟨i, acc, H6, I6, st6, fr6, w6⟩
    rcases turn i n acc H6 w6 with ⟨stop, q⟩ | ⟨go, step⟩
    · refine thn (T.done (lcx X (lcN N xs mp) scope (closL X.env scope.names []) s3.heap.objs.size s3 (upd H2 s2.heap.objs.size (.lst [])) fp) rfl rfl rfl hcalm i [] s6 _ H6 _ I6 (stat fr6) st6 stop) fun r s7 ⟨hr, I7⟩ => ?_
      subst hr
      obtain ⟨m7, hn7, _⟩ := I7.loc
      exact hRR _ _ s7 H6 m7 hn7 (lc_back I3 f3 I7) (I3.fpOk (Nat.le_refl _) I7.free) q
    · refine thn (T.item (lcx X (lcN N xs mp) scope (closL X.env scope.names []) s3.heap.objs.size s3 (upd H2 s2.heap.objs.size (.lst [])) fp) rfl rfl rfl hcalm i [] s6 _ H6 _ I6 (stat fr6) st6 go) fun r s7 ⟨u, hr, h7⟩ => ?_
      subst hr
      refine thn h7 fun _ s8 ⟨x, H8, I8, r8, y8, st8, fr8⟩ => ?_
      have I8' := I8.pinned (stat fr8) (T.obj _ _ st8)
      have again : ∀ {σ' : St} {H' : Hp} {s' : Shared}, Inv (lcx X (lcN N xs mp) scope (closL X.env scope.names []) s3.heap.objs.size s3 (upd H2 s2.heap.objs.size (.lst [])) fp) ([] ++ pinsAt fp s8.heap) σ' H' s' → (∃ m acc', m < n ∧ W (i + 1) m acc' H') →
          ∃ m, m < n ∧ ∃ i acc H', Inv (lcx X (lcN N xs mp) scope (closL X.env scope.names []) s3.heap.objs.size s3 (upd H2 s2.heap.objs.size (.lst [])) fp) [] (lcS xs.length mp σ) H' s' ∧ tn i s'.heap ∧ (∀ b ∈ fp, H' b = none) ∧ W i m acc H' := by
        intro σ' H' s' J ⟨m, acc', hm, w'⟩
        refine ⟨m, hm, i + 1, acc', H', lc_reset I3 hsc hN S f3 J.unpinned, T.keep _ _ _ st8 fun b hb o e => (J.pin (b, o) (List.mem_append_right _ (List.mem_append_right _ (mem_pinsAt hb e)))).1, fun b hb => ?_, w'⟩
        obtain ⟨o, e, _⟩ := T.obj _ _ st8 b hb
        exact (J.pin (b, o) (List.mem_append_right _ (List.mem_append_right _ (mem_pinsAt hb e)))).2.1
      refine thn (hg _ _ _ _ _ _ s8 _ H8 x u _ I8' r8 (step x H8 y8)) fun _ s9 ⟨σ9, H9, I9, q9⟩ => ?_
      refine thn (hc _ _ _ _ _ _ s9 σ9 H9 _ I9 q9) fun b s10 ⟨H10, I10, q10⟩ => ?_
      cases b with
      | false =>
        obtain ⟨m', hm, w'⟩ := q10
        exact again I10 ⟨m', acc, hm, w'⟩
      | true =>
        refine thn (he _ _ _ _ _ _ s10 σ9 H10 _ I10 q10) fun yv s11 ⟨v, H11, I11, r11, hDa, hz, m', hm, w'⟩ => ?_
        refine thn (mt_append _ s11 σ9 H11 (.ref s2.heap.objs.size) [v] (.ref s2.heap.objs.size) [yv] (fun _ H12 => H12 = upd H11 s2.heap.objs.size (.lst (acc ++ [v]))) I11 rfl (.cons r11 .nil) ⟨_, acc, v, rfl, rfl, hDa, hz, rfl⟩) fun _ s12 ⟨_, H12, I12, _, e12⟩ => ?_
        subst e12
        exact again I12 ⟨m', _, hm, w'⟩
  subst hs3
  exact codeAny_compStart_list (key _ rfl) (T.self X.A 0 _ _ _ st4 (key _ rfl))

/-- [elt for tgt in iter if ..] -/
theorem pe_lcomp (sc : Scope) (N xs : List Str) (mp : List Nat) (hcalm : X.calm = true) (hi : PI X tgt iter wi) (hg : ∀ cl C s₀ H₀ fp, PG (lcx X (lcN N xs mp) scope cl C s₀ H₀ fp) tgt g)
    (hc : ∀ cl C s₀ H₀ fp, PCs (lcx X (lcN N xs mp) scope cl C s₀ H₀ fp) ifs tc) (he : ∀ cl C s₀ H₀ fp, PE (lcx X (lcN N xs mp) scope cl C s₀ H₀ fp) elt te)
    (S : lcChk sc scope N xs mp = true := by decide +kernel) (hsc : X.env.scope = sc := by rfl) (hN : X.N = N := by rfl) (hs : ∀ x, foldedSetIterable iter X.env x = pure x := by intro _; rfl) :
    PE X (.ListComp elt [⟨tgt, iter, ifs, 0⟩] scope pos) (tLc xs.length mp wi g tc te) := by
  intro pins s σ H Q I h
  have S' := lcChk_ok S
  rw [eval_ListComp]
  refine wpAny_comprehension_free (use := none) rfl hs (closureFor_of (lc_cells I hsc S')) S'.kind S'.names (thn (hi pins s σ H _ I h) fun v s1 h1 => thn h1 fun itv s2 h2 => ?_)
  obtain ⟨it, fp, tn, J, H2, e, I2, T, st2, f2, h3⟩ := h2
  subst e
  refine lc_run (RR := fun acc C => compPost (model X.prog X.w) X.A X.xe none (EP X pins σ Q) acc C) hsc hN S' hcalm hg hc he I2 T st2 f2 h3 ?_
  intro D C s' H' m hn I' fC q
  exact ⟨m, hn, fun h' hs' => ⟨.ref D, H', I'.turned (t' := s'.toks) (fun b o hb e => hs'.extBut b o hb e) fC.1 fC.2.1 fC.2.2.2.1 fC.2.2.2.2.1 fC.2.2.2.2.2, rfl, q⟩⟩

/-- name = [elt for tgt in iter if ..], the name no cell -/
theorem ps_lcomp {i : Nat} {x : Str} {pos' spos : Pos} (sc : Scope) (N xs : List Str) (mp : List Nat) (hNd : X.N.Nodup) (hix : X.N[i]? = some x) (hx : Loc X.env.scope x) (hcalm : X.calm = true) (hi : PI X tgt iter wi) (hg : ∀ cl C s₀ H₀ fp, PG (lcx X (lcN N xs mp) scope cl C s₀ H₀ fp) tgt g)
    (hc : ∀ cl C s₀ H₀ fp, PCs (lcx X (lcN N xs mp) scope cl C s₀ H₀ fp) ifs tc) (he : ∀ cl C s₀ H₀ fp, PE (lcx X (lcN N xs mp) scope cl C s₀ H₀ fp) elt te)
    (S : lcChk sc scope N xs mp = true := by decide +kernel) (hsw : swapsWith (.ListComp elt [⟨tgt, iter, ifs, 0⟩] scope pos) (some (.Name x pos')) spos.line X.env = pure true := by rfl)
    (hsc : X.env.scope = sc := by rfl) (hN : X.N = N := by rfl) (hs : ∀ x, foldedSetIterable iter X.env x = pure x := by intro _; rfl) (hf : X.fn x = true ∨ X.env.scope.names.lookup x = some .local := by first | exact .inl rfl | exact .inr rfl | assumption) :
    PS X (.Assign [.Name x pos'] (.ListComp elt [⟨tgt, iter, ifs, 0⟩] scope pos) spos) (tAsg (tLc xs.length mp wi g tc te) (gName i)) := by
  intro pins s σ H D I h
  have S' := lcChk_ok S
  rw [exec_Assign_Name_used _ _ _ _ hsw]
  refine wpAny_bind (wpAny_standAt (wpAny_bind ?_))
  show wpAny (model X.prog X.w) X.A (do let _ ← comprehension (.ListComp elt [⟨tgt, iter, ifs, 0⟩] scope pos) scope X.env _ (newList []) false (eval iter X.env) (some (assign (.Name x pos') X.env))) _ _ s
  refine wpAny_bind (wpAny_mono (wpAny_comprehension_free (use := some (assign (.Name x pos') X.env)) (Q := fun _ s' => SP X pins D .next s') rfl hs (closureFor_of (lc_cells I hsc S')) S'.kind S'.names
    (thn (hi pins s σ H _ I h) fun v s1 h1 => thn h1 fun itv s2 h2 => ?_)) (fun _ s' hq => wpAny_pure (wpAny_pure hq)) fun _ _ e => e)
  obtain ⟨it, fp, tn, J, H2, e, I2, T, st2, f2, h3⟩ := h2
  subst e
  refine lc_run (RR := fun acc C => compPost (model X.prog X.w) X.A X.xe (some (assign (.Name x pos') X.env)) (fun _ s' => SP X pins D .next s') acc C) hsc hN S' hcalm hg hc he I2 T st2 f2 h3 ?_
  intro D' C s' H' m hn I' fC q
  show wpAny (model X.prog X.w) X.A (assign (.Name x pos') X.env (.ref D')) _ _ s'
  refine wpAny_assign_Name (store_ok2 I' hNd hix hx (v := .ref D') rfl (fun s'' I'' ⟨a, sb, ha⟩ => ?_) hf)
  have nC : C ≠ a := by
    rcases ha with z | z
    · rw [z]; exact fC.2.1
    · exact fun e => fC.2.2.2.2.1 x a z e.symm
  refine ⟨m, hn.sameBut sb nC, fun h' hs' => ⟨_, H', I''.turned (t' := s''.toks) (fun b o hb e => hs'.extBut b o hb e) fC.1 fC.2.1 fC.2.2.2.1 fC.2.2.2.2.1 fC.2.2.2.2.2, q⟩⟩
end

/-! ### the forms one uses -/
def TSame (H H' : Hp) : Prop := ∀ b xs, H b = some (.tup xs) → H' b = some (.tup xs)
theorem Same.tup {H H' : Hp} (h : Same H H') : TSame H H' := fun b xs e => h b _ e
theorem TSame.trans {H H1 H2 : Hp} (a : TSame H H1) (b : TSame H1 H2) : TSame H H2 := fun c xs e => b c xs (a c xs e)
theorem tsame_upd_lst {H : Hp} {D : Addr} {xs ys : List V} (h : H D = some (.lst xs)) : TSame H (upd H D (.lst ys)) := fun b zs e => by
  rw [upd_ne (fun z => by rw [z, h] at e; cases e)]
  exact e
theorem same_upd_new {H : Hp} {D : Addr} {o : HO} (h : H D = none) : Same H (upd H D o) := fun b u e => by
  rw [upd_ne (ne_of_none e h)]
  exact e
/-- no test; the items by R, which speaks of tuples alone -/
theorem lc_map {k : Nat} {mp : List Nat} {σ : St} {g : TG} {te : TE} {J : It} {H1 : Hp} {Q : VK} (n : Nat) (xs : Nat → V) (R : Nat → V → Hp → Prop) (hn : n ≤ sizeLine)
    (hR : ∀ i v H H', TSame H H' → R i v H → R i v H')
    (hJ : ∀ H, Same H1 H → (∀ i, i < n → J.go i H ∧ ∀ x H', J.yld i H x H' → H' = H ∧ x = xs i) ∧ J.stop n H)
    (step : ∀ i H (Qe : VK), i < n → Same H1 H → (∀ v H6, Same H H6 → R i v H6 → Qe v H6) → g (xs i) (lcS k mp σ) H fun σ4 H4 => te σ4 H4 Qe)
    (done : ∀ D vs H', vs.length = n → (∀ i v, vs[i]? = some v → R i v H') → Same H1 H' → H1 D = none → H' D = some (.lst vs) → Q (.ref D) H') : lcPost k mp σ g tYes te J H1 Q := by
  intro D hD
  refine ⟨fun i m acc H => m = n - i ∧ i ≤ n ∧ acc.length = i ∧ Same H1 H ∧ H D = some (.lst acc) ∧ ∀ j v, acc[j]? = some v → R j v H, ⟨n, by simp, Nat.zero_le _, rfl, same_upd_new hD, upd_same, fun j v e => by simp at e⟩, ?_⟩
  rintro i m acc H ⟨rfl, hi, hl, hs, hDa, hr⟩
  obtain ⟨j1, j2⟩ := hJ H hs
  by_cases hlt : i < n
  · refine .inr ⟨(j1 i hlt).1, fun x H3 y => ?_⟩
    obtain ⟨e1, e2⟩ := (j1 i hlt).2 x H3 y
    subst e1 e2
    refine step i H3 _ hlt hs fun v H6 s6 r6 => ⟨s6 _ _ hDa, by omega, n - (i + 1), by omega, rfl, hlt, by rw [List.length_append, hl]; rfl, fun b o e => ?_, upd_same, fun j u e => ?_⟩
    · rw [upd_ne (ne_of_none e hD)]
      exact s6 _ _ (hs b o e)
    · have ts : TSame H6 (upd H6 D (.lst (acc ++ [v]))) := tsame_upd_lst (s6 _ _ hDa)
      rcases Nat.lt_trichotomy j acc.length with h | h | h
      · rw [List.getElem?_append_left h] at e
        exact hR _ _ _ _ (s6.tup.trans ts) (hr j u e)
      · subst h
        rw [List.getElem?_append_right (Nat.le_refl _), Nat.sub_self] at e
        cases e
        rw [hl]
        exact hR _ _ _ _ ts r6
      · rw [List.getElem?_eq_none (by rw [List.length_append, List.length_singleton]; omega)] at e
        cases e
  · have e : i = n := by omega
    subst e
    exact .inl ⟨j2, done D acc H hl hr hs hD hDa⟩

theorem jt_list {K : PySem.W.Frag} {a : Addr} {ys : List V} {H1 : Hp} (h : SqL K H1 a ys) : ∀ H, Same H1 H → (∀ i, i < ys.length → (Itl K a).go i H ∧ ∀ x H', (Itl K a).yld i H x H' → H' = H ∧ x = ys.getD i .non) ∧ (Itl K a).stop ys.length H := fun H s => by
  have q := s.seq h
  refine ⟨fun i hi => ⟨⟨ys, ys[i], q, by simp [hi]⟩, fun x H' y => ⟨y.1, ?_⟩⟩, ⟨ys, q, Nat.le_refl _⟩⟩
  have e := y.2 ys q
  rw [List.getD_eq_getElem?_getD, e]
  rfl
theorem jt_range {lo : Int} {n : Nat} {H1 : Hp} : ∀ H, Same H1 H → (∀ i, i < n → (Itr lo n).go i H ∧ ∀ x H', (Itr lo n).yld i H x H' → H' = H ∧ x = .int (lo + i)) ∧ (Itr lo n).stop n H := fun H _ =>
  ⟨fun i hi => ⟨hi, fun x H' y => y⟩, Nat.le_refl _⟩

/-! ### a text's signs -/
end L2

set_option Elab.async false
set_option linter.all false
set_option maxRecDepth 100000
/-! own work over the hand layer: texts, sums, sorting, deep data -/
namespace L2
open PySem PySem.Spec PyProof.Rows

section
variable {X : Cx}

/-! ### slices, products, joins of texts -/

theorem op_mulS : OpR X (binaryOp .Mult) (fun x y H Q => ∃ (z : Str) (n : Int), x = .str z ∧ y = .int n ∧ MulOk z n ∧ Q (.str (Txt.mul z n)) H) := by
  intro pins s σ H x y v u Q I rx ry h
  obtain ⟨z, n, rfl, rfl, hok, q⟩ := h
  obtain ⟨t, rfl⟩ := rx
  obtain ⟨t', rfl⟩ := ry
  exact SB.mul hok fun t' k => ⟨.str _, H, I.tok _, ⟨_, rfl⟩, q⟩



/-! ### all, sum over a list -/

theorem preSum_list : ∀ (ns : List Int) (k : Nat), preSum (fun i => ns.getD i 0) k = (ns.take k).sum
  | ns, 0 => by simp [preSum]
  | ns, k + 1 => by
    rw [preSum, preSum_list ns k]
    by_cases h : k < ns.length
    · rw [List.take_add_one, List.getElem?_eq_getElem h, List.getD_eq_getElem?_getD, List.getElem?_eq_getElem h]
      simp only [List.sum_append, Option.toList_some, List.sum_cons, List.sum_nil, Option.getD_some]
      omega
    · have h' : ns.length ≤ k := Nat.le_of_not_lt h
      rw [List.take_of_length_le h', List.take_of_length_le (Nat.le_succ_of_le h'), List.getD_eq_getElem?_getD, List.getElem?_eq_none h']
      simp
theorem call_sumL (hc : X.calm = true) : CallR X (.builtin "sum") (fun xs H Q => ∃ (a : Addr) (ns : List Int), xs = [.ref a] ∧ SqL X.K H a (ns.map V.int) ∧ (∀ n ∈ ns, InLong n) ∧ (∀ k, InLong (ns.take k).sum) ∧ Q (.int ns.sum) H) := by
  intro pins s σ H xs us Q I r h
  obtain ⟨a, ns, rfl, hq, h1, h2, q⟩ := h
  obtain ⟨u, rfl, ru⟩ := vals1 r
  cases ru
  obtain ⟨its, rv, pl, hz⟩ := I.list hq
  have hl := rv.length
  rw [List.length_map] at hl
  have hlt : a < s.heap.objs.size := by
    obtain ⟨o, n, e, _⟩ := pl
    exact Heap.lt_size e
  refine call_sum_walk (wpAny_pyIter_list pl.isList ⟨s.heap.objs.size, [s.heap.objs.size, a], [s.heap.objs.size], its.toArray.size, _, _, fun i => ns.getD i 0, rfl, Walks.list (A := X.A.in1) (I.ok.hd hc) _ _ (Nat.ne_of_lt hlt) its.toArray,
    ⟨⟨_, Heap.get?_push_size _ rfl, rfl, rfl⟩, pl.isList.push _⟩, ?_, ?_, ?_, ?_⟩)
  · intro b hb
    show b < (s.heap.push _).objs.size
    rw [Heap.size_push]
    have : b = s.heap.objs.size ∨ b = a := by simpa using hb
    rcases this with z | z
    · rw [z]; exact Nat.lt_succ_self _
    · rw [z]; exact Nat.lt_succ_of_lt hlt
  · intro i v hv
    have e1 : its[i]? = some v := by simpa using hv
    have hi : i < its.length := (List.getElem?_eq_some_iff.mp e1).1
    have hb : (ns.map V.int)[i]? = some (.int (ns.getD i 0)) := by
      rw [List.getElem?_map, List.getD_eq_getElem?_getD]
      cases e : ns[i]? with
      | none => exact absurd (List.getElem?_eq_none_iff.mp e) (by omega)
      | some b => rfl
    obtain ⟨u', hu, ru⟩ := rv.get hb
    rw [e1] at hu
    cases hu
    exact ru
  · intro j hj
    have hj' : j < ns.length := by rw [hl]; simpa using hj
    refine ⟨?_, ?_⟩
    · show InLong (ns.getD j 0)
      rw [List.getD_eq_getElem?_getD, List.getElem?_eq_getElem hj']
      exact h1 _ (List.getElem_mem hj')
    · rw [preSum_list]
      exact h2 _
  · intro h' tk t' kk
    refine ⟨.int ns.sum, H, I.kept fun b o e => kk b o (by simpa using Nat.ne_of_lt (Heap.lt_size e)) (Heap.get?_push_of_some _ e), ⟨t', ?_⟩, q⟩
    rw [preSum_list, List.take_of_length_le (by rw [List.size_toArray]; omega)]

/-! ### sorted of texts -/

/-! ### isinstance -/
def clsV : V → Option Value
  | .ty n => some (.type n)
  | .ref a => some (.ref a)
  | _ => none
theorem call_isi : CallR X (.builtin "isinstance") (fun xs H Q => ∃ (x c : V) (t cv : Value) (b : Bool), xs = [x, c] ∧ TyOf X.K H x t ∧ clsV c = some cv ∧ PySem.W.kitOne X.K t cv = some b ∧ Q (.bl b) H) := by
  intro pins s σ H xs us Q I r h
  obtain ⟨x, c, t, cv, b, rfl, ty, rc, e, q⟩ := h
  obtain ⟨u, w', rfl, ru, rw'⟩ := vals2 r
  have ec : w' = cv := by
    cases c with
    | ty n => exact (show w' = Value.type n from rw').trans (Option.some.inj rc)
    | ref n => exact (show w' = Value.ref n from rw').trans (Option.some.inj rc)
    | _ => cases rc
  subst ec
  exact isinst_ok I ru ty e fun tk => ⟨.bl b, H, I.tok _, rfl, q⟩
end

/-! ### deep data: tuples and lists of ints, bools, texts, None -/
mutual
def RepD (H : Hp) : PyData → V → Prop
  | .none, v => v = .non
  | .bool b, v => v = .bl b
  | .int i, v => v = .int i
  | .str x, v => v = .str x
  | .tuple ds, v => ∃ a xs, v = .ref a ∧ H a = some (.tup xs) ∧ RepA H ds xs
  | .list ds, v => ∃ a xs, v = .ref a ∧ H a = some (.lst xs) ∧ RepA H ds xs
  | .dict _, _ => False
def RepA (H : Hp) : List PyData → List V → Prop
  | [], xs => xs = []
  | d :: ds, xs => ∃ v vs, xs = v :: vs ∧ RepD H d v ∧ RepA H ds vs
end
mutual
theorem RepD.same {H H' : Hp} (h : Same H H') : ∀ (d : PyData) (v : V), RepD H d v → RepD H' d v
  | .none, _, r => r
  | .bool _, _, r => r
  | .int _, _, r => r
  | .str _, _, r => r
  | .tuple ds, v, r => by
    rw [RepD] at r ⊢
    obtain ⟨a, xs, e, e2, q⟩ := r
    exact ⟨a, xs, e, h _ _ e2, RepA.same h ds xs q⟩
  | .list ds, v, r => by
    rw [RepD] at r ⊢
    obtain ⟨a, xs, e, e2, q⟩ := r
    exact ⟨a, xs, e, h _ _ e2, RepA.same h ds xs q⟩
  | .dict _, v, r => by
    rw [RepD] at r
    exact r.elim
theorem RepA.same {H H' : Hp} (h : Same H H') : ∀ (ds : List PyData) (vs : List V), RepA H ds vs → RepA H' ds vs
  | [], _, r => r
  | d :: ds, vs, r => by
    rw [RepA] at r ⊢
    obtain ⟨v, us, e, q1, q2⟩ := r
    exact ⟨v, us, e, RepD.same h d v q1, RepA.same h ds us q2⟩
end
section
variable {X : Cx} {pins : List (Addr × Obj)} {σ : St} {H : Hp} {s : Shared}
mutual
theorem RepD.reads (I : Inv X pins σ H s) : ∀ (d : PyData) (v : V) (u : Value), RepD H d v → RelV v u → ∃ as, Reads s.heap u d as
  | .none, v, u, r, q => by
    rw [RepD] at r
    subst r
    cases q
    exact ⟨_, .none⟩
  | .bool b, v, u, r, q => by
    rw [RepD] at r
    subst r
    cases q
    exact ⟨_, .bool b⟩
  | .int i, v, u, r, q => by
    rw [RepD] at r
    subst r
    obtain ⟨t, rfl⟩ := q
    exact ⟨_, .int i t⟩
  | .str x, v, u, r, q => by
    rw [RepD] at r
    subst r
    obtain ⟨t, rfl⟩ := q
    exact ⟨_, .str x t⟩
  | .tuple ds, v, u, r, q => by
    rw [RepD] at r
    obtain ⟨a, xs, e, e2, q2⟩ := r
    subst e
    cases q
    obtain ⟨its, rv, ⟨o, h1, h2, n, h3⟩, _⟩ := I.tuple (SqT.of e2)
    obtain ⟨as, q3⟩ := RepA.reads I ds xs its q2 rv
    exact ⟨_, .tuple h1 h2 h3 (by simpa using q3)⟩
  | .list ds, v, u, r, q => by
    rw [RepD] at r
    obtain ⟨a, xs, e, e2, q2⟩ := r
    subst e
    cases q
    obtain ⟨its, rv, ⟨o, n, h1, h2, _, h3⟩, _⟩ := I.list (SqL.of e2)
    obtain ⟨as, q3⟩ := RepA.reads I ds xs its q2 rv
    exact ⟨_, .list h1 h2 h3 (by simpa using q3)⟩
  | .dict _, v, u, r, q => by
    rw [RepD] at r
    exact r.elim
theorem RepA.reads (I : Inv X pins σ H s) : ∀ (ds : List PyData) (vs : List V) (us : List Value), RepA H ds vs → Vals vs us → ∃ as, ReadsAll s.heap us ds as
  | [], vs, us, r, q => by
    rw [RepA] at r
    subst r
    cases q
    exact ⟨_, .nil⟩
  | d :: ds, vs, us, r, q => by
    rw [RepA] at r
    obtain ⟨v, vs', e, q1, q2⟩ := r
    subst e
    cases q with
    | cons p1 p2 =>
      obtain ⟨as, r1⟩ := RepD.reads I d v _ q1 p1
      obtain ⟨bs, r2⟩ := RepA.reads I ds vs' _ q2 p2
      exact ⟨_, .cons r1 r2⟩
end
end
section
variable {X : Cx}
theorem op_eqD (hu : X.A.units + 64 < cLine) : OpR X (compareOp .Eq) (fun x y H Q => ∃ da db, RepD H da x ∧ RepD H db y ∧ SeqAt.shaped da = true ∧ SeqAt.shaped db = true ∧ Q (.bl (PyData.eqv da db)) H) := by
  intro pins s σ H x y v u Q I rx ry h
  obtain ⟨da, db, r1, r2, s1, s2, q⟩ := h
  obtain ⟨as, q1⟩ := RepD.reads I da x v r1 rx
  obtain ⟨bs, q2⟩ := RepD.reads I db y u r2 ry
  exact eq_dataH q1 q2 s1 s2 hu ⟨.bl _, H, I, rfl, q⟩
end
end L2

set_option Elab.async false
set_option linter.all false
set_option maxRecDepth 100000
/-! own work over the hand layer: defs without addresses, isinstance by names, texts as lists of codes -/
namespace L2
open PySem PySem.Spec PyProof.Rows

/-! ### a def of the text, its promise -/
structure HasDef (K : PySem.W.Frag) (mg : Str → Option Value) (name : Str) (st : Stmt) (ps : List Str) : Prop where
  ex : ∃ f fd, Fun K name name st f fd ∧ Binds K fd ps [] ∧ mg name = some (.ref f)
structure FOk (P : Program) (w : World) (K : PySem.W.Frag) (mg : Str → Option Value) (base : Heap) (k : Nat) (name : Str) (ps : List Str) (sp : Sp) : Prop where
  ex : ∃ f fd, FnOk P w K mg base CX0 k f fd ps sp ∧ Binds K fd ps [] ∧ mg name = some (.ref f) ∧ PySem.W.keepIn K (.ref f) = true
section
variable {P : Program} {w : World} {K : PySem.W.Frag} {mg : Str → Option Value} {base : Heap}
theorem HasDef.ok {name : Str} {st : Stmt} {N ps : List Str} {k : Nat} {sp : Sp} (D : HasDef K mg name st ps) (S : FnScope N ps (defScope st)) (len : ∀ vs H Q E, sp vs H Q E → vs.length = ps.length)
    (hbody : ∀ (f : Addr) (cdv : Value) (A : Around) (outer : List Env) (s : Shared) (H : Hp) (vs : List V) (Q : VK) (E : XK), Room k (A.deeper (envOfC name (defScope st) s.heap.objs.size f cdv)) → sp vs H Q E →
      ∃ t, PSs (cxOf CX0 P w K mg base N name (defScope st) f cdv A outer s H E).nox (defBody st) t ∧ t { nx := fun _ H' => Q .non H', rt := Q } (start N vs) H) : FOk P w K mg base (k + 1) name ps sp := by
  obtain ⟨f, fd, F, b, m⟩ := D.ex
  exact ⟨f, fd, F.ok S len fun cdv A outer s H vs Q E => hbody f cdv A outer s H vs Q E, b, m, F.kp⟩
theorem FOk.mono {name : Str} {ps : List Str} {j k : Nat} {sp : Sp} (G : FOk P w K mg base j name ps sp) (h : j ≤ k) : FOk P w K mg base k name ps sp := by
  obtain ⟨f, fd, F, r⟩ := G.ex
  exact ⟨f, fd, F.mono h, r⟩
end
theorem pe_fn {X : Cx} {k : Nat} {name : Str} {ps : List Str} {sp : Sp} {p pos : Pos} {e : Expr} {es : List Expr} {t : TA} (G : FOk X.prog X.w X.K X.mg X.base k name ps sp) (hr : Room k X.A) (ha : PA X (e :: es) t) (hg : Gl X name := by rfl)
    (hdb : (name == ("__debug__" : Str)) = false := by decide) (he : starEach (e :: es) X.env = (false, eval e X.env) :: starEach es X.env := by rfl) (hpl : (backTo pos (starEach es X.env)).any (·.1) = false := by rfl) :
    PE X (.Call (.Name name p) (e :: es) [] pos) (tCall sp [] E0 t) := by
  obtain ⟨f, fd, F, b, m, kp⟩ := G.ex
  exact pe_call F hr hg m kp b .nil pass0 ha hdb he hpl

/-! ### isinstance by names -/
inductive TyB (H : Hp) : V → String → Prop where
  | non : TyB H .non "NoneType"
  | bl (b : Bool) : TyB H (.bl b) "bool"
  | int (i : Int) : TyB H (.int i) "int"
  | str (x : Str) : TyB H (.str x) "str"
  | lst {a : Addr} {xs : List V} (e : H a = some (.lst xs)) : TyB H (.ref a) "list"
  | tup {a : Addr} {xs : List V} (e : H a = some (.tup xs)) : TyB H (.ref a) "tuple"
  | dK {a : Addr} {kvs : List (Key × V)} (e : H a = some (.dK kvs)) : TyB H (.ref a) "dict"
theorem TyB.of {K : PySem.W.Frag} {H : Hp} {x : V} {n : String} (h : TyB H x n) : TyOf K H x (.type n) := by
  cases h with
  | non => exact .non
  | bl b => exact .bl b
  | int i => exact .int i
  | str x => exact .str x
  | lst e => exact .lst e
  | tup e => exact .tup e
  | dK e => exact .dK e
def tyNames : List String := ["NoneType", "bool", "int", "str", "list", "tuple", "dict"]
theorem TyB.mem {H : Hp} {x : V} {n : String} (h : TyB H x n) : n ∈ tyNames := by
  cases h <;> simp [tyNames]
def isiB (n c : String) : Bool := n == c || (n == "bool" && c == "int")
def clNames : List String := ["int", "bool", "str", "tuple", "list"]

def kitB (a b : String) : Option Bool := if (Value.type a == Value.type b) = true then some true else if PySem.W.kitMeta b = true then (fastBuiltinMro a).map (·.contains (Value.type b)) else none
theorem kitB_ok : ∀ n ∈ tyNames, ∀ c ∈ clNames, kitB n c = some (isiB n c) := by decide +kernel
theorem call_isiB {X : Cx} : CallR X (.builtin "isinstance") (fun xs H Q => ∃ (x : V) (c n : String), xs = [x, .ty c] ∧ c ∈ clNames ∧ TyB H x n ∧ Q (.bl (isiB n c)) H) := by
  intro pins s σ H xs us Q I r h
  obtain ⟨x, c, n, rfl, hc, ty, q⟩ := h
  exact call_isi pins s σ H _ us Q I r ⟨x, .ty c, _, _, _, rfl, ty.of, rfl, kitB_ok n ty.mem c hc, q⟩

/-! ### names of Python's own -/
theorem b_isi : bootBuiltins "isinstance" = some (.builtin "isinstance") := by decide +kernel
theorem b_len : bootBuiltins "len" = some (.builtin "len") := by decide +kernel
theorem b_sum : bootBuiltins "sum" = some (.builtin "sum") := by decide +kernel
theorem b_max : bootBuiltins "max" = some (.builtin "max") := by decide +kernel
theorem b_sorted : bootBuiltins "sorted" = some (.builtin "sorted") := by decide +kernel
theorem b_int : bootBuiltins "int" = some (.type "int") := by decide +kernel
theorem b_bool : bootBuiltins "bool" = some (.type "bool") := by decide +kernel
theorem b_tuple : bootBuiltins "tuple" = some (.type "tuple") := by decide +kernel
theorem b_list : bootBuiltins "list" = some (.type "list") := by decide +kernel
theorem pe_ty {X : Cx} {x : Str} {c : String} {pos : Pos} (hg : Gl X x) (hm : X.mg x = none) (hv : bootBuiltins x = some (.type c)) (hn : x ≠ "__name__" := by decide) (hd : (x == ("__debug__" : Str)) = false := by decide) : PE X (.Name x pos) (tC (.ty c)) :=
  pe_bltn hg hm hv (show RelV (.ty c) (.type c) from rfl) hn hd
theorem pg_lc {X : Cx} {N xs : List Str} {mp : List Nat} {scope : Scope} {cl : List (Str × Addr)} {C : Addr} {s₀ : Shared} {H₀ : Hp} {fp : List Addr} (i : Nat) {x : Str} {pos : Pos} (nd : (lcN N xs mp).Nodup := by decide +kernel) (hi : (lcN N xs mp)[i]? = some x := by rfl)
    (hx : (lcx X (lcN N xs mp) scope cl C s₀ H₀ fp).env.scope.names.lookup x = some .local := by rfl) : PG (lcx X (lcN N xs mp) scope cl C s₀ H₀ fp) (.Name x pos) (gName i) := pg_name nd hi (.inl hx) (.inr hx)

/-! ### texts as lists of codes -/
def tx (l : List Nat) : Str := ⟨l.toArray⟩
theorem tx_list (l : List Nat) : (tx l).cps.toList = l := by simp [tx]
theorem tx_len (l : List Nat) : (tx l).length = l.length := by simp [tx, Str.length]
theorem tx_eta (x : Str) : tx x.cps.toList = x := by simp [tx]
theorem ix_listK {X : Cx} (K : PySem.W.Frag) (h : X.K = K := by rfl) : IxR X (rIxL K) := by subst h; exact ix_list
theorem size_small {n : Nat} (h : n ≤ 16777216) : n ≤ sizeLine := by rw [sizeLine_eq]; exact h
end L2

set_option Elab.async false
set_option linter.all false
set_option maxRecDepth 100000
namespace L2
open PySem PySem.Spec PyProof.Rows PySem.Builtin.Str

section
variable {X : Cx}
theorem pg_tupK {es : List Expr} {k : Nat} {t : TGs} {pos : Pos} (n : Nat) (K : PySem.W.Frag) (hc : X.calm = true) (h : PGs X es t) (hK : X.K = K := by rfl)
    (hn : (assignEach es X.env).length = n := by rfl) (hst : (assignEach es X.env).findIdx? (·.1) = none := by rfl) : PG X (.Tuple es k pos) (gTup K n t) := by
  subst hK
  exact pg_tup hc h hn hst
end

/-! ### slices and products by codes -/
theorem len_codes (x : Str) : x.cps.toList.length = x.length := by simp [Str.length]
theorem foldl_arr : ∀ (l : List (Array Nat)) (a : Array Nat), (l.foldl (· ++ ·) a).toList = a.toList ++ (l.map Array.toList).flatten
  | [], a => by simp
  | b :: l, a => by
    rw [List.foldl_cons, foldl_arr l]
    simp
theorem mul_codes {x : Str} {n : Int} (h : 1 ≤ n) (hx : x.length ≠ 0) : (Txt.mul x n).cps.toList = (List.replicate n.toNat x.cps.toList).flatten := by
  unfold Txt.mul
  rw [if_neg (by omega)]
  split
  · rename_i c
    simp only [Bool.or_eq_true, beq_iff_eq] at c
    rcases c with c | c
    · subst c
      simp
    · exact absurd c hx
  · rw [foldl_arr]
    simp
theorem mulOk_of {x : Str} {n : Int} (h1 : 1 ≤ n) (h2 : n ≤ 1000) (h3 : x.length ≤ 1000) : MulOk x n := by
  refine ⟨?_, ?_, ?_⟩
  · have a : ¬ n < -(2 ^ 63) := by omega
    have b : ¬ n ≥ 2 ^ 63 := by omega
    rw [decide_eq_false a, decide_eq_false b]
    rfl
  · intro _ _ q
    have : (1000 : Int) ≤ (2 ^ 63 - 1) / n := by
      rw [Int.le_ediv_iff_mul_le (by omega)]
      omega
    omega
  · intro _ _
    have : x.length * n.toNat ≤ 1000 * 1000 := Nat.mul_le_mul h3 (by omega)
    unfold tooLong
    have hs : sizeLine = 16777216 := sizeLine_eq
    exact decide_eq_false (by omega)
theorem item_at {α : Type} {l : List α} {i : Int} {c : α} (h0 : 0 ≤ i) (h : l[i.toNat]? = some c) : atI l i = some c := by
  obtain ⟨j, rfl⟩ := Int.eq_ofNat_of_zero_le h0
  exact atI_nat h
end L2

set_option Elab.async false
set_option linter.all false
set_option maxRecDepth 100000
namespace L2
open PySem PySem.Spec PyProof.Rows
/-! ### a block cut at a place: what holds there is said, and both parts are read apart -/
/-! ### cuts of a row -/
end L2

set_option Elab.async false
set_option linter.all false
set_option maxRecDepth 100000
/-! own work over the hand layer: exceptions of the text's own classes, raised, passed on, caught -/
namespace L2
open PySem PySem.Spec PyProof.Rows

/-! ### an own exception class, as it stands in the fragment -/

/-! ### how an exception lies behind a call -/




section
variable {X : Cx} {E : XK} {pins : List (Addr × Obj)} {σ : St} {H : Hp} {s : Shared}

end

/-! ### a def that may raise -/
end L2

set_option Elab.async false
set_option linter.all false
set_option maxRecDepth 100000
/-! own work over the hand layer: try round a call, except an own class, as a name -/
namespace L2
open PySem PySem.Spec PyProof.Rows

section
variable {X : Cx} {pins : List (Addr × Obj)} {σ : St} {H : Hp} {s : Shared}

end


end L2

set_option Elab.async false
set_option linter.all false
set_option maxRecDepth 100000
/-! own work: the sorting of the model by any strict order of unlike keys -/
namespace Srt
open PySem PySem.W PyProof.Rows
section
variable {n : Nat} {lt : Nat → Nat → Bool} {cmp : Nat → Nat → (Bool → Shared → Prop) → Shared → Prop} {G : Shared → Prop}
structure Ord (n : Nat) (lt : Nat → Nat → Bool) : Prop where
  tr : ∀ i j k, lt i j = true → lt j k = true → lt i k = true
  asy : ∀ i j, lt i j = true → lt j i = false
  tot : ∀ i j, i < n → j < n → i ≠ j → lt i j = true ∨ lt j i = true
structure Pm (n : Nat) (p : Array Nat) : Prop where
  size : p.size = n
  perm : p.Perm (List.range n).toArray
variable (o : Ord n lt) (hc : ∀ i j C s, i < n → j < n → i ≠ j → G s → (∀ s', G s' → C (lt i j) s') → cmp i j C s)
include o hc
omit o hc in
omit o hc in
end
end Srt

set_option Elab.async false
set_option linter.all false
set_option maxRecDepth 100000
/-! own work over the hand layer: d.items(), sorted of a dict's items -/
namespace L2
open PySem PySem.Spec PyProof.Rows PySem.W

section
variable {prog : Program} {w : World} {A : Around} {E : Value → Shared → Prop} {s : Shared}
end

/-! ### several new objects at once -/
theorem ObjOk.there' {P : Program} {w : World} {H : Hp} {h : Heap} {a : Addr} {o : HO} (x : ObjOk P w H h a o) : ∃ u, h.get? a = some u := by
  cases o with
  | lst xs => obtain ⟨_, _, _, _, e⟩ := x; exact ⟨_, e⟩
  | tup xs => obtain ⟨_, _, _, ⟨_, e, _⟩, _⟩ := x; exact ⟨_, e⟩
  | dK kvs => obtain ⟨_, _, _, _, o, _, _, e, _⟩ := x; exact ⟨_, e⟩
  | dT kvs => obtain ⟨_, _, _, _, o, _, _, e, _⟩ := x; exact ⟨_, e⟩
  | set S n => obtain ⟨o, _, _, _, e, _⟩ := x; exact ⟨_, e⟩
  | ins C dx fs => obtain ⟨_, _, _, e, _⟩ := x; exact ⟨_, e⟩
  | own y => exact x
  | xd fs => obtain ⟨_, ⟨_, _, _, e, _⟩, _⟩ := x; exact ⟨_, e⟩
  | rng lo hi => obtain ⟨_, _, _, e⟩ := x; exact ⟨_, e⟩
  | frz ob u => obtain ⟨e, _⟩ := x; exact ⟨_, e⟩
  | tbl ps => exact ⟨_, show h.get? a = some _ from x⟩
  | met f y => exact ⟨_, show h.get? a = some _ from x⟩
  | ext φ => obtain ⟨_, e, _⟩ := x; exact e
section
variable {X : Cx} {pins : List (Addr × Obj)} {σ : St} {H : Hp} {s : Shared}
theorem Inv.laidN {N : Addr → Option HO} {h1 : Heap} {tk : Nat} (I : Inv X pins σ H s) (k : ∀ b u, s.heap.get? b = some u → h1.get? b = some u) (hN : ∀ a o, N a = some o → s.heap.get? a = none ∧ ∀ H2, ObjOk X.prog X.w H2 h1 a o) :
    Inv X pins σ (fun b => (N b).or (H b)) { s with heap := h1, toks := tk } := by
  have low : ∀ b u, s.heap.get? b = some u → N b = none := fun b u hb => by
    cases q : N b with
    | none => rfl
    | some o => rw [(hN b o q).1] at hb; cases hb
  have old : ∀ b u, H b = some u → (N b).or (H b) = some u := fun b u q => by
    obtain ⟨v, hv⟩ := (I.hok b u q).there'
    rw [low b v hv, Option.none_or]
    exact q
  refine I.un ⟨fun b o q _ _ _ => k b o q, fun b o q _ _ _ => ⟨o.slots, k b o q⟩, fun b o q n _ => ?_, fun b o q _ => ⟨o, k b o q⟩, fun b xs q => old b _ q, fun b o u q => old b _ q, fun b ps q => ⟨#[], by rw [old b _ q]; simp⟩⟩ fun a o q => ?_
  · show (N b).or (H b) = none
    rw [low b o q, Option.none_or]
    exact n
  · cases e : N a with
    | some u =>
      rw [e, Option.some_or] at q
      cases q
      exact (hN a o e).2 _
    | none =>
      rw [e, Option.none_or] at q
      exact (I.hok a o q).stay (fun b u _ z => k b u z) (fun b z => old b _ z) fun b xs z => old b _ z
end

/-! ### d.items(), sorted(d.items()) -/
end L2
namespace L2
open PySem PySem.Spec PyProof.Rows PySem.W
end L2

set_option Elab.async false
set_option linter.all false
set_option maxRecDepth 100000
/-! own work over the hand layer: isinstance of a caught exception -/
namespace L2
open PySem PySem.Spec PyProof.Rows PySem.W
section
variable {prog : Program} {w : World} {A : Around} {E : Value → Shared → Prop} {s : Shared} {K : Frag} {a C : Addr} {o : Obj}
end

/-! ### isinstance(e, C), isinstance(e, (C, ..)) within an except suite -/
end L2

set_option Elab.async false
set_option linter.all false
set_option maxRecDepth 100000
namespace L2
open PySem PySem.Spec PyProof.Rows
theorem mt_appendR {X : Cx} : MtR X "list.append" rAppend := mt_append
theorem hasDef_mk {K : PySem.W.Frag} {h : Heap} {mg : Str → Option Value} {name : Str} {st : Stmt} {ps : List Str} {f : Addr} {oc : Value} {od an : Option Addr} {sl : Array (Option Value)} {kV dc pm cd ct : Value} (X : K.In h) (G : h.Ns mainGlobals mg)
    (a : PySem.W.nsIn K mainGlobals name = some (some (.ref f))) (l : K.lookup f = some ⟨oc, od, .func (PySem.W.fnOf name name (defArgs st) (defBody st) (defScope st) .none kV dc pm an cd ct), sl⟩) (c : PySem.W.codeIn K cd name = true) (k : PySem.W.keepIn K (.ref f) = true)
    (hb : ∀ (kV doc pm : Value) (an : Option Addr) (cdv ct : Value) (us : List Value), us.length = ps.length → bindArgs (PySem.W.fnOf name name (defArgs st) (defBody st) (defScope st) .none kV doc pm an cdv ct) ⟨us, []⟩ = pure (ps.zip us)) : HasDef K mg name st ps :=
  ⟨_, _, fun_mk (st := st) l c k, (fun_mk (st := st) l c k).binds hb, PySem.W.mg_of X G a⟩
end L2

set_option Elab.async false
set_option linter.all false
set_option maxRecDepth 100000
namespace L2
open PySem PySem.Spec PyProof.Rows
theorem iteP {c : Bool} {A B : Prop} (h : c = true) (a : A) : if c = true then A else B := by rw [if_pos h]; exact a
theorem iteM {c : Bool} {A B : Prop} (h : c = false) (b : B) : if c = true then A else B := by rw [h]; exact iteF b
theorem int_ne {a b : Int} (h : ¬ a = b) : decide (V.int a = V.int b) = false := decide_eq_false fun q => h (by injection q)
theorem int_is {a b : Int} (h : a = b) : decide (V.int a = V.int b) = true := decide_eq_true (congrArg V.int h)
theorem menuS {ts : List Str} {i : Int} (h0 : 0 ≤ i) (h1 : i < ts.length) : ∃ t ∈ ts, atI (ts.map V.str) i = some (.str t) := by
  obtain ⟨j, rfl⟩ := Int.eq_ofNat_of_zero_le h0
  have hj : j < ts.length := by omega
  refine ⟨ts[j], List.getElem_mem hj, item_at h0 ?_⟩
  rw [List.getElem?_map, Int.toNat_natCast, List.getElem?_eq_getElem hj]
  rfl
end L2

set_option Elab.async false
set_option linter.all false
set_option maxRecDepth 100000
namespace L2
open PySem PySem.Spec PyProof.Rows PySem.Builtin.Str
/-- (a, b, ..) = a list of that length -/
def gTupL (K : PySem.W.Frag) (n : Nat) (t : TGs) : TG := fun v σ H Q => ∃ a xs, v = .ref a ∧ SqL K H a xs ∧ xs.length = n ∧ t xs σ H Q
theorem pg_tupL {X : Cx} {es : List Expr} {k : Nat} {t : TGs} {pos : Pos} (n : Nat) (K : PySem.W.Frag) (hc : X.calm = true) (h : PGs X es t) (hK : X.K = K := by rfl)
    (hn : (assignEach es X.env).length = n := by rfl) (hst : (assignEach es X.env).findIdx? (·.1) = none := by rfl) : PG X (.Tuple es k pos) (gTupL K n t) := by
  subst hK
  intro pins s σ H v u Q I r hw
  obtain ⟨a, xs, e1, hq, hl, hw⟩ := hw
  subst e1
  cases r
  obtain ⟨its, rv, ⟨o, m, ho, hc1, hd1, hs1⟩, hz⟩ := I.list hq
  have ht : s.heap.IsList a its.toArray := ⟨o, ho, hc1, m, hs1⟩
  rw [assign_Tuple]
  refine wpAny_bind (wpAny_standAt ?_)
  unfold unpack
  rw [show (assignEach es X.env).length = its.toArray.size by simp [hn, ← hl, rv.length], hst]
  refine wpAny_bind (wpAny_holding (PySem.W.kun_itemsOf (I.ok.hd hc) ht fun h' hx => ?_))
  have I1 : Inv X pins σ H { s with heap := h' } := I.kept (t' := s.toks) fun b o e => hx b o (Nat.ne_of_lt (Heap.lt_size e)) e
  exact h pins _ σ H xs _ Q I1 (by simpa using rv) hw
end L2

set_option Elab.async false
set_option linter.all false
set_option maxRecDepth 100000
namespace L2
open PySem PySem.Spec PyProof.Rows
/-! ### an iterator of one kind or another -/
/-! ### isinstance(x, (A, B)) of Python's own classes -/
/-! ### x * n of a text, n from 0 on -/
theorem mulOk_nat {x : Str} {n : Int} (h1 : 0 ≤ n) (h2 : n ≤ 1000) (h3 : x.length ≤ 1000) : MulOk x n := by
  by_cases c : 1 ≤ n
  · exact L2.mulOk_of c h2 h3
  · have : n = 0 := by omega
    subst this
    exact ⟨rfl, fun z => absurd (by decide) z, fun z => absurd (by decide) z⟩
end L2

set_option Elab.async false
set_option linter.all false
set_option maxRecDepth 100000
namespace Sh
open PySem L2 PyProof.Rows
theorem emod_bd (a : Int) {n : Int} (h : 0 < n) : 0 ≤ a % n ∧ a % n < n := ⟨Int.emod_nonneg _ (by omega), Int.emod_lt_of_pos _ h⟩
theorem app_codes (a b : Str) : (a ++ b).cps.toList = a.cps.toList ++ b.cps.toList := by simp [Str.cps_append]
theorem codes_inj {a b : Str} (h : a.cps.toList = b.cps.toList) : a = b := by rw [← tx_eta a, ← tx_eta b, h]
theorem tx_app (a b : List Nat) : tx a ++ tx b = tx (a ++ b) := by
  apply codes_inj
  rw [app_codes, tx_list, tx_list, tx_list]
theorem letters_list : (("abcdefghijklmnopqrstuvwxyz" : Str)).cps.toList = (List.range 26).map (· + 97) := by decide +kernel
theorem letter_at {i : Int} (h0 : 0 ≤ i) (h1 : i < 26) : atI (("abcdefghijklmnopqrstuvwxyz" : Str)).cps.toList i = some (i.toNat + 97) := by
  refine item_at h0 ?_
  rw [letters_list, List.getElem?_map, List.getElem?_range (by omega)]
  rfl
theorem cut63 (xs : List V) (h : xs.length ≤ 63) : cutV xs none (some 63) = xs := by
  have e1 : HT.sIx xs.length 0 none = 0 := rfl
  have e2 : HT.sIx xs.length xs.length (some 63) = xs.length := by
    unfold HT.sIx
    simp
    omega
  unfold cutV
  rw [e1, e2]
  simp
theorem atI_nat' {xs : List V} {i : Nat} {v : V} (h : xs[i]? = some v) : atI xs (i : Int) = some v := atI_nat h
theorem few_size {n : Nat} (h : n ≤ 1000) : n ≤ sizeLine := size_small (by omega)
/-- the items of a list that a comprehension made over a list of numbers -/
theorem vs_ints {α : Type} {vs : List V} {ns : List α} {f : α → V} (hl : vs.length = ns.length) (hr : ∀ (i : Nat) (v : V), vs[i]? = some v → ∀ c, ns[i]? = some c → v = f c) : vs = ns.map f := by
  apply List.ext_getElem?
  intro i
  by_cases hi : i < vs.length
  · have hi' : i < ns.length := by omega
    rw [List.getElem?_eq_getElem hi, hr i _ (List.getElem?_eq_getElem hi) _ (List.getElem?_eq_getElem hi'), List.getElem?_map, List.getElem?_eq_getElem hi']
    rfl
  · rw [List.getElem?_eq_none (by omega), List.getElem?_eq_none (by rw [List.length_map]; omega)]
/-- an item of a mapped list -/
theorem getD_mapV {α : Type} {ns : List α} {f : α → V} {i : Nat} (hi : i < ns.length) : (ns.map f).getD i .non = f ns[i] := by
  rw [List.getD_eq_getElem?_getD, List.getElem?_map, List.getElem?_eq_getElem hi]
  rfl
/-- an item of a mapped list, met on the way through it -/
theorem step_mapV {α : Type} {ns : List α} {f : α → V} {i : Nat} {x : V} (hi : (ns.map f)[i]? = some x) : ∃ h : i < ns.length, x = f ns[i] := by
  have h : i < ns.length := by
    have := (List.getElem?_eq_some_iff.mp hi).1
    rw [List.length_map] at this
    exact this
  rw [List.getElem?_map, List.getElem?_eq_getElem h] at hi
  exact ⟨h, (Option.some.inj hi).symm⟩
end Sh

set_option Elab.async false
set_option linter.all false
set_option maxRecDepth 100000
namespace L2
open PySem PySem.Spec PyProof.Rows
end L2

set_option Elab.async false
set_option linter.all false
set_option maxRecDepth 100000
namespace L2
open PySem PySem.Spec PyProof.Rows
section
variable {prog : Program} {w : World} {A : Around} {R : Result → Shared → Prop} {it : Addr} {fp wr : List Addr} {n : Nat} {Pv : Nat → Value → Prop} {Sv : Nat → Heap → Prop}
end
end L2

set_option Elab.async false
set_option linter.all false
set_option maxRecDepth 100000
namespace L2
open PySem PySem.Spec PyProof.Rows
/-! ### a dict that is walked is known meanwhile -/
theorem rel_key {k : Key} {u : Value} (h : keyIs k u = true) : RelV (kV k) u := by
  rcases keyIs_shape h with ⟨i, t, rfl, rfl⟩ | ⟨x, t, rfl, rfl⟩
  · exact ⟨t, rfl⟩
  · exact ⟨t, rfl⟩
theorem kv_get {kvs : List (Key × V)} {vs : List (Key × Value)} (r : KV kvs vs) : ∀ {i : Nat} {p : Key × V}, kvs[i]? = some p → ∃ q, vs[i]? = some q ∧ p.1 = q.1 ∧ RelV p.2 q.2 := by
  unfold KV at r
  induction r with
  | nil => intro i p e; simp at e
  | @cons a b as bs h t ih =>
    intro i p e
    cases i with
    | zero =>
      simp at e
      subst e
      exact ⟨b, rfl, h⟩
    | succ i =>
      obtain ⟨q, e2, r⟩ := ih (i := i) (p := p) (by simpa using e)
      exact ⟨q, by simpa using e2, r⟩
section
variable {X : Cx} {pins : List (Addr × Obj)} {σ : St} {H H' : Hp} {s s' : Shared} {d : Addr} {o : Obj} {kvs kvs' : List (Key × V)}
theorem Inv.frozen (I : Inv X pins σ H s) (hd : H d = some (.dK kvs)) : ∃ o, Inv X pins σ (upd H d (.frz o (.dK kvs))) s := by
  have q := I.hok d _ hd
  obtain ⟨z, lo, vs, kv, dd⟩ := id q
  obtain ⟨o, es, ep, ho, r⟩ := id dd
  refine ⟨o, I.write (h' := s.heap) (t' := s.toks) (x := d) (e := d) (by rw [hd]; exact True.intro) (.inl rfl) (fun _ _ _ z => z) ⟨o, ho⟩ ⟨ho, z, lo, vs, kv, dd⟩⟩
theorem Inv.thaw (I : Inv X pins σ H s) (hd : H d = some (.dK kvs)) (J : Inv X pins σ H' s') (e : H' d = some (.frz o (.dK kvs'))) : Inv X pins σ (upd H' d (.dK kvs')) s' := by
  have nn : ∀ b, H' b = none → upd H' d (.dK kvs') b = none := fun b z => by
    rw [upd_ne]
    · exact z
    · intro w; rw [w, e] at z; cases z
  refine { J with base := ⟨J.base.keep, J.base.slot, fun b ob h1 h2 h3 => nn b (J.base.free b ob h1 h2 h3), J.base.there, fun b xs h1 => ?_, fun b ob u h1 => ?_, fun b ps h1 => ?_⟩, free := nn _ J.free, freeC := fun x c h => nn _ (J.freeC x c h), pin := fun p hp => ?_, hok := fun b u h1 => ?_ }
  · have h2 := J.base.tups b xs h1
    rw [upd_ne]
    · exact h2
    · intro w; rw [w, e] at h2; cases h2
  · by_cases w : b = d
    · have h2 := I.base.frzs b ob u h1
      rw [w, hd] at h2
      cases h2
    · rw [upd_ne w]
      exact J.base.frzs b ob u h1
  · obtain ⟨more, h2⟩ := J.base.tbls b ps h1
    refine ⟨more, ?_⟩
    rw [upd_ne]
    · exact h2
    · intro w; rw [w, e] at h2; cases h2
  · obtain ⟨p1, p2, p3⟩ := J.pin p hp
    exact ⟨p1, nn _ p2, p3⟩
  · have ho : ∀ (a : Addr) (b : Addr), H' b = some (.own a) → upd H' d (.dK kvs') b = some (.own a) := fun a b z => by
      rw [upd_ne]
      · exact z
      · intro w; rw [w, e] at z; cases z
    have ht : ∀ (b : Addr) xs, H' b = some (.tup xs) → upd H' d (.dK kvs') b = some (.tup xs) := fun b xs z => by
      rw [upd_ne]
      · exact z
      · intro w; rw [w, e] at z; cases z
    by_cases w : b = d
    · subst w
      rw [upd_same] at h1
      cases h1
      obtain ⟨_, q⟩ := J.hok b _ e
      exact q.stay (fun _ _ _ z => z) (ho b) ht
    · rw [upd_ne w] at h1
      exact (J.hok b u h1).stay (fun _ _ _ z => z) (ho b) ht
end
/-- e, while a dict is known and stays -/
def tFrz (t : TE) : TE := fun σ H Q => ∃ d kvs, H d = some (.dK kvs) ∧ ∀ o, t σ (upd H d (.frz o (.dK kvs))) fun v H' => H' d = some (.frz o (.dK kvs)) ∧ Q v (upd H' d (.dK kvs))
theorem pe_frz {X : Cx} {e : Expr} {t : TE} (h : PE X e t) : PE X e (tFrz t) := by
  intro pins s σ H Q I q
  obtain ⟨d, kvs, hd, q⟩ := q
  obtain ⟨o, I1⟩ := I.frozen hd
  exact thn (h pins s σ _ _ I1 (q o)) fun u s2 ⟨v, H2, I2, r, e2, q2⟩ => ⟨v, _, I.thaw hd I2 e2, r, q2⟩
theorem frz_at {X : Cx} {pins : List (Addr × Obj)} {σ : St} {H : Hp} {s : Shared} {d : Addr} {o : Obj} {kvs : List (Key × V)} {es : Array DictEntry} {ep : Nat} (I : Inv X pins σ H s) (hd : H d = some (.frz o (.dK kvs))) (ho : o.data = .dict es ep) :
    ∃ vs, KV kvs vs ∧ s.heap.DictAt (mixKind X.prog X.w) d vs ep ∧ (d == sysModules) = false := by
  obtain ⟨h1, z, lo, vs, kv, o', es', ep', h2, h3, h4, h5⟩ := I.hok d _ hd
  rw [h1] at h2
  cases h2
  rw [ho] at h4
  cases h4
  exact ⟨vs, kv, ⟨o, es, h1, h3, ho, h5⟩, lo⟩
theorem op_neD {X : Cx} (hu : X.A.units + 64 < cLine) : OpR X (compareOp .NotEq) (fun x y H Q => ∃ da db, RepD H da x ∧ RepD H db y ∧ SeqAt.shaped da = true ∧ SeqAt.shaped db = true ∧ Q (.bl (!PyData.eqv da db)) H) := by
  intro pins s σ H x y v u Q I rx ry h
  obtain ⟨da, db, r1, r2, s1, s2, q⟩ := h
  obtain ⟨as, q1⟩ := RepD.reads I da x v r1 rx
  obtain ⟨bs, q2⟩ := RepD.reads I db y u r2 ry
  exact ne_dataH q1 q2 s1 s2 hu ⟨.bl _, H, I, rfl, q⟩
theorem seq_any {t u : TS} {D : Ends} {σ : L2.St} {H : Hp} (I : L2.St → Hp → Prop) (h : ∀ R : L2.St → Hp → Prop, (∀ σ' H', I σ' H' → R σ' H') → t { D with nx := R } σ H) (hu : ∀ σ' H', I σ' H' → u D σ' H') : tSeq t u D σ H := h _ hu
theorem mt_popR {X : Cx} : MtR X "list.pop" rPop := mt_pop
/-! ### d.setdefault(k, x) -/
section
variable {X : Cx} {pins : List (Addr × Obj)} {σ : St} {H : Hp} {s : Shared} {a : Addr} {kvs : List (Key × V)} {k : Key} {u : Value} {A : Around} {E : Value → Shared → Prop}
theorem d_setd {z : V} {r : Value} {Q : Value → Shared → Prop} (I : Inv X pins σ H s) (e : H a = some (.dK kvs)) (ry : RelV (kV k) u) (rz : RelV z r) (hl : kvs.length < sizeLine) (h1 : ∀ v w' s', valV kvs k = some v → RelV v w' → Inv X pins σ H s' → Q w' s')
    (h2 : valV kvs k = none → ∀ s', Inv X pins σ (upd H a (.dK (putK kvs k z))) s' → Q r s') : wpAny (model X.prog X.w) A (call (.builtin "dict.setdefault") [.ref a, u, r]) Q E s := by
  obtain ⟨zz, hd, vs, rel, dd⟩ := dk_of I.hok e
  refine call_meetsIn PySem.F.slot_dict_setdefault dd.typeIs PySem.F.entry_dict_setdefault (PySem.F.args_dict_setdefault_3 _ _ _) (kt_meets_setdefault (mixKind X.prog X.w) a (kV_is ry) hd r) ⟨vs, dd, by rw [← rel.length]; exact zz, fun v hv => ?_, fun hn h' dd' hs => ?_⟩
  · have q := rel.val k
    rw [hv] at q
    cases l : valV kvs k with
    | none => rw [l] at q; exact (show False from q).elim
    | some v' => rw [l] at q; exact h1 v' v _ l q (I.tok _)
  · have q := rel.val k
    rw [hn] at q
    have hlp : (putK kvs k z).length ≤ sizeLine := by have := length_putK kvs k z; omega
    have he : ∃ q, h'.get? a = some q := let ⟨q, _, _, hq, _⟩ := dd'; ⟨q, hq⟩
    cases l : valV kvs k with
    | none => exact h2 l _ (d_write I (by rw [e]; exact True.intro) hs he (dk_new hlp hd (rel.put k rz) dd'))
    | some v' => rw [l] at q; exact (show False from q).elim
end
def tDSet (td ty tx : TE) : TE := fun σ H Q => td σ H fun x H1 => ∃ a, x = .ref a ∧ IsD H1 a ∧ ty σ H1 fun y H2 => tx σ H2 fun z H3 => ∃ kvs k, H3 a = some (.dK kvs) ∧ y = kV k ∧ kvs.length < sizeLine ∧
  (∀ v, valV kvs k = some v → Q v H3) ∧ (valV kvs k = none → Q z (upd H3 a (.dK (putK kvs k z))))
theorem pe_dset {X : Cx} {o e f : Expr} {apos cpos : Pos} {td ty tx : TE} (ho : PE X o td) (he : PE X e ty) (hf : PE X f tx) (m : M2 X o "setdefault" apos e f cpos) : PE X (.Call (.Attribute o "setdefault" apos) [e, f] [] cpos) (tDSet td ty tx) := by
  intro pins s σ H Q I h
  refine wpAny_Call_method m.base m.few m.line PySem.F.plainAttrs_dict PySem.F.slot_dict_setdefault PySem.F.type_dict_setdefault (thn (ho pins s σ H _ I h) fun u s1 ⟨x, H1, I1, rx, a, ex, d, q1⟩ => ?_)
  subst ex
  obtain rfl : u = Value.ref a := rx
  obtain ⟨t1, t2, _⟩ := isD_at I1 d
  refine ⟨t1, t2, ?_⟩
  rw [m.trees]
  refine Calls.callWith_builtin rfl (Calls.evalArgs_plain (Calls.spliced_cons (thn (he pins s1 σ H1 _ I1 q1) fun iv s2 ⟨y, H2, I2, ry, q2⟩ =>
    Calls.spliced_cons (thn (hf pins s2 σ H2 _ I2 q2) fun fv s3 ⟨z, H3, I3, rz, kvs, k, ea, ey, hl, q3, q4⟩ => Calls.spliced_nil ?_))))
  subst ey
  exact d_setd I3 ea ry rz hl (fun v w' s4 l rw' I4 => ⟨v, H3, I4, rw', q3 v l⟩) fun l s4 I4 => ⟨z, _, I4, rz, q4 l⟩
end L2

set_option Elab.async false
set_option linter.all false
set_option maxRecDepth 100000
/-! own work: the whole sorting of the model, of lists of any length, by a rank of the items -/
namespace Tim
open PySem PySem.W PyProof.Rows
section
variable {M : Model} {A : Around} {E : Value → Shared → Prop} {σ : Type}
theorem kc_mono {α : Type} {m : StateT σ Sem α} {Q Q' : α → σ → Shared → Prop} {st : σ} {s : Shared} (h : kasC M A E m Q st s) (hq : ∀ a st' s', Q a st' s' → Q' a st' s') : kasC M A E m Q' st s :=
  wpAny_mono h (fun r s' h' => hq _ _ _ h') fun _ _ e => e
theorem kc_list {β : Type} {f : Nat → β → StateT σ Sem (ForInStep β)} {Q : β → σ → Shared → Prop} (I : Nat → β → σ → Shared → Prop) (b : Nat)
    (step : ∀ i c st s, i < b → I i c st s → kasC M A E (f i c) (fun r st' s' => match r with | .done c' => Q c' st' s' | .yield c' => I (i + 1) c' st' s') st s)
    (fin : ∀ c st s, I b c st s → Q c st s) : ∀ (n i : Nat) (c : β) (st : σ) (s : Shared), i + n = b → I i c st s → kasC M A E (forIn (List.range' i n) c f) Q st s
  | 0, i, c, st, s, e, h => by
    rw [List.range'_zero]
    refine kasC_nil (fin c st s ?_)
    have : i = b := by omega
    rw [← this]
    exact h
  | n + 1, i, c, st, s, e, h => by
    rw [List.range'_succ]
    refine kasC_cons (kc_mono (step i c st s (by omega) h) fun r st' s' h' => ?_)
    cases r with
    | done c' => exact h'
    | yield c' => exact kc_list I b step fin n (i + 1) c' st' s' (by omega) h'
/-- for _ in [a:b], with an invariant -/
theorem kc_for {β : Type} {a b : Nat} {c : β} {f : Nat → β → StateT σ Sem (ForInStep β)} {Q : β → σ → Shared → Prop} {st : σ} {s : Shared} (I : Nat → β → σ → Shared → Prop) (h : I a c st s)
    (step : ∀ i c st s, i < max a b → I i c st s → kasC M A E (f i c) (fun r st' s' => match r with | .done c' => Q c' st' s' | .yield c' => I (i + 1) c' st' s') st s)
    (fin : ∀ c st s, I (max a b) c st s → Q c st s) : kasC M A E (forIn [a:b] c f) Q st s :=
  kasC_range (kc_list I (max a b) step fin (b - a) a c st s (by omega) h)
end
section
variable {prog : Program} {w : World} {A : Around} {E : Value → Shared → Prop}
/-- what a comparison answers: by the rank -/
structure Rank (prog : Program) (w : World) (A : Around) (κ : SortKind) (ϕ : Keyed → Nat) (U : Keyed → Prop) (G : Shared → Prop) : Prop where
  ask : ∀ (x y : Keyed) (C : Bool → Shared → Prop) (s : Shared), U x → U y → G s → (∀ s', G s' → C (decide (ϕ x < ϕ y)) s') → wpAny (model prog w) A (keyLt' κ x.1 y.1) C (fun _ _ => False) s
variable {κ : SortKind} {ϕ : Keyed → Nat} {U : Keyed → Prop} {G : Shared → Prop}
theorem kc_lt (R : Rank prog w A κ ϕ U G) {x y : Keyed} {Q : Option Bool → SortSt → Shared → Prop} {st : SortSt} {s : Shared} (hk : kindOf st = κ) (hx : U x) (hy : U y) (g : G s) (h : ∀ s', G s' → Q (some (decide (ϕ x < ϕ y))) st s') :
    kasC (model prog w) A E (lt' x y) Q st s := by
  rw [lt'_eq]
  refine kasC_bind (kasC_get ?_)
  rw [hk]
  refine kasC_bind (kasC_lift (wpAny_attempt (wpAny_mono (R.ask x y (fun c s' => Q (some c) st s') s hx hy g h) (fun c s' hc => ?_) fun _ _ hF => hF.elim)))
  exact kasC_pure hc
theorem kc_elem {xs : Array Keyed} {i : Nat} {x : Keyed} {Q : Keyed → SortSt → Shared → Prop} {st : SortSt} {s : Shared} (hx : xs[i]? = some x) (h : Q x st s) : kasC (model prog w) A E (elem' xs i) Q st s := by
  rw [elem'_eq, hx]
  exact kasC_pure h
/-- the rank at a place -/
def fx (ϕ : Keyed → Nat) (xs : Array Keyed) (i : Nat) : Nat := match xs[i]? with
  | some p => ϕ p
  | none => 0
theorem fx_at {xs : Array Keyed} {i : Nat} {x : Keyed} (h : xs[i]? = some x) : fx ϕ xs i = ϕ x := by unfold fx; rw [h]
theorem fx_congr {xs ys : Array Keyed} {i j : Nat} (h : xs[i]? = ys[j]?) : fx ϕ xs i = fx ϕ ys j := by unfold fx; rw [h]
def Al (U : Keyed → Prop) (xs : Array Keyed) : Prop := ∀ (i : Nat) x, xs[i]? = some x → U x
theorem Al.perm {xs ys : Array Keyed} (h : Al U xs) (p : ys.Perm xs) : Al U ys := fun i x e => by
  have hm : x ∈ ys := Array.mem_of_getElem? e
  have := p.mem_iff.mp hm
  obtain ⟨j, hj, e2⟩ := Array.getElem_of_mem this
  exact h j x (by rw [← e2]; exact Array.getElem?_eq_getElem hj)
def galp' : Bool → Keyed → Array Keyed → Nat → Nat → Nat → StateT SortSt Sem (Option Nat) := sortPriv% PySem.Builtin.gallop
def bey' (lf : Bool) (ky : Keyed) (ar : Array Keyed) (bs : Nat) (i : Nat) : StateT SortSt Sem (Option Bool) := do
  let el ← elem' ar (bs + i)
  if lf then lt' el ky else return (← lt' ky el).map (!·)
theorem galp'_eq (lf : Bool) (ky : Keyed) (ar : Array Keyed) (bs n ht : Nat) : galp' lf ky ar bs n ht = (do
  let mut u := 0
  let mut v := 1
  let mut p := 0
  let mut q := 0
  let some rt ← bey' lf ky ar bs ht | return none
  if rt then
    let mx := n - ht
    for _ in [0:n] do
      if v ≥ mx then break
      let some mo ← bey' lf ky ar bs (ht + v) | return none
      if !mo then break
      u := v
      v := 2 * v + 1
    p := ht + u + 1
    q := ht + min v mx
  else
    let mx := ht + 1
    for _ in [0:n] do
      if v ≥ mx then break
      let some fo ← bey' lf ky ar bs (ht - v) | return none
      if fo then break
      u := v
      v := 2 * v + 1
    p := ht + 1 - min v mx
    q := ht - u
  for _ in [0:n] do
    if p ≥ q then break
    let m := p + (q - p) / 2
    let some mo ← bey' lf ky ar bs m | return none
    if mo then p := m + 1 else q := m
  return some q) := rfl
/-- the items before i are such, the others are not -/
def beyB (ϕ : Keyed → Nat) (lf : Bool) (k : Nat) (ar : Array Keyed) (bs i : Nat) : Bool := if lf then decide (fx ϕ ar (bs + i) < k) else !decide (k < fx ϕ ar (bs + i))
theorem kc_bey (R : Rank prog w A κ ϕ U G) {lf : Bool} {ky : Keyed} {ar : Array Keyed} {bs i : Nat} {Q : Option Bool → SortSt → Shared → Prop} {st : SortSt} {s : Shared} (hk : kindOf st = κ) (hu : U ky) (ha : Al U ar) (hi : bs + i < ar.size) (g : G s)
    (h : ∀ s', G s' → Q (some (beyB ϕ lf (ϕ ky) ar bs i)) st s') : kasC (model prog w) A E (bey' lf ky ar bs i) Q st s := by
  unfold bey'
  have e : ar[bs + i]? = some ar[bs + i] := Array.getElem?_eq_getElem hi
  refine kasC_bind (kc_elem e ?_)
  unfold beyB at h
  rw [fx_at e] at h
  cases lf with
  | true =>
    rw [if_pos rfl]
    exact kc_lt R hk (ha _ _ e) hu g fun s' g' => by simpa using h s' g'
  | false =>
    rw [if_neg (by decide)]
    refine kasC_bind (kc_lt R hk hu (ha _ _ e) g fun s' g' => kasC_pure ?_)
    simpa using h s' g'
theorem kc_bis (R : Rank prog w A κ ϕ U G) {lf : Bool} {ky : Keyed} {ar : Array Keyed} {bs n p0 q0 : Nat} {Q : Option Nat → SortSt → Shared → Prop} {st : SortSt} {s : Shared} (hk : kindOf st = κ) (hu : U ky) (ha : Al U ar) (hn : bs + n ≤ ar.size)
    (mo : ∀ i j, i ≤ j → j < n → beyB ϕ lf (ϕ ky) ar bs j = true → beyB ϕ lf (ϕ ky) ar bs i = true) (g : G s) (hpq : p0 ≤ q0) (hq : q0 ≤ n) (h1 : ∀ i, i < p0 → beyB ϕ lf (ϕ ky) ar bs i = true) (h2 : ∀ i, q0 ≤ i → i < n → beyB ϕ lf (ϕ ky) ar bs i = false)
    (h : ∀ q s', q ≤ n → (∀ i, i < q → beyB ϕ lf (ϕ ky) ar bs i = true) → (∀ i, q ≤ i → i < n → beyB ϕ lf (ϕ ky) ar bs i = false) → G s' → Q (some q) st s') : kasC (model prog w) A E (do
      let mut p := p0
      let mut q := q0
      for _ in [0:n] do
        if p ≥ q then break
        let m := p + (q - p) / 2
        let some mo ← bey' lf ky ar bs m | return none
        if mo then p := m + 1 else q := m
      return some q) Q st s := by
  dsimp only
  refine kasC_bind (kc_for (fun t c st' s' => ∃ p q, c = (none, p, q) ∧ st' = st ∧ G s' ∧ p ≤ q ∧ q ≤ n ∧ (∀ i, i < p → beyB ϕ lf (ϕ ky) ar bs i = true) ∧ (∀ i, q ≤ i → i < n → beyB ϕ lf (ϕ ky) ar bs i = false) ∧ q - p ≤ n - t) ⟨p0, q0, rfl, rfl, g, hpq, hq, h1, h2, by omega⟩ ?_ ?_)
  · rintro t c st' s' ht ⟨p, q, rfl, rfl, g', a1, a2, a3, a4, a5⟩
    dsimp only
    by_cases c : p ≥ q
    · rw [if_pos c]
      have e : p = q := by omega
      subst e
      exact kasC_pure (kasC_pure (h p s' a2 a3 a4 g'))
    · rw [if_neg c]
      refine kasC_bind (kc_bey R hk hu ha (by omega) g' fun s2 g2 => ?_)
      dsimp only
      by_cases cm : beyB ϕ lf (ϕ ky) ar bs (p + (q - p) / 2) = true
      · rw [if_pos cm]
        exact kasC_pure ⟨p + (q - p) / 2 + 1, q, rfl, rfl, g2, by omega, a2, fun i hi => mo i _ (by omega) (by omega) cm, a4, by omega⟩
      · rw [if_neg cm]
        refine kasC_pure ⟨p, p + (q - p) / 2, rfl, rfl, g2, by omega, by omega, a3, fun i hi1 hi2 => ?_, by omega⟩
        cases z : beyB ϕ lf (ϕ ky) ar bs i with
        | false => rfl
        | true => exact absurd (mo _ i hi1 hi2 z) cm
  · rintro c st' s' ⟨p, q, rfl, rfl, g', a1, a2, a3, a4, a5⟩
    have e : p = q := by omega
    subst e
    exact kasC_pure (h p s' a2 a3 a4 g')
theorem kc_galp (R : Rank prog w A κ ϕ U G) {lf : Bool} {ky : Keyed} {ar : Array Keyed} {bs n ht : Nat} {Q : Option Nat → SortSt → Shared → Prop} {st : SortSt} {s : Shared} (hk : kindOf st = κ) (hu : U ky) (ha : Al U ar) (hn : bs + n ≤ ar.size) (hh : ht < n)
    (mo : ∀ i j, i ≤ j → j < n → beyB ϕ lf (ϕ ky) ar bs j = true → beyB ϕ lf (ϕ ky) ar bs i = true) (g : G s)
    (h : ∀ q s', q ≤ n → (∀ i, i < q → beyB ϕ lf (ϕ ky) ar bs i = true) → (∀ i, q ≤ i → i < n → beyB ϕ lf (ϕ ky) ar bs i = false) → G s' → Q (some q) st s') : kasC (model prog w) A E (galp' lf ky ar bs n ht) Q st s := by
  have mo' : ∀ i j, i ≤ j → j < n → beyB ϕ lf (ϕ ky) ar bs i = false → beyB ϕ lf (ϕ ky) ar bs j = false := fun i j h1 h2 e => by
    cases z : beyB ϕ lf (ϕ ky) ar bs j with
    | false => rfl
    | true => rw [mo i j h1 h2 z] at e; cases e
  rw [galp'_eq]
  refine kasC_bind (kc_bey R hk hu ha (by omega) g fun s1 g1 => ?_)
  dsimp only
  by_cases c : beyB ϕ lf (ϕ ky) ar bs ht = true
  · rw [if_pos c]
    have go : ∀ u v s', G s' → ht + u < n → u < v → beyB ϕ lf (ϕ ky) ar bs (ht + u) = true → (n - ht ≤ v ∨ beyB ϕ lf (ϕ ky) ar bs (ht + v) = false) → ht + u + 1 ≤ ht + min v (n - ht) ∧ ht + min v (n - ht) ≤ n ∧ (∀ i, i < ht + u + 1 → beyB ϕ lf (ϕ ky) ar bs i = true) ∧ ∀ i, ht + min v (n - ht) ≤ i → i < n → beyB ϕ lf (ϕ ky) ar bs i = false := fun u v s' g' a1 a2 a3 a4 => by
      refine ⟨by omega, by omega, fun i hi => mo i _ (by omega) a1 a3, fun i h1 h2 => ?_⟩
      rcases a4 with z | z
      · omega
      · by_cases q : n - ht ≤ v
        · omega
        · exact mo' (ht + v) i (by omega) h2 z
    refine kasC_bind (kc_for (fun t c st' s' => ∃ u v, c = (none, u, v) ∧ st' = st ∧ G s' ∧ ht + u < n ∧ u < v ∧ beyB ϕ lf (ϕ ky) ar bs (ht + u) = true ∧ t + 1 ≤ v) ⟨0, 1, rfl, rfl, g1, by omega, by omega, by rw [Nat.add_zero]; exact c, by omega⟩ ?_ ?_)
    · rintro t c st' s' ht' ⟨u, v, rfl, rfl, g', a1, a2, a3, a4⟩
      dsimp only
      by_cases c1 : v ≥ n - ht
      · rw [if_pos c1]
        obtain ⟨b1, b2, b3, b4⟩ := go u v s' g' a1 a2 a3 (.inl c1)
        exact kasC_pure (kc_bis R hk hu ha hn mo g' b1 b2 b3 b4 h)
      · rw [if_neg c1]
        refine kasC_bind (kc_bey R hk hu ha (by omega) g' fun s2 g2 => ?_)
        dsimp only
        by_cases cm : beyB ϕ lf (ϕ ky) ar bs (ht + v) = true
        · rw [if_neg (by rw [cm]; decide)]
          exact kasC_pure ⟨v, 2 * v + 1, rfl, rfl, g2, by omega, by omega, cm, by omega⟩
        · have cf : beyB ϕ lf (ϕ ky) ar bs (ht + v) = false := by simpa using cm
          rw [if_pos (by rw [cf]; decide)]
          obtain ⟨b1, b2, b3, b4⟩ := go u v s' g' a1 a2 a3 (.inr cf)
          exact kasC_pure (kc_bis R hk hu ha hn mo g2 b1 b2 b3 b4 h)
    · rintro c st' s' ⟨u, v, rfl, rfl, g', a1, a2, a3, a4⟩
      obtain ⟨b1, b2, b3, b4⟩ := go u v s' g' a1 a2 a3 (.inl (by omega))
      exact kc_bis R hk hu ha hn mo g' b1 b2 b3 b4 h
  · have cf : beyB ϕ lf (ϕ ky) ar bs ht = false := by simpa using c
    rw [if_neg c]
    have go : ∀ u v, u ≤ ht → u < v → beyB ϕ lf (ϕ ky) ar bs (ht - u) = false → (ht + 1 ≤ v ∨ beyB ϕ lf (ϕ ky) ar bs (ht - v) = true) → ht + 1 - min v (ht + 1) ≤ ht - u ∧ ht - u ≤ n ∧ (∀ i, i < ht + 1 - min v (ht + 1) → beyB ϕ lf (ϕ ky) ar bs i = true) ∧ ∀ i, ht - u ≤ i → i < n → beyB ϕ lf (ϕ ky) ar bs i = false := fun u v a1 a2 a3 a4 => by
      refine ⟨by omega, by omega, fun i hi => ?_, fun i h1 h2 => mo' _ i h1 h2 a3⟩
      rcases a4 with z | z
      · omega
      · exact mo i (ht - v) (by omega) (by omega) z
    refine kasC_bind (kc_for (fun t c st' s' => ∃ u v, c = (none, u, v) ∧ st' = st ∧ G s' ∧ u ≤ ht ∧ u < v ∧ beyB ϕ lf (ϕ ky) ar bs (ht - u) = false ∧ t + 1 ≤ v) ⟨0, 1, rfl, rfl, g1, by omega, by omega, cf, by omega⟩ ?_ ?_)
    · rintro t c st' s' ht' ⟨u, v, rfl, rfl, g', a1, a2, a3, a4⟩
      dsimp only
      by_cases c1 : v ≥ ht + 1
      · rw [if_pos c1]
        obtain ⟨b1, b2, b3, b4⟩ := go u v a1 a2 a3 (.inl c1)
        exact kasC_pure (kc_bis R hk hu ha hn mo g' b1 b2 b3 b4 h)
      · rw [if_neg c1]
        refine kasC_bind (kc_bey R hk hu ha (by omega) g' fun s2 g2 => ?_)
        dsimp only
        by_cases cm : beyB ϕ lf (ϕ ky) ar bs (ht - v) = true
        · rw [if_pos cm]
          obtain ⟨b1, b2, b3, b4⟩ := go u v a1 a2 a3 (.inr cm)
          exact kasC_pure (kc_bis R hk hu ha hn mo g2 b1 b2 b3 b4 h)
        · have cf2 : beyB ϕ lf (ϕ ky) ar bs (ht - v) = false := by simpa using cm
          rw [if_neg cm]
          exact kasC_pure ⟨v, 2 * v + 1, rfl, rfl, g2, by omega, by omega, cf2, by omega⟩
    · rintro c st' s' ⟨u, v, rfl, rfl, g', a1, a2, a3, a4⟩
      obtain ⟨b1, b2, b3, b4⟩ := go u v a1 a2 a3 (.inl (by omega))
      exact kc_bis R hk hu ha hn mo g' b1 b2 b3 b4 h
end
end Tim

set_option Elab.async false
set_option linter.all false
set_option maxRecDepth 100000
/-! own work: the merges -/
namespace Tim
open PySem PySem.W PyProof.Rows
abbrev Up (ϕ : Keyed → Nat) (l : List Keyed) : Prop := l.Pairwise fun x y => ϕ x ≤ ϕ y
/-- what is put out already, what is left of both -/
structure Lo (ϕ : Keyed → Nat) (T o X Y : List Keyed) : Prop where
  px : Up ϕ (o ++ X)
  py : Up ϕ (o ++ Y)
  pm : (o ++ X ++ Y).Perm T
section
variable {ϕ : Keyed → Nat} {T o X Y x y : List Keyed}
theorem Lo.goX (h : Lo ϕ T o (x ++ X) Y) (hx : ∀ u ∈ x, ∀ v ∈ Y, ϕ u ≤ ϕ v) : Lo ϕ T (o ++ x) X Y := by
  obtain ⟨h1, h2, h3⟩ := h
  refine ⟨by rw [List.append_assoc]; exact h1, ?_, by rw [List.append_assoc o x X]; exact h3⟩
  unfold Up at *
  rw [List.pairwise_append] at h1 h2 ⊢
  rw [List.pairwise_append] at h1
  rw [List.pairwise_append]
  refine ⟨⟨h1.1, h1.2.1.1, fun a ha b hb => h1.2.2 a ha b (List.mem_append_left _ hb)⟩, h2.2.1, fun a ha b hb => ?_⟩
  rcases List.mem_append.mp ha with z | z
  · exact h2.2.2 a z b hb
  · exact hx a z b hb
theorem Lo.swap (h : Lo ϕ T o X Y) : Lo ϕ T o Y X := ⟨h.py, h.px, (by
  rw [List.append_assoc]
  exact ((List.perm_append_comm.append_left o).trans (by rw [← List.append_assoc])).trans h.pm)⟩
theorem Lo.goY (h : Lo ϕ T o X (y ++ Y)) (hy : ∀ u ∈ y, ∀ v ∈ X, ϕ u ≤ ϕ v) : Lo ϕ T (o ++ y) X Y := (h.swap.goX hy).swap
theorem Lo.len (h : Lo ϕ T o X Y) : o.length + X.length + Y.length = T.length := by
  have := h.pm.length_eq
  simp only [List.length_append] at this
  exact this
end
theorem at_ {a : Array Keyed} {i : Nat} (h : i < a.size) : ∃ x, a[i]? = some x ∧ a.toList.drop i = x :: a.toList.drop (i + 1) :=
  ⟨a[i], Array.getElem?_eq_getElem h, by rw [List.drop_eq_getElem_cons (by simpa using h)]; simp⟩
theorem push_l (o : Array Keyed) (x : Keyed) : (o.push x).toList = o.toList ++ [x] := by simp
theorem ext_l (o : Array Keyed) (i k : Nat) : (o.extract i (i + k)).toList = (o.toList.drop i).take k := by
  rw [Array.toList_extract]
  simp
theorem ext_end (o : Array Keyed) (i : Nat) : (o.extract i o.size).toList = o.toList.drop i := by
  rw [Array.toList_extract, List.extract_eq_take_drop]
  exact List.take_of_length_le (by simp)
theorem ext_0 (o : Array Keyed) (i : Nat) : (o.extract 0 i).toList = o.toList.take i := by
  rw [Array.toList_extract]
  simp
theorem app_l (o p : Array Keyed) : (o ++ p).toList = o.toList ++ p.toList := by simp
theorem drop_cut (l : List Keyed) (i k : Nat) : l.drop i = (l.drop i).take k ++ l.drop (i + k) := by
  rw [← List.drop_drop, List.take_append_drop]
/-- only the count of gallops differs -/
def Sim (st st' : SortSt) : Prop := kindOf st' = kindOf st ∧ arrOf st' = arrOf st ∧ pendingOf st' = pendingOf st ∧ failedOf st' = failedOf st
theorem Sim.refl (st : SortSt) : Sim st st := ⟨rfl, rfl, rfl, rfl⟩
theorem Sim.trans {a b c : SortSt} (h : Sim a b) (k : Sim b c) : Sim a c := ⟨k.1.trans h.1, k.2.1.trans h.2.1, k.2.2.1.trans h.2.2.1, k.2.2.2.trans h.2.2.2⟩
def setG' : Nat → StateT SortSt Sem Unit := sortPriv% PySem.Builtin.setMinGallop
theorem setG'_eq (n : Nat) : setG' n = modify fun z => SortSt.mk' (kindOf z) (arrOf z) (pendingOf z) n (failedOf z) := rfl
section
variable {prog : Program} {w : World} {A : Around} {E : Value → Shared → Prop} {κ : SortKind} {ϕ : Keyed → Nat} {U : Keyed → Prop} {G : Shared → Prop}
theorem kc_setG {n : Nat} {Q : Unit → SortSt → Shared → Prop} {st : SortSt} {s : Shared} (h : ∀ st', Sim st st' → Q () st' s) : kasC (model prog w) A E (setG' n) Q st s := by
  rw [setG'_eq]
  exact kasC_modify (h _ ⟨rfl, rfl, rfl, rfl⟩)
theorem kc_rule {n : String} {Q : Unit → SortSt → Shared → Prop} {st : SortSt} {s : Shared} (h : Q () st s) : kasC (model prog w) A E (liftM (rule n) : StateT SortSt Sem Unit) Q st s :=
  kasC_lift (wpAny_rule h)
theorem fx_mem {a : Array Keyed} {bs k : Nat} {u : Keyed} (h : u ∈ (a.toList.drop bs).take k) : ∃ t, t < k ∧ bs + t < a.size ∧ fx ϕ a (bs + t) = ϕ u := by
  obtain ⟨t, ht, e⟩ := List.getElem_of_mem h
  have ht1 : t < k := by rw [List.length_take] at ht; omega
  have ht2 : bs + t < a.size := by rw [List.length_take, List.length_drop, Array.length_toList] at ht; omega
  refine ⟨t, ht1, ht2, ?_⟩
  have e2 : a[bs + t]? = some u := by
    rw [← e, Array.getElem?_eq_getElem ht2]
    simp
  exact fx_at e2
/-- a stretch of the row goes up -/
def UpTo (ϕ : Keyed → Nat) (a : Array Keyed) (p q : Nat) : Prop := ∀ i j, p ≤ i → i ≤ j → j < q → fx ϕ a i ≤ fx ϕ a j
theorem UpTo.of {a : Array Keyed} (h : Up ϕ a.toList) : UpTo ϕ a 0 a.size := fun i j _ hij hj => by
  have e1 : a[i]? = some a[i] := Array.getElem?_eq_getElem (by omega)
  have e2 : a[j]? = some a[j] := Array.getElem?_eq_getElem hj
  rw [fx_at e1, fx_at e2]
  rcases Nat.lt_or_ge i j with c | c
  · have := List.pairwise_iff_getElem.mp h i j (by simpa using (by omega : i < a.size)) (by simpa using hj) c
    simpa using this
  · have : i = j := by omega
    subst this
    exact Nat.le_refl _
theorem UpTo.sub {a : Array Keyed} {p q p' q' : Nat} (h : UpTo ϕ a p q) (h1 : p ≤ p') (h2 : q' ≤ q) : UpTo ϕ a p' q' := fun i j a1 a2 a3 => h i j (by omega) a2 (by omega)
theorem kc_gal (R : Rank prog w A κ ϕ U G) {lf : Bool} {ky : Keyed} {ar : Array Keyed} {bs n ht : Nat} {Q : Option Nat → SortSt → Shared → Prop} {st : SortSt} {s : Shared} (hk : kindOf st = κ) (hu : U ky) (ha : Al U ar) (hn : bs + n ≤ ar.size) (hh : ht < n)
    (up : UpTo ϕ ar bs (bs + n)) (g : G s)
    (h : ∀ q s', q ≤ n → (∀ u ∈ (ar.toList.drop bs).take q, ϕ u ≤ ϕ ky) → (∀ u ∈ (ar.toList.drop (bs + q)).take (n - q), ϕ ky ≤ ϕ u) → G s' → Q (some q) st s') : kasC (model prog w) A E (galp' lf ky ar bs n ht) Q st s := by
  refine kc_galp R hk hu ha hn hh (fun i j hij hj => ?_) g fun q s' hq h1 h2 g' => h q s' hq (fun u hu => ?_) (fun u hu => ?_) g'
  · have := up (bs + i) (bs + j) (by omega) (by omega) (by omega)
    unfold beyB
    cases lf with
    | true => simp; omega
    | false => simp; omega
  · obtain ⟨t, b1, b2, b3⟩ := fx_mem (ϕ := ϕ) hu
    have := h1 t b1
    unfold beyB at this
    cases lf with
    | true => simp at this; omega
    | false => simp at this; omega
  · obtain ⟨t, b1, b2, b3⟩ := fx_mem (ϕ := ϕ) hu
    have := h2 (q + t) (by omega) (by omega)
    unfold beyB at this
    rw [← Nat.add_assoc] at this
    cases lf with
    | true => simp at this; omega
    | false => simp at this; omega
end
def mgLo' : Array Keyed → Array Keyed → StateT SortSt Sem (Array Keyed) := sortPriv% PySem.Builtin.mergeLo
def endLo (a b o : Array Keyed) (i j : Nat) : Array Keyed := o ++ a.extract i a.size ++ b.extract j b.size
def lastLo (a b o : Array Keyed) (i j : Nat) : Array Keyed := o ++ b.extract j b.size ++ a.extract i a.size
theorem mgLo'_eq (a b : Array Keyed) : mgLo' a b = (do
  rule "list.sort.merge-lo"
  let tot := a.size + b.size
  let mut o : Array Keyed := #[← elem' b 0]
  let mut i := 0
  let mut j := 1
  if j == b.size then return endLo a b o i j
  if i + 1 == a.size then return lastLo a b o i j
  let mut mg := gallopOf (← get)
  for _ in [0:tot] do
    let mut ac := 0
    let mut bc := 0
    for _ in [0:tot] do
      let some bw ← lt' (← elem' b j) (← elem' a i) | return endLo a b o i j
      if bw then
        o := o.push (← elem' b j); j := j + 1; bc := bc + 1; ac := 0
        if j == b.size then return endLo a b o i j
        if bc ≥ mg then break
      else
        o := o.push (← elem' a i); i := i + 1; ac := ac + 1; bc := 0
        if i + 1 == a.size then return lastLo a b o i j
        if ac ≥ mg then break
    rule "list.sort.gallop"
    mg := mg + 1
    for _ in [0:tot] do
      if mg > 1 then mg := mg - 1
      setG' mg
      let some k ← galp' false (← elem' b j) a i (a.size - i) 0 | return endLo a b o i j
      ac := k
      if k > 0 then
        o := o ++ a.extract i (i + k); i := i + k
        if i + 1 == a.size then return lastLo a b o i j
        if i == a.size then return endLo a b o i j
      o := o.push (← elem' b j); j := j + 1
      if j == b.size then return endLo a b o i j
      let some k ← galp' true (← elem' a i) b j (b.size - j) 0 | return endLo a b o i j
      bc := k
      if k > 0 then
        o := o ++ b.extract j (j + k); j := j + k
        if j == b.size then return endLo a b o i j
      o := o.push (← elem' a i); i := i + 1
      if i + 1 == a.size then return lastLo a b o i j
      if ac < 7 && bc < 7 then break
    mg := mg + 1
    setG' mg
  unsupported "internal:list.sort.merge-bound") := rfl
section
variable {prog : Program} {w : World} {A : Around} {E : Value → Shared → Prop} {κ : SortKind} {ϕ : Keyed → Nat} {U : Keyed → Prop} {G : Shared → Prop}
theorem up_head {x : Keyed} {l : List Keyed} (h : Up ϕ (x :: l)) : ∀ v ∈ x :: l, ϕ x ≤ ϕ v := fun v hv => by
  rcases List.mem_cons.mp hv with e | e
  · exact Nat.le_of_eq (by rw [e])
  · exact (List.pairwise_cons.mp h).1 v e
theorem Lo.hx {T o X Y : List Keyed} (h : Lo ϕ T o X Y) : Up ϕ X := (List.pairwise_append.mp h.px).2.1
theorem Lo.hy {T o X Y : List Keyed} (h : Lo ϕ T o X Y) : Up ϕ Y := (List.pairwise_append.mp h.py).2.1
/-- the loop's own: what both rows and the row put out tell -/
def LoI (ϕ : Keyed → Nat) (a b o : Array Keyed) (i j : Nat) : Prop := Lo ϕ (a.toList ++ b.toList) o.toList (a.toList.drop i) (b.toList.drop j)
def Ok (ϕ : Keyed → Nat) (a b r : Array Keyed) : Prop := Up ϕ r.toList ∧ r.toList.Perm (a.toList ++ b.toList)
theorem LoI.end1 {a b o : Array Keyed} {i j : Nat} (h : LoI ϕ a b o i j) (e : i = a.size ∨ j = b.size) : Ok ϕ a b (endLo a b o i j) := by
  have t : (endLo a b o i j).toList = o.toList ++ a.toList.drop i ++ b.toList.drop j := by
    unfold endLo
    rw [app_l, app_l, ext_end, ext_end]
  unfold Ok
  rw [t]
  refine ⟨?_, h.pm⟩
  rcases e with e | e
  · have : a.toList.drop i = [] := by rw [e]; simp
    rw [this, List.append_nil]
    exact h.py
  · have : b.toList.drop j = [] := by rw [e]; simp
    rw [this, List.append_nil]
    exact h.px
theorem LoI.end2 {a b o : Array Keyed} {i j : Nat} (h : LoI ϕ a b o i j) (e : i + 1 = a.size) (hl : ∀ x, a[a.size - 1]? = some x → ∀ y ∈ b.toList, ϕ y ≤ ϕ x) : Ok ϕ a b (lastLo a b o i j) := by
  have t : (lastLo a b o i j).toList = o.toList ++ b.toList.drop j ++ a.toList.drop i := by
    unfold lastLo
    rw [app_l, app_l, ext_end, ext_end]
  unfold Ok
  rw [t]
  obtain ⟨x, hx, hd⟩ := at_ (show i < a.size by omega)
  have hn : a.toList.drop (i + 1) = [] := by rw [e]; simp
  rw [hn] at hd
  have h' : Lo ϕ (a.toList ++ b.toList) o.toList (a.toList.drop i) (b.toList.drop j ++ []) := by rw [List.append_nil]; exact h
  have := h'.goY fun u hu v hv => by
    rw [hd, List.mem_singleton] at hv
    subst hv
    exact hl v (by rw [← e]; exact hx) u (List.mem_of_mem_drop hu)
  exact ⟨this.px, by have := this.pm; rw [List.append_nil] at this; exact this⟩
theorem LoI.push1 {a b o : Array Keyed} {i j : Nat} {x : Keyed} (h : LoI ϕ a b o i j) (e : a.toList.drop i = x :: a.toList.drop (i + 1)) (hx : ∀ v ∈ b.toList.drop j, ϕ x ≤ ϕ v) : LoI ϕ a b (o.push x) (i + 1) j := by
  unfold LoI at h ⊢
  rw [e] at h
  rw [push_l]
  exact Lo.goX (x := [x]) h fun u hu v hv => by rw [List.mem_singleton.mp hu]; exact hx v hv
theorem LoI.push2 {a b o : Array Keyed} {i j : Nat} {x : Keyed} (h : LoI ϕ a b o i j) (e : b.toList.drop j = x :: b.toList.drop (j + 1)) (hx : ∀ v ∈ a.toList.drop i, ϕ x ≤ ϕ v) : LoI ϕ a b (o.push x) i (j + 1) := by
  unfold LoI at h ⊢
  rw [e] at h
  rw [push_l]
  exact Lo.goY (y := [x]) h fun u hu v hv => by rw [List.mem_singleton.mp hu]; exact hx v hv
theorem LoI.app1 {a b o : Array Keyed} {i j k : Nat} (h : LoI ϕ a b o i j) (hx : ∀ u ∈ (a.toList.drop i).take k, ∀ v ∈ b.toList.drop j, ϕ u ≤ ϕ v) : LoI ϕ a b (o ++ a.extract i (i + k)) (i + k) j := by
  unfold LoI at h ⊢
  rw [drop_cut _ i k] at h
  rw [app_l, ext_l]
  exact h.goX hx
theorem LoI.app2 {a b o : Array Keyed} {i j k : Nat} (h : LoI ϕ a b o i j) (hx : ∀ u ∈ (b.toList.drop j).take k, ∀ v ∈ a.toList.drop i, ϕ u ≤ ϕ v) : LoI ϕ a b (o ++ b.extract j (j + k)) i (j + k) := by
  unfold LoI at h ⊢
  rw [drop_cut _ j k] at h
  rw [app_l, ext_l]
  exact h.goY hx
theorem LoI.size {a b o : Array Keyed} {i j : Nat} (h : LoI ϕ a b o i j) (hi : i ≤ a.size) (hj : j ≤ b.size) : o.size + (a.size - i) + (b.size - j) = a.size + b.size := by
  have := h.len
  simp only [List.length_drop, List.length_append, Array.length_toList] at this
  exact this
theorem kc_lo (R : Rank prog w A κ ϕ U G) {a b : Array Keyed} {Q : Array Keyed → SortSt → Shared → Prop} {st : SortSt} {s : Shared} (hk : kindOf st = κ) (ha : Al U a) (hb : Al U b) (ua : Up ϕ a.toList) (ub : Up ϕ b.toList) (pa : 0 < a.size) (pb : 0 < b.size)
    (h0 : ∀ y, b[0]? = some y → ∀ x ∈ a.toList, ϕ y ≤ ϕ x) (h1 : ∀ x, a[a.size - 1]? = some x → ∀ y ∈ b.toList, ϕ y ≤ ϕ x) (g : G s)
    (h : ∀ r st' s', Sim st st' → G s' → Ok ϕ a b r → Q r st' s') : kasC (model prog w) A E (mgLo' a b) Q st s := by
  rw [mgLo'_eq]
  refine kasC_bind (kc_rule ?_)
  dsimp only
  obtain ⟨y0, hy0, hd0⟩ := at_ pb
  refine kasC_bind (kc_elem hy0 ?_)
  have I0 : LoI ϕ a b #[y0] 0 1 := by
    have : LoI ϕ a b #[] 0 0 := ⟨by simpa using ua, by simpa using ub, by simp⟩
    exact this.push2 hd0 fun v hv => h0 y0 hy0 v (List.mem_of_mem_drop hv)
  by_cases c1 : 1 = b.size
  · rw [if_pos (by simpa using c1)]
    exact kasC_pure (h _ _ _ (Sim.refl _) g (I0.end1 (.inr c1)))
  rw [if_neg (by simpa using c1)]
  by_cases c2 : 0 + 1 = a.size
  · rw [if_pos (by simpa using c2)]
    exact kasC_pure (h _ _ _ (Sim.refl _) g (I0.end2 c2 h1))
  rw [if_neg (by simpa using c2)]
  refine kasC_bind (kasC_get ?_)
  have drop_ : ∀ {c : Array Keyed} {p k : Nat}, p + k ≤ c.size → (c.toList.drop (p + k)).take (c.size - p - k) = c.toList.drop (p + k) := fun {c p k} hp => List.take_of_length_le (by rw [List.length_drop, Array.length_toList]; omega)
  refine kasC_bind (kc_mono (Q := fun c st' s' => ∃ r, c.1 = some r ∧ Sim st st' ∧ G s' ∧ Ok ϕ a b r) (kc_for (fun t c st' s' => ∃ o i j mg, c = (none, o, i, j, mg) ∧ Sim st st' ∧ G s' ∧ LoI ϕ a b o i j ∧ i + 1 < a.size ∧ j < b.size ∧ t + 1 ≤ o.size)
    ⟨_, _, _, _, rfl, Sim.refl _, g, I0, by omega, by omega, Nat.le_refl 1⟩ ?_ ?_) ?_)
  · rintro t c st' s' ht ⟨o, i, j, mg, rfl, S, g', I, hi, hj, hs⟩
    dsimp only
    refine kasC_bind (kc_mono (Q := fun c st' s' => (∃ r, c.1 = some r ∧ Sim st st' ∧ G s' ∧ Ok ϕ a b r) ∨ ∃ o i j ac bc, c = (none, o, i, j, ac, bc) ∧ Sim st st' ∧ G s' ∧ LoI ϕ a b o i j ∧ i + 1 < a.size ∧ j < b.size ∧ t + 1 + 1 ≤ o.size)
      (kc_for (fun q c st' s' => ∃ o i j ac bc, c = (none, o, i, j, ac, bc) ∧ Sim st st' ∧ G s' ∧ LoI ϕ a b o i j ∧ i + 1 < a.size ∧ j < b.size ∧ t + 1 + q ≤ o.size) ⟨o, i, j, 0, 0, rfl, S, g', I, hi, hj, hs⟩ ?_ ?_) ?_)
    · rintro q c st2 s2 hq ⟨o, i, j, ac, bc, rfl, S2, g2, I2, hi2, hj2, hs2⟩
      dsimp only
      obtain ⟨x, hx, hdx⟩ := at_ (show i < a.size by omega)
      obtain ⟨y, hy, hdy⟩ := at_ hj2
      refine kasC_bind (kc_elem hy (kasC_bind (kc_elem hx (kasC_bind (kc_lt R (S2.1.trans hk) (hb _ _ hy) (ha _ _ hx) g2 fun s3 g3 => ?_)))))
      dsimp only
      have mx := up_head (ϕ := ϕ) (hdx ▸ I2.hx)
      have my := up_head (ϕ := ϕ) (hdy ▸ I2.hy)
      rw [← hdx] at mx
      rw [← hdy] at my
      by_cases cc : ϕ y < ϕ x
      · rw [if_pos (by simpa using cc)]
        refine kasC_bind (kc_elem hy ?_)
        have I3 := I2.push2 hdy fun v hv => Nat.le_trans (Nat.le_of_lt cc) (mx v hv)
        by_cases e1 : j + 1 = b.size
        · rw [if_pos (by simpa using e1)]
          exact kasC_pure (.inl ⟨_, rfl, S2, g3, I3.end1 (.inr e1)⟩)
        rw [if_neg (by simpa using e1)]
        have z : t + 1 + (q + 1) ≤ (o.push y).size := by rw [Array.size_push]; omega
        by_cases e2 : bc + 1 ≥ mg
        · rw [if_pos e2]
          exact kasC_pure (.inr ⟨_, _, _, _, _, rfl, S2, g3, I3, hi2, by omega, by omega⟩)
        · rw [if_neg e2]
          exact kasC_pure ⟨_, _, _, _, _, rfl, S2, g3, I3, hi2, by omega, z⟩
      · rw [if_neg (by simpa using cc)]
        refine kasC_bind (kc_elem hx ?_)
        have I3 := I2.push1 hdx fun v hv => Nat.le_trans (by omega) (my v hv)
        by_cases e1 : i + 1 + 1 = a.size
        · rw [if_pos (by simpa using e1)]
          exact kasC_pure (.inl ⟨_, rfl, S2, g3, I3.end2 e1 h1⟩)
        rw [if_neg (by simpa using e1)]
        have z : t + 1 + (q + 1) ≤ (o.push x).size := by rw [Array.size_push]; omega
        by_cases e2 : ac + 1 ≥ mg
        · rw [if_pos e2]
          exact kasC_pure (.inr ⟨_, _, _, _, _, rfl, S2, g3, I3, by omega, hj2, by omega⟩)
        · rw [if_neg e2]
          exact kasC_pure ⟨_, _, _, _, _, rfl, S2, g3, I3, by omega, hj2, z⟩
    · rintro c st2 s2 ⟨o, i, j, ac, bc, rfl, S2, g2, I2, hi2, hj2, hs2⟩
      exact .inr ⟨o, i, j, ac, bc, rfl, S2, g2, I2, hi2, hj2, by omega⟩
    · rintro c st2 s2 (⟨r, e, S2, g2, O⟩ | ⟨o, i, j, ac, bc, rfl, S2, g2, I2, hi2, hj2, hs2⟩)
      · rw [e]
        exact kasC_pure ⟨r, rfl, S2, g2, O⟩
      dsimp only
      refine kasC_bind (kc_rule ?_)
      refine kasC_bind (kc_mono (Q := fun c st' s' => (∃ r, c.1 = some r ∧ Sim st st' ∧ G s' ∧ Ok ϕ a b r) ∨ ∃ o i j mg ac bc, c = (none, o, i, j, mg, ac, bc) ∧ Sim st st' ∧ G s' ∧ LoI ϕ a b o i j ∧ i + 1 < a.size ∧ j < b.size ∧ t + 1 + 1 ≤ o.size)
        (kc_for (fun _ c st' s' => ∃ o i j mg ac bc, c = (none, o, i, j, mg, ac, bc) ∧ Sim st st' ∧ G s' ∧ LoI ϕ a b o i j ∧ i + 1 < a.size ∧ j < b.size ∧ t + 1 + 1 ≤ o.size) ⟨o, i, j, _, ac, bc, rfl, S2, g2, I2, hi2, hj2, hs2⟩ ?_ ?_) ?_)
      · rintro q c st3 s3 hq ⟨o, i, j, mg, ac, bc, rfl, S3, g3, I3, hi3, hj3, hs3⟩
        dsimp only
        by_cases cm : mg > 1
        rw [if_pos cm]
        rotate_left
        rw [if_neg cm]
        all_goals
          refine kasC_bind (kc_setG fun st4 S4 => ?_)
          replace S4 := S3.trans S4
          obtain ⟨x, hx, hdx⟩ := at_ (show i < a.size by omega)
          obtain ⟨y, hy, hdy⟩ := at_ hj3
          have my := up_head (ϕ := ϕ) (hdy ▸ I3.hy)
          rw [← hdy] at my
          refine kasC_bind (kc_elem hy (kasC_bind (kc_gal R (S4.1.trans hk) (hb _ _ hy) ha (by omega) (by omega) ((UpTo.of ua).sub (by omega) (by omega)) g3 fun k s4 hk1 l1 l2 g4 => ?_)))
          rw [drop_ (by omega)] at l2
          dsimp only
          have I4 := I3.app1 (k := k) fun u hu v hv => Nat.le_trans (l1 u hu) (my v hv)
          have hw : (k > 0 → ¬ i + k + 1 = a.size) → (k > 0 → ¬ i + k = a.size) → i + k + 1 < a.size := fun w1 w2 => by
            rcases Nat.eq_zero_or_pos k with z | z
            · omega
            · have := w1 z
              have := w2 z
              omega
          have hz : t + 1 + 1 ≤ (o ++ a.extract i (i + k)).size := by rw [Array.size_append]; omega
          by_cases ck : k > 0
          rw [if_pos ck]
          by_cases e1 : i + k + 1 = a.size
          · rw [if_pos (by simpa using e1)]
            exact kasC_pure (.inl ⟨_, rfl, S4, g4, I4.end2 e1 h1⟩)
          rw [if_neg (by simpa using e1)]
          by_cases e2 : i + k = a.size
          · rw [if_pos (by simpa using e2)]
            exact kasC_pure (.inl ⟨_, rfl, S4, g4, I4.end1 (.inl e2)⟩)
          rw [if_neg (by simpa using e2)]
          have hi4 : i + k + 1 < a.size := by omega
          clear hw
          generalize o ++ a.extract i (i + k) = o1 at *
          generalize i + k = i1 at *
          rotate_left
          rw [if_neg ck]
          have k0 : k = 0 := by omega
          have e0 : o ++ a.extract i (i + k) = o := by rw [k0, Nat.add_zero]; simp; omega
          have e1 : i + k = i := by omega
          rw [e0] at I4 hz
          rw [e1] at I4 l2
          have hi4 := hi3
          clear hw e0 e1
          generalize o = o1 at *
          generalize i = i1 at *
          all_goals
            refine kasC_bind (kc_elem hy ?_)
            have I5 := I4.push2 hdy l2
            by_cases e3 : j + 1 = b.size
            · rw [if_pos (by simpa using e3)]
              exact kasC_pure (.inl ⟨_, rfl, S4, g4, I5.end1 (.inr e3)⟩)
            rw [if_neg (by simpa using e3)]
            obtain ⟨x1, hx1, hdx1⟩ := at_ (show i1 < a.size by omega)
            have mx := up_head (ϕ := ϕ) (hdx1 ▸ I5.hx)
            rw [← hdx1] at mx
            refine kasC_bind (kc_elem hx1 (kasC_bind (kc_gal R (S4.1.trans hk) (ha _ _ hx1) hb (by omega) (by omega) ((UpTo.of ub).sub (by omega) (by omega)) g4 fun k' s5 hk2 l3 l4 g5 => ?_)))
            rw [drop_ (by omega)] at l4
            dsimp only
            have I6 := I5.app2 (k := k') fun u hu v hv => Nat.le_trans (l3 u hu) (mx v hv)
            have hz6 : t + 1 + 1 ≤ (o1.push y ++ b.extract (j + 1) (j + 1 + k')).size := by rw [Array.size_append, Array.size_push]; omega
            by_cases ck' : k' > 0
            rw [if_pos ck']
            by_cases e4 : j + 1 + k' = b.size
            · rw [if_pos (by simpa using e4)]
              exact kasC_pure (.inl ⟨_, rfl, S4, g5, I6.end1 (.inr e4)⟩)
            rw [if_neg (by simpa using e4)]
            have hj6 : j + 1 + k' < b.size := by omega
            generalize o1.push y ++ b.extract (j + 1) (j + 1 + k') = o2 at *
            generalize j + 1 + k' = j2 at *
            rotate_left
            rw [if_neg ck']
            have k0' : k' = 0 := by omega
            have e0' : o1.push y ++ b.extract (j + 1) (j + 1 + k') = o1.push y := by rw [k0', Nat.add_zero]; simp; omega
            have e1' : j + 1 + k' = j + 1 := by omega
            rw [e0'] at I6 hz6
            rw [e1'] at I6 l4
            have hj6 : j + 1 < b.size := by omega
            clear e0' e1'
            generalize o1.push y = o2 at *
            generalize j + 1 = j2 at *
            all_goals
              refine kasC_bind (kc_elem hx1 ?_)
              have I7 := I6.push1 hdx1 l4
              have hz7 : t + 1 + 1 ≤ (o2.push x1).size := by rw [Array.size_push]; omega
              by_cases e5 : i1 + 1 + 1 = a.size
              · rw [if_pos (by simpa using e5)]
                exact kasC_pure (.inl ⟨_, rfl, S4, g5, I7.end2 e5 h1⟩)
              rw [if_neg (by simpa using e5)]
              split
              · exact kasC_pure (.inr ⟨_, _, _, _, _, _, rfl, S4, g5, I7, by omega, hj6, hz7⟩)
              · exact kasC_pure ⟨_, _, _, _, _, _, rfl, S4, g5, I7, by omega, hj6, hz7⟩
      · rintro c st3 s3 ⟨o, i, j, mg, ac, bc, rfl, S3, g3, I3, hi3, hj3, hs3⟩
        exact .inr ⟨o, i, j, mg, ac, bc, rfl, S3, g3, I3, hi3, hj3, hs3⟩
      · rintro c st3 s3 (⟨r, e, S3, g3, O⟩ | ⟨o, i, j, mg, ac, bc, rfl, S3, g3, I3, hi3, hj3, hs3⟩)
        · rw [e]
          exact kasC_pure ⟨r, rfl, S3, g3, O⟩
        dsimp only
        refine kasC_bind (kc_setG fun st4 S4 => ?_)
        exact kasC_pure ⟨o, i, j, _, rfl, S3.trans S4, g3, I3, hi3, hj3, hs3⟩
  · rintro c st' s' ⟨o, i, j, mg, rfl, S, g', I, hi, hj, hs⟩
    have := I.size (by omega) (by omega)
    omega
  · rintro c st' s' ⟨r, e, S, g', O⟩
    rw [e]
    exact kasC_pure (h r st' s' S g' O)
end
end Tim

set_option Elab.async false
set_option linter.all false
set_option maxRecDepth 100000
/-! own work: the merge from behind -/
namespace Tim
open PySem PySem.W PyProof.Rows
def mgHi' : Array Keyed → Array Keyed → StateT SortSt Sem (Array Keyed) := sortPriv% PySem.Builtin.mergeHi
def endHi (a b o : Array Keyed) (i j : Nat) : Array Keyed := a.extract 0 i ++ b.extract 0 j ++ o.reverse
def fstHi (a b o : Array Keyed) (i j : Nat) : Array Keyed := b.extract 0 j ++ a.extract 0 i ++ o.reverse
theorem mgHi'_eq (a b : Array Keyed) : mgHi' a b = (do
  rule "list.sort.merge-hi"
  let tot := a.size + b.size
  let mut i := a.size - 1
  let mut j := b.size
  let mut o : Array Keyed := #[← elem' a i]
  if i == 0 then return endHi a b o i j
  if j == 1 then return fstHi a b o i j
  let mut mg := gallopOf (← get)
  for _ in [0:tot] do
    let mut ac := 0
    let mut bc := 0
    for _ in [0:tot] do
      let some aw ← lt' (← elem' b (j - 1)) (← elem' a (i - 1)) | return endHi a b o i j
      if aw then
        i := i - 1; o := o.push (← elem' a i); ac := ac + 1; bc := 0
        if i == 0 then return endHi a b o i j
        if ac ≥ mg then break
      else
        j := j - 1; o := o.push (← elem' b j); bc := bc + 1; ac := 0
        if j == 1 then return fstHi a b o i j
        if bc ≥ mg then break
    rule "list.sort.gallop"
    mg := mg + 1
    for _ in [0:tot] do
      if mg > 1 then mg := mg - 1
      setG' mg
      let some z ← galp' false (← elem' b (j - 1)) a 0 i (i - 1) | return endHi a b o i j
      let k := i - z
      ac := k
      if k > 0 then
        o := o ++ (a.extract z i).reverse; i := z
        if i == 0 then return endHi a b o i j
      j := j - 1; o := o.push (← elem' b j)
      if j == 1 then return fstHi a b o i j
      let some z ← galp' true (← elem' a (i - 1)) b 0 j (j - 1) | return endHi a b o i j
      let k := j - z
      bc := k
      if k > 0 then
        o := o ++ (b.extract z j).reverse; j := z
        if j == 1 then return fstHi a b o i j
        if j == 0 then return endHi a b o i j
      i := i - 1; o := o.push (← elem' a i)
      if i == 0 then return endHi a b o i j
      if ac < 7 && bc < 7 then break
    mg := mg + 1
    setG' mg
  unsupported "internal:list.sort.merge-bound") := rfl
/-- what is put out behind already, what is left of both -/
structure Hi (ϕ : Keyed → Nat) (T O X Y : List Keyed) : Prop where
  px : Up ϕ (X ++ O)
  py : Up ϕ (Y ++ O)
  pm : (X ++ Y ++ O).Perm T
section
variable {ϕ : Keyed → Nat} {T O X Y x y : List Keyed}
theorem Hi.swap (h : Hi ϕ T O X Y) : Hi ϕ T O Y X := ⟨h.py, h.px, (List.perm_append_comm.append_right O).trans h.pm⟩
theorem Hi.goX (h : Hi ϕ T O (X ++ x) Y) (hx : ∀ u ∈ x, ∀ v ∈ Y, ϕ v ≤ ϕ u) : Hi ϕ T (x ++ O) X Y := by
  obtain ⟨h1, h2, h3⟩ := h
  refine ⟨by rw [← List.append_assoc]; exact h1, ?_, ?_⟩
  · unfold Up at *
    rw [List.append_assoc, List.pairwise_append] at h1
    rw [List.pairwise_append] at h2 ⊢
    refine ⟨h2.1, h1.2.1, fun a ha b hb => ?_⟩
    rcases List.mem_append.mp hb with z | z
    · exact hx b z a ha
    · exact h2.2.2 a ha b z
  · refine List.Perm.trans ?_ h3
    rw [List.append_assoc, List.append_assoc X x Y, List.append_assoc X]
    refine List.Perm.append_left X ?_
    rw [← List.append_assoc]
    exact List.perm_append_comm.append_right O
theorem Hi.goY (h : Hi ϕ T O X (Y ++ y)) (hy : ∀ u ∈ y, ∀ v ∈ X, ϕ v ≤ ϕ u) : Hi ϕ T (y ++ O) X Y := (h.swap.goX hy).swap
theorem Hi.len (h : Hi ϕ T O X Y) : O.length + X.length + Y.length = T.length := by
  have := h.pm.length_eq
  simp only [List.length_append] at this
  omega
theorem Hi.hx (h : Hi ϕ T O X Y) : Up ϕ X := (List.pairwise_append.mp h.px).1
theorem Hi.hy (h : Hi ϕ T O X Y) : Up ϕ Y := (List.pairwise_append.mp h.py).1
theorem up_last {x : Keyed} {l : List Keyed} (h : Up ϕ (l ++ [x])) : ∀ v ∈ l ++ [x], ϕ v ≤ ϕ x := fun v hv => by
  rcases List.mem_append.mp hv with e | e
  · exact (List.pairwise_append.mp h).2.2 v e x (List.mem_singleton.mpr rfl)
  · exact Nat.le_of_eq (by rw [List.mem_singleton.mp e])
def HiI (ϕ : Keyed → Nat) (a b o : Array Keyed) (i j : Nat) : Prop := Hi ϕ (a.toList ++ b.toList) o.toList.reverse (a.toList.take i) (b.toList.take j)
theorem atL {a : Array Keyed} {i : Nat} (h : i < a.size) : ∃ x, a[i]? = some x ∧ a.toList.take (i + 1) = a.toList.take i ++ [x] :=
  ⟨a[i], Array.getElem?_eq_getElem h, by rw [List.take_succ_eq_append_getElem (by simpa using h)]; simp⟩
theorem HiI.end1 {a b o : Array Keyed} {i j : Nat} (h : HiI ϕ a b o i j) (e : i = 0 ∨ j = 0) : Ok ϕ a b (endHi a b o i j) := by
  have t : (endHi a b o i j).toList = a.toList.take i ++ b.toList.take j ++ o.toList.reverse := by
    unfold endHi
    rw [app_l, app_l, ext_0, ext_0, Array.toList_reverse]
  unfold Ok
  rw [t]
  refine ⟨?_, h.pm⟩
  rcases e with e | e
  · subst e
    rw [List.take_zero, List.nil_append]
    exact h.py
  · subst e
    rw [List.take_zero, List.append_nil]
    exact h.px
theorem HiI.end2 {a b o : Array Keyed} {i j : Nat} (h : HiI ϕ a b o i j) (e : j = 1) (pb : 0 < b.size) (hl : ∀ y, b[0]? = some y → ∀ x ∈ a.toList, ϕ y ≤ ϕ x) : Ok ϕ a b (fstHi a b o i j) := by
  have t : (fstHi a b o i j).toList = b.toList.take j ++ a.toList.take i ++ o.toList.reverse := by
    unfold fstHi
    rw [app_l, app_l, ext_0, ext_0, Array.toList_reverse]
  unfold Ok
  rw [t]
  subst e
  obtain ⟨y, hy, hd⟩ := atL pb
  have h' : Hi ϕ (a.toList ++ b.toList) o.toList.reverse ([] ++ a.toList.take i) (b.toList.take 1) := h
  have := h'.goX fun u hu v hv => by
    rw [hd, List.take_zero, List.nil_append, List.mem_singleton] at hv
    subst hv
    exact hl v hy u (List.mem_of_mem_take hu)
  refine ⟨by rw [List.append_assoc]; exact this.py, ?_⟩
  have := this.pm
  rw [List.nil_append] at this
  rw [List.append_assoc]
  exact this
theorem push_r (o : Array Keyed) (x : Keyed) : (o.push x).toList.reverse = [x] ++ o.toList.reverse := by simp
theorem HiI.push1 {a b o : Array Keyed} {i j : Nat} {x : Keyed} (h : HiI ϕ a b o (i + 1) j) (e : a.toList.take (i + 1) = a.toList.take i ++ [x]) (hx : ∀ v ∈ b.toList.take j, ϕ v ≤ ϕ x) : HiI ϕ a b (o.push x) i j := by
  unfold HiI at h ⊢
  rw [e] at h
  rw [push_r]
  exact h.goX fun u hu v hv => by rw [List.mem_singleton.mp hu]; exact hx v hv
theorem HiI.push2 {a b o : Array Keyed} {i j : Nat} {x : Keyed} (h : HiI ϕ a b o i (j + 1)) (e : b.toList.take (j + 1) = b.toList.take j ++ [x]) (hx : ∀ v ∈ a.toList.take i, ϕ v ≤ ϕ x) : HiI ϕ a b (o.push x) i j := by
  unfold HiI at h ⊢
  rw [e] at h
  rw [push_r]
  exact h.goY fun u hu v hv => by rw [List.mem_singleton.mp hu]; exact hx v hv
theorem take_cut (l : List Keyed) {z i : Nat} (h : z ≤ i) : l.take i = l.take z ++ (l.drop z).take (i - z) := by
  rw [show i = z + (i - z) by omega, List.take_add]
  congr 2
  omega
theorem app_r (o a : Array Keyed) {z i : Nat} (h : z ≤ i) : (o ++ (a.extract z i).reverse).toList.reverse = (a.toList.drop z).take (i - z) ++ o.toList.reverse := by
  have := ext_l a z (i - z)
  rw [show z + (i - z) = i by omega] at this
  rw [app_l, List.reverse_append, Array.toList_reverse, List.reverse_reverse, this]
theorem HiI.app1 {a b o : Array Keyed} {i j z : Nat} (h : HiI ϕ a b o i j) (hz : z ≤ i) (hx : ∀ u ∈ (a.toList.drop z).take (i - z), ∀ v ∈ b.toList.take j, ϕ v ≤ ϕ u) : HiI ϕ a b (o ++ (a.extract z i).reverse) z j := by
  unfold HiI at h ⊢
  rw [take_cut _ hz] at h
  rw [app_r _ _ hz]
  exact h.goX hx
theorem HiI.app2 {a b o : Array Keyed} {i j z : Nat} (h : HiI ϕ a b o i j) (hz : z ≤ j) (hx : ∀ u ∈ (b.toList.drop z).take (j - z), ∀ v ∈ a.toList.take i, ϕ v ≤ ϕ u) : HiI ϕ a b (o ++ (b.extract z j).reverse) i z := by
  unfold HiI at h ⊢
  rw [take_cut _ hz] at h
  rw [app_r _ _ hz]
  exact h.goY hx
theorem HiI.size {a b o : Array Keyed} {i j : Nat} (h : HiI ϕ a b o i j) (hi : i ≤ a.size) (hj : j ≤ b.size) : o.size + i + j = a.size + b.size := by
  have := h.len
  simp only [List.length_take, List.length_append, Array.length_toList, List.length_reverse] at this
  omega
end
section
variable {prog : Program} {w : World} {A : Around} {E : Value → Shared → Prop} {κ : SortKind} {ϕ : Keyed → Nat} {U : Keyed → Prop} {G : Shared → Prop}
theorem kc_hi (R : Rank prog w A κ ϕ U G) {a b : Array Keyed} {Q : Array Keyed → SortSt → Shared → Prop} {st : SortSt} {s : Shared} (hk : kindOf st = κ) (ha : Al U a) (hb : Al U b) (ua : Up ϕ a.toList) (ub : Up ϕ b.toList) (pa : 0 < a.size) (pb : 0 < b.size)
    (h0 : ∀ y, b[0]? = some y → ∀ x ∈ a.toList, ϕ y ≤ ϕ x) (h1 : ∀ x, a[a.size - 1]? = some x → ∀ y ∈ b.toList, ϕ y ≤ ϕ x) (g : G s)
    (h : ∀ r st' s', Sim st st' → G s' → Ok ϕ a b r → Q r st' s') : kasC (model prog w) A E (mgHi' a b) Q st s := by
  rw [mgHi'_eq]
  refine kasC_bind (kc_rule ?_)
  dsimp only
  obtain ⟨x0, hx0, hd0⟩ := atL (show a.size - 1 < a.size by omega)
  refine kasC_bind (kc_elem hx0 ?_)
  have I0 : HiI ϕ a b #[x0] (a.size - 1) b.size := by
    have ea : a.toList.take (a.size - 1 + 1) = a.toList := List.take_of_length_le (by rw [Array.length_toList]; omega)
    have eb : b.toList.take b.size = b.toList := List.take_of_length_le (by rw [Array.length_toList]; omega)
    have : HiI ϕ a b #[] (a.size - 1 + 1) b.size := by
      unfold HiI
      rw [ea, eb]
      exact ⟨by simpa using ua, by simpa using ub, by simp⟩
    exact this.push1 hd0 fun v hv => h1 x0 hx0 v (List.mem_of_mem_take hv)
  by_cases c1 : a.size - 1 = 0
  · rw [if_pos (by simpa using c1)]
    exact kasC_pure (h _ _ _ (Sim.refl _) g (I0.end1 (.inl c1)))
  rw [if_neg (by simpa using c1)]
  by_cases c2 : b.size = 1
  · rw [if_pos (by simpa using c2)]
    exact kasC_pure (h _ _ _ (Sim.refl _) g (I0.end2 c2 pb h0))
  rw [if_neg (by simpa using c2)]
  refine kasC_bind (kasC_get ?_)
  refine kasC_bind (kc_mono (Q := fun c st' s' => ∃ r, c.1 = some r ∧ Sim st st' ∧ G s' ∧ Ok ϕ a b r) (kc_for (fun t c st' s' => ∃ i j o mg, c = (none, i, j, o, mg) ∧ Sim st st' ∧ G s' ∧ HiI ϕ a b o i j ∧ 1 ≤ i ∧ i ≤ a.size ∧ 2 ≤ j ∧ j ≤ b.size ∧ t + 1 ≤ o.size)
    ⟨_, _, _, _, rfl, Sim.refl _, g, I0, by omega, by omega, by omega, by omega, Nat.le_refl 1⟩ ?_ ?_) ?_)
  · rintro t c st' s' ht ⟨i, j, o, mg, rfl, S, g', I, hi, hi', hj, hj', hs⟩
    dsimp only
    refine kasC_bind (kc_mono (Q := fun c st' s' => (∃ r, c.1 = some r ∧ Sim st st' ∧ G s' ∧ Ok ϕ a b r) ∨ ∃ i j o ac bc, c = (none, i, j, o, ac, bc) ∧ Sim st st' ∧ G s' ∧ HiI ϕ a b o i j ∧ 1 ≤ i ∧ i ≤ a.size ∧ 2 ≤ j ∧ j ≤ b.size ∧ t + 1 + 1 ≤ o.size)
      (kc_for (fun q c st' s' => ∃ i j o ac bc, c = (none, i, j, o, ac, bc) ∧ Sim st st' ∧ G s' ∧ HiI ϕ a b o i j ∧ 1 ≤ i ∧ i ≤ a.size ∧ 2 ≤ j ∧ j ≤ b.size ∧ t + 1 + q ≤ o.size) ⟨i, j, o, 0, 0, rfl, S, g', I, hi, hi', hj, hj', hs⟩ ?_ ?_) ?_)
    · rintro q c st2 s2 hq ⟨i, j, o, ac, bc, rfl, S2, g2, I2, hi2, hi2', hj2, hj2', hs2⟩
      dsimp only
      obtain ⟨i, rfl⟩ : ∃ n, i = n + 1 := ⟨i - 1, by omega⟩
      obtain ⟨j, rfl⟩ : ∃ n, j = n + 1 := ⟨j - 1, by omega⟩
      simp only [Nat.add_sub_cancel]
      obtain ⟨x, hx, hdx⟩ := atL (show i < a.size by omega)
      obtain ⟨y, hy, hdy⟩ := atL (show j < b.size by omega)
      refine kasC_bind (kc_elem hy (kasC_bind (kc_elem hx (kasC_bind (kc_lt R (S2.1.trans hk) (hb _ _ hy) (ha _ _ hx) g2 fun s3 g3 => ?_)))))
      dsimp only
      have mx := up_last (ϕ := ϕ) (hdx ▸ I2.hx)
      have my := up_last (ϕ := ϕ) (hdy ▸ I2.hy)
      rw [← hdx] at mx
      rw [← hdy] at my
      by_cases cc : ϕ y < ϕ x
      · rw [if_pos (by simpa using cc)]
        refine kasC_bind (kc_elem hx ?_)
        have I3 := I2.push1 hdx fun v hv => Nat.le_trans (my v hv) (Nat.le_of_lt cc)
        by_cases e1 : i = 0
        · rw [if_pos (by simpa using e1)]
          exact kasC_pure (.inl ⟨_, rfl, S2, g3, I3.end1 (.inl e1)⟩)
        rw [if_neg (by simpa using e1)]
        have z : t + 1 + (q + 1) ≤ (o.push x).size := by rw [Array.size_push]; omega
        by_cases e2 : ac + 1 ≥ mg
        · rw [if_pos e2]
          exact kasC_pure (.inr ⟨_, _, _, _, _, rfl, S2, g3, I3, by omega, by omega, by omega, by omega, by omega⟩)
        · rw [if_neg e2]
          exact kasC_pure ⟨_, _, _, _, _, rfl, S2, g3, I3, by omega, by omega, by omega, by omega, z⟩
      · rw [if_neg (by simpa using cc)]
        refine kasC_bind (kc_elem hy ?_)
        have I3 := I2.push2 hdy fun v hv => Nat.le_trans (mx v hv) (by omega)
        by_cases e1 : j = 1
        · rw [if_pos (by simpa using e1)]
          exact kasC_pure (.inl ⟨_, rfl, S2, g3, I3.end2 e1 pb h0⟩)
        rw [if_neg (by simpa using e1)]
        have z : t + 1 + (q + 1) ≤ (o.push y).size := by rw [Array.size_push]; omega
        by_cases e2 : bc + 1 ≥ mg
        · rw [if_pos e2]
          exact kasC_pure (.inr ⟨_, _, _, _, _, rfl, S2, g3, I3, by omega, by omega, by omega, by omega, by omega⟩)
        · rw [if_neg e2]
          exact kasC_pure ⟨_, _, _, _, _, rfl, S2, g3, I3, by omega, by omega, by omega, by omega, z⟩
    · rintro c st2 s2 ⟨i, j, o, ac, bc, rfl, S2, g2, I2, hi2, hi2', hj2, hj2', hs2⟩
      exact .inr ⟨i, j, o, ac, bc, rfl, S2, g2, I2, hi2, hi2', hj2, hj2', by omega⟩
    · rintro c st2 s2 (⟨r, e, S2, g2, O⟩ | ⟨i, j, o, ac, bc, rfl, S2, g2, I2, hi2, hi2', hj2, hj2', hs2⟩)
      · rw [e]
        exact kasC_pure ⟨r, rfl, S2, g2, O⟩
      dsimp only
      refine kasC_bind (kc_rule ?_)
      refine kasC_bind (kc_mono (Q := fun c st' s' => (∃ r, c.1 = some r ∧ Sim st st' ∧ G s' ∧ Ok ϕ a b r) ∨ ∃ i j o mg ac bc, c = (none, i, j, o, mg, ac, bc) ∧ Sim st st' ∧ G s' ∧ HiI ϕ a b o i j ∧ 1 ≤ i ∧ i ≤ a.size ∧ 2 ≤ j ∧ j ≤ b.size ∧ t + 1 + 1 ≤ o.size)
        (kc_for (fun _ c st' s' => ∃ i j o mg ac bc, c = (none, i, j, o, mg, ac, bc) ∧ Sim st st' ∧ G s' ∧ HiI ϕ a b o i j ∧ 1 ≤ i ∧ i ≤ a.size ∧ 2 ≤ j ∧ j ≤ b.size ∧ t + 1 + 1 ≤ o.size) ⟨i, j, o, _, ac, bc, rfl, S2, g2, I2, hi2, hi2', hj2, hj2', hs2⟩ ?_ ?_) ?_)
      · rintro q c st3 s3 hq ⟨i, j, o, mg, ac, bc, rfl, S3, g3, I3, hi3, hi3', hj3, hj3', hs3⟩
        obtain ⟨j, rfl⟩ : ∃ n, j = n + 1 := ⟨j - 1, by omega⟩
        dsimp only
        simp only [Nat.add_sub_cancel]
        by_cases cm : mg > 1
        rw [if_pos cm]
        rotate_left
        rw [if_neg cm]
        all_goals
          refine kasC_bind (kc_setG fun st4 S4 => ?_)
          replace S4 := S3.trans S4
          obtain ⟨y, hy, hdy⟩ := atL (show j < b.size by omega)
          have my := up_last (ϕ := ϕ) (hdy ▸ I3.hy)
          rw [← hdy] at my
          refine kasC_bind (kc_elem hy (kasC_bind (kc_gal R (S4.1.trans hk) (hb _ _ hy) ha (by omega) (by omega) ((UpTo.of ua).sub (by omega) (by omega)) g3 fun k s4 hk1 l1 l2 g4 => ?_)))
          rw [Nat.zero_add] at l2
          rw [List.drop_zero] at l1
          dsimp only
          have I4 := I3.app1 hk1 fun u hu v hv => Nat.le_trans (my v hv) (l2 u hu)
          have hz : t + 1 + 1 ≤ (o ++ (a.extract k i).reverse).size := by rw [Array.size_append]; omega
          by_cases ck : i - k > 0
          rw [if_pos ck]
          by_cases e1 : k = 0
          · rw [if_pos (by simpa using e1)]
            exact kasC_pure (.inl ⟨_, rfl, S4, g4, I4.end1 (.inl e1)⟩)
          rw [if_neg (by simpa using e1)]
          generalize i - k = kk at *
          obtain ⟨k, rfl⟩ : ∃ n, k = n + 1 := ⟨k - 1, by omega⟩
          have hi4 : k + 1 ≤ a.size := by omega
          generalize o ++ (a.extract (k + 1) i).reverse = o1 at *
          rotate_left
          rw [if_neg ck]
          have k0 : k = i := by omega
          have e0 : o ++ (a.extract k i).reverse = o := by rw [k0]; simp; omega
          rw [e0] at I4 hz
          clear e0
          subst k0
          have hi4 := hi3'
          obtain ⟨k, rfl⟩ : ∃ n, k = n + 1 := ⟨k - 1, by omega⟩
          generalize o = o1 at *
          all_goals
            refine kasC_bind (kc_elem hy ?_)
            have I5 := I4.push2 hdy l1
            by_cases e3 : j = 1
            · rw [if_pos (by simpa using e3)]
              exact kasC_pure (.inl ⟨_, rfl, S4, g4, I5.end2 e3 pb h0⟩)
            rw [if_neg (by simpa using e3)]
            simp only [Nat.add_sub_cancel]
            obtain ⟨x1, hx1, hdx1⟩ := atL (show k < a.size by omega)
            have mx := up_last (ϕ := ϕ) (hdx1 ▸ I5.hx)
            rw [← hdx1] at mx
            refine kasC_bind (kc_elem hx1 (kasC_bind (kc_gal R (S4.1.trans hk) (ha _ _ hx1) hb (by omega) (by omega) ((UpTo.of ub).sub (by omega) (by omega)) g4 fun k' s5 hk2 l3 l4 g5 => ?_)))
            rw [Nat.zero_add] at l4
            rw [List.drop_zero] at l3
            dsimp only
            have I6 := I5.app2 hk2 fun u hu v hv => Nat.le_trans (mx v hv) (l4 u hu)
            have hz6 : t + 1 + 1 ≤ (o1.push y ++ (b.extract k' j).reverse).size := by rw [Array.size_append, Array.size_push]; omega
            by_cases ck' : j - k' > 0
            rw [if_pos ck']
            by_cases e4 : k' = 1
            · rw [if_pos (by simpa using e4)]
              exact kasC_pure (.inl ⟨_, rfl, S4, g5, I6.end2 e4 pb h0⟩)
            rw [if_neg (by simpa using e4)]
            by_cases e5 : k' = 0
            · rw [if_pos (by simpa using e5)]
              exact kasC_pure (.inl ⟨_, rfl, S4, g5, I6.end1 (.inr e5)⟩)
            rw [if_neg (by simpa using e5)]
            have hj6 : 2 ≤ k' ∧ k' ≤ b.size := by omega
            generalize o1.push y ++ (b.extract k' j).reverse = o2 at *
            rotate_left
            rw [if_neg ck']
            have k0' : k' = j := by omega
            have e0' : o1.push y ++ (b.extract k' j).reverse = o1.push y := by rw [k0']; simp; omega
            rw [e0'] at I6 hz6
            clear e0'
            subst k0'
            have hj6 : 2 ≤ k' ∧ k' ≤ b.size := by omega
            generalize o1.push y = o2 at *
            all_goals
              refine kasC_bind (kc_elem hx1 ?_)
              have I7 := I6.push1 hdx1 l3
              have hz7 : t + 1 + 1 ≤ (o2.push x1).size := by rw [Array.size_push]; omega
              by_cases e6 : k = 0
              · rw [if_pos (by simpa using e6)]
                exact kasC_pure (.inl ⟨_, rfl, S4, g5, I7.end1 (.inl e6)⟩)
              rw [if_neg (by simpa using e6)]
              split
              · exact kasC_pure (.inr ⟨_, _, _, _, _, _, rfl, S4, g5, I7, by omega, by omega, hj6.1, hj6.2, hz7⟩)
              · exact kasC_pure ⟨_, _, _, _, _, _, rfl, S4, g5, I7, by omega, by omega, hj6.1, hj6.2, hz7⟩
      · rintro c st3 s3 ⟨i, j, o, mg, ac, bc, rfl, S3, g3, I3, hi3⟩
        exact .inr ⟨i, j, o, mg, ac, bc, rfl, S3, g3, I3, hi3⟩
      · rintro c st3 s3 (⟨r, e, S3, g3, O⟩ | ⟨i, j, o, mg, ac, bc, rfl, S3, g3, I3, hi3⟩)
        · rw [e]
          exact kasC_pure ⟨r, rfl, S3, g3, O⟩
        dsimp only
        refine kasC_bind (kc_setG fun st4 S4 => ?_)
        exact kasC_pure ⟨i, j, o, _, rfl, S3.trans S4, g3, I3, hi3⟩
  · rintro c st' s' ⟨i, j, o, mg, rfl, S, g', I, hi, hi', hj, hj', hs⟩
    have := I.size (by omega) (by omega)
    omega
  · rintro c st' s' ⟨r, e, S, g', O⟩
    rw [e]
    exact kasC_pure (h r st' s' S g' O)
end
end Tim

set_option Elab.async false
set_option linter.all false
set_option maxRecDepth 100000
/-! own work: runs counted, and made longer, from any place on -/
namespace Tim
open PySem PySem.W PyProof.Rows
theorem fx_mirror {ϕ : Keyed → Nat} {xs : Array Keyed} {i j : Nat} (hj : j ≤ xs.size) (k : Nat) : fx ϕ (mirror xs i j ((j - i) / 2)) k = if i ≤ k ∧ k < j then fx ϕ xs (i + j - 1 - k) else fx ϕ xs k := by
  have e := getElem?_mirror_all (i := i) hj k
  by_cases h1 : i ≤ k ∧ k < j
  · rw [if_pos h1] at e ⊢
    exact fx_congr e
  · rw [if_neg h1] at e ⊢
    exact fx_congr e
theorem fx_bubble {ϕ : Keyed → Nat} {xs : Array Keyed} {src d : Nat} (hs : src < xs.size) (hd : d ≤ src) (k : Nat) : fx ϕ (bubble xs src d) k = if k = src - d then fx ϕ xs src else if src - d < k ∧ k ≤ src then fx ϕ xs (k - 1) else fx ϕ xs k := by
  have e := getElem?_bubble hs d hd k
  by_cases h1 : k = src - d
  · rw [if_pos h1] at e ⊢
    exact fx_congr e
  · rw [if_neg h1] at e ⊢
    by_cases h2 : src - d < k ∧ k ≤ src
    · rw [if_pos h2] at e ⊢
      exact fx_congr e
    · rw [if_neg h2] at e ⊢
      exact fx_congr e
/-- the same items, those before lo at their places -/
structure Kp (lo : Nat) (st st' : SortSt) : Prop where
  kind : kindOf st' = kindOf st
  pend : pendingOf st' = pendingOf st
  fail : failedOf st' = failedOf st
  perm : (arrOf st').Perm (arrOf st)
  low : ∀ i, i < lo → (arrOf st')[i]? = (arrOf st)[i]?
theorem Kp.refl (lo : Nat) (st : SortSt) : Kp lo st st := ⟨rfl, rfl, rfl, Array.Perm.refl _, fun _ _ => rfl⟩
theorem Kp.size {lo : Nat} {st st' : SortSt} (h : Kp lo st st') : (arrOf st').size = (arrOf st).size := h.perm.size_eq
theorem Kp.mir {lo i j : Nat} {st st' : SortSt} (h : Kp lo st st') (hi : lo ≤ i) (hj : j ≤ (arrOf st').size) : Kp lo st (setArr st' (mirror (arrOf st') i j ((j - i) / 2))) :=
  ⟨h.kind, h.pend, h.fail, (mirror_perm _ _ _ _).trans h.perm, fun k hk => by
    show (mirror (arrOf st') i j ((j - i) / 2))[k]? = _
    rw [getElem?_mirror_all hj k, if_neg (by omega)]
    exact h.low k hk⟩
theorem Kp.bub {lo src d : Nat} {st st' : SortSt} (h : Kp lo st st') (hs : src < (arrOf st').size) (hd : d ≤ src) (hl : lo ≤ src - d) : Kp lo st (setArr st' (bubble (arrOf st') src d)) :=
  ⟨h.kind, h.pend, h.fail, (bubble_perm _ _ _).trans h.perm, fun k hk => by
    show (bubble (arrOf st') src d)[k]? = _
    rw [getElem?_bubble hs d hd k, if_neg (by omega), if_neg (by omega)]
    exact h.low k hk⟩
/-- a stretch that does not go up -/
def DnTo (ϕ : Keyed → Nat) (a : Array Keyed) (p q : Nat) : Prop := ∀ i j, p ≤ i → i ≤ j → j < q → fx ϕ a j ≤ fx ϕ a i
section
variable {prog : Program} {w : World} {A : Around} {E : Value → Shared → Prop} {κ : SortKind} {ϕ : Keyed → Nat} {U : Keyed → Prop} {G : Shared → Prop}
theorem kc_at (R : Rank prog w A κ ϕ U G) {i j : Nat} {Q : Option Bool → SortSt → Shared → Prop} {st : SortSt} {s : Shared} (hk : kindOf st = κ) (ha : Al U (arrOf st)) (hi : i < (arrOf st).size) (hj : j < (arrOf st).size) (g : G s)
    (h : ∀ s', G s' → Q (some (decide (fx ϕ (arrOf st) i < fx ϕ (arrOf st) j))) st s') : kasC (model prog w) A E (ltAt' i j) Q st s := by
  rw [ltAt'_eq]
  refine kasC_bind (kasC_get ?_)
  have e1 : (arrOf st)[i]? = some (arrOf st)[i] := Array.getElem?_eq_getElem hi
  have e2 : (arrOf st)[j]? = some (arrOf st)[j] := Array.getElem?_eq_getElem hj
  rw [fx_at e1, fx_at e2] at h
  exact kasC_bind (kc_elem e1 (kasC_bind (kc_elem e2 (kc_lt R hk (ha _ _ e1) (ha _ _ e2) g h))))
theorem kc_rev {i j : Nat} {Q : Unit → SortSt → Shared → Prop} {st : SortSt} {s : Shared} (h : Q () (setArr st (mirror (arrOf st) i j ((j - i) / 2))) s) : kasC (model prog w) A E (reverseSlice' i j) Q st s := by
  rw [reverseSlice'_eq]
  exact kasC_modify h
theorem kc_desc (R : Rank prog w A κ ϕ U G) {lo n0 nrem : Nat} {Q : Option Nat → SortSt → Shared → Prop} {st0 st : SortSt} {s : Shared} (hk : kindOf st0 = κ) (ha : Al U (arrOf st0)) (hn : lo + nrem ≤ (arrOf st0).size) (h1 : 1 ≤ n0) (hnn : n0 + 1 ≤ nrem) (K0 : Kp lo st0 st) (dn : DnTo ϕ (arrOf st) lo (lo + n0 + 1)) (g : G s)
    (h : ∀ n st' s', 1 ≤ n → n ≤ nrem → Kp lo st0 st' → UpTo ϕ (arrOf st') lo (lo + n) → G s' → Q (some n) st' s') : kasC (model prog w) A E (do
      rule "list.sort.descending-run"
      let mut n := n0 + 1
      let mut eq := 0
      for _ in [n:nrem] do
        let some sm ← ltAt' (lo + n) (lo + n - 1) | return none
        if sm then
          if eq > 0 then reverseSlice' (lo + n - (eq + 1)) (lo + n)
          eq := 0
        else
          let some la ← ltAt' (lo + n - 1) (lo + n) | return none
          if la then break
          eq := eq + 1
        n := n + 1
      if eq > 0 then reverseSlice' (lo + n - (eq + 1)) (lo + n)
      reverseSlice' lo (lo + n)
      for _ in [n:nrem] do
        let some sm ← ltAt' (lo + n) (lo + n - 1) | return none
        if sm then break
        n := n + 1
      return some n) Q st s := by
  have meq : ∀ {xs : Array Keyed} {i j : Nat}, j ≤ xs.size → (∀ k, i ≤ k → k < j → fx ϕ xs k = fx ϕ xs (j - 1)) → ∀ k, fx ϕ (mirror xs i j ((j - i) / 2)) k = fx ϕ xs k := fun {xs i j} hj he k => by
    rw [fx_mirror hj]
    split
    · rw [he _ (by omega) (by omega), he k (by omega) (by omega)]
    · rfl
  dsimp only
  refine kasC_bind (kc_rule ?_)
  refine kasC_bind (kc_mono (Q := fun c st' s' => ∃ n q, c = (none, n, q) ∧ Kp lo st0 st' ∧ G s' ∧ 1 ≤ n ∧ n ≤ nrem ∧ DnTo ϕ (arrOf st') lo (lo + n) ∧ q < n ∧ ∀ k, lo + n - (q + 1) ≤ k → k < lo + n → fx ϕ (arrOf st') k = fx ϕ (arrOf st') (lo + n - 1))
    (kc_for (fun t c st' s' => ∃ n q, c = (none, n, q) ∧ Kp lo st0 st' ∧ G s' ∧ 1 ≤ n ∧ n = t ∧ n ≤ nrem ∧ DnTo ϕ (arrOf st') lo (lo + n) ∧ q < n ∧ ∀ k, lo + n - (q + 1) ≤ k → k < lo + n → fx ϕ (arrOf st') k = fx ϕ (arrOf st') (lo + n - 1))
      ⟨n0 + 1, 0, rfl, K0, g, by omega, rfl, hnn, dn, by omega, fun k a1 a2 => by rw [show k = lo + (n0 + 1) - 1 by omega]⟩ ?_ ?_) ?_)
  · rintro t c st' s' ht ⟨n, q, rfl, K1, g1, b1, rfl, b2, b3, b4, b5⟩
    dsimp only
    have sz := K1.size
    have al : Al U (arrOf st') := ha.perm K1.perm
    refine kasC_bind (kc_at R (K1.kind.trans hk) al (by omega) (by omega) g1 fun s2 g2 => ?_)
    dsimp only
    by_cases c : fx ϕ (arrOf st') (lo + n) < fx ϕ (arrOf st') (lo + n - 1)
    · rw [if_pos (by simpa using c)]
      have dn2 : DnTo ϕ (arrOf st') lo (lo + (n + 1)) := fun i j a1 a2 a3 => by
        rcases Nat.lt_or_ge j (lo + n) with z | z
        · exact b3 i j a1 a2 z
        · have ej : j = lo + n := by omega
          subst ej
          rcases Nat.lt_or_ge i (lo + n) with z2 | z2
          · have := b3 i (lo + n - 1) a1 (by omega) (by omega)
            omega
          · rw [show i = lo + n by omega]
            exact Nat.le_refl _
      by_cases cq : q > 0
      · rw [if_pos cq]
        refine kasC_bind (kc_rev (kasC_pure ⟨n + 1, 0, rfl, K1.mir (by omega) (by omega), g2, by omega, rfl, by omega, fun i j a1 a2 a3 => ?_, by omega, fun k a1 a2 => by rw [show k = lo + (n + 1) - 1 by omega]⟩))
        show fx ϕ (mirror (arrOf st') _ _ _) j ≤ fx ϕ (mirror (arrOf st') _ _ _) i
        rw [meq (by omega) b5, meq (by omega) b5]
        exact dn2 i j a1 a2 a3
      · rw [if_neg cq]
        exact kasC_pure ⟨n + 1, 0, rfl, K1, g2, by omega, rfl, by omega, dn2, by omega, fun k a1 a2 => by rw [show k = lo + (n + 1) - 1 by omega]⟩
    · rw [if_neg (by simpa using c)]
      refine kasC_bind (kc_at R (K1.kind.trans hk) al (by omega) (by omega) g2 fun s3 g3 => ?_)
      dsimp only
      by_cases c2 : fx ϕ (arrOf st') (lo + n - 1) < fx ϕ (arrOf st') (lo + n)
      · rw [if_pos (by simpa using c2)]
        exact kasC_pure ⟨n, q, rfl, K1, g3, b1, by omega, b3, b4, b5⟩
      · rw [if_neg (by simpa using c2)]
        have e : fx ϕ (arrOf st') (lo + n) = fx ϕ (arrOf st') (lo + n - 1) := by omega
        refine kasC_pure ⟨n + 1, q + 1, rfl, K1, g3, by omega, rfl, by omega, fun i j a1 a2 a3 => ?_, by omega, fun k a1 a2 => ?_⟩
        · rcases Nat.lt_or_ge j (lo + n) with z | z
          · exact b3 i j a1 a2 z
          · have ej : j = lo + n := by omega
            subst ej
            rcases Nat.lt_or_ge i (lo + n) with z2 | z2
            · have := b3 i (lo + n - 1) a1 (by omega) (by omega)
              omega
            · rw [show i = lo + n by omega]
              exact Nat.le_refl _
        · rw [show lo + (n + 1) - 1 = lo + n by omega, e]
          rcases Nat.lt_or_ge k (lo + n) with z | z
          · exact b5 k (by omega) z
          · rw [show k = lo + n by omega]
            exact e
  · rintro c st' s' ⟨n, q, rfl, K1, g1, b1, b2, b3, b4⟩
    exact ⟨n, q, rfl, K1, g1, b1, by omega, b4⟩
  · rintro c st' s' ⟨n, q, rfl, K1, g1, b1, b2, b3, b4, b5⟩
    dsimp only
    have sz := K1.size
    have last : ∀ {st2 : SortSt}, Kp lo st0 st2 → DnTo ϕ (arrOf st2) lo (lo + n) → kasC (model prog w) A E (do
        reverseSlice' lo (lo + n)
        let mut m := n
        for _ in [m:nrem] do
          let some sm ← ltAt' (lo + m) (lo + m - 1) | return none
          if sm then break
          m := m + 1
        return some m) Q st2 s' := fun {st2} K2 d2 => by
      have sz2 := K2.size
      dsimp only
      refine kasC_bind (kc_rev ?_)
      have K3 := K2.mir (i := lo) (j := lo + n) (by omega) (by omega)
      have u3 : UpTo ϕ (arrOf (setArr st2 (mirror (arrOf st2) lo (lo + n) ((lo + n - lo) / 2)))) lo (lo + n) := fun i j a1 a2 a3 => by
        show fx ϕ (mirror (arrOf st2) _ _ _) i ≤ fx ϕ (mirror (arrOf st2) _ _ _) j
        rw [fx_mirror (by omega), fx_mirror (by omega), if_pos (by omega), if_pos (by omega)]
        exact d2 _ _ (by omega) (by omega) (by omega)
      generalize setArr st2 (mirror (arrOf st2) lo (lo + n) ((lo + n - lo) / 2)) = st3 at *
      have sz3 := K3.size
      refine kasC_bind (kc_mono (Q := fun c st' s' => ∃ m, c = (none, m) ∧ st' = st3 ∧ G s' ∧ 1 ≤ m ∧ m ≤ nrem ∧ UpTo ϕ (arrOf st3) lo (lo + m)) (kc_for (fun t c st' s' => ∃ m, c = (none, m) ∧ st' = st3 ∧ G s' ∧ 1 ≤ m ∧ m = t ∧ m ≤ nrem ∧ UpTo ϕ (arrOf st3) lo (lo + m)) ⟨n, rfl, rfl, g1, b1, rfl, b2, u3⟩ ?_ ?_) ?_)
      · rintro t c st4 s4 ht ⟨m, rfl, rfl, g4, d1, rfl, d3, d4⟩
        dsimp only
        refine kasC_bind (kc_at R (K3.kind.trans hk) (ha.perm K3.perm) (by omega) (by omega) g4 fun s5 g5 => ?_)
        dsimp only
        by_cases c : fx ϕ (arrOf st4) (lo + m) < fx ϕ (arrOf st4) (lo + m - 1)
        · rw [if_pos (by simpa using c)]
          exact kasC_pure ⟨m, rfl, rfl, g5, d1, d3, d4⟩
        · rw [if_neg (by simpa using c)]
          refine kasC_pure ⟨m + 1, rfl, rfl, g5, by omega, rfl, by omega, fun i j a1 a2 a3 => ?_⟩
          rcases Nat.lt_or_ge j (lo + m) with z | z
          · exact d4 i j a1 a2 z
          · have ej : j = lo + m := by omega
            subst ej
            rcases Nat.lt_or_ge i (lo + m) with z2 | z2
            · have := d4 i (lo + m - 1) a1 (by omega) (by omega)
              omega
            · rw [show i = lo + m by omega]
              exact Nat.le_refl _
      · rintro c st4 s4 ⟨m, rfl, rfl, g4, d1, rfl, d3, d4⟩
        exact ⟨_, rfl, rfl, g4, d1, d3, d4⟩
      · rintro c st4 s4 ⟨m, rfl, rfl, g4, d1, d3, d4⟩
        exact kasC_pure (h m st4 s4 d1 d3 K3 d4 g4)
    by_cases cq : q > 0
    · rw [if_pos cq]
      refine kasC_bind (kc_rev (last (K1.mir (by omega) (by omega)) fun i j a1 a2 a3 => ?_))
      show fx ϕ (mirror (arrOf st') _ _ _) j ≤ fx ϕ (mirror (arrOf st') _ _ _) i
      rw [meq (by omega) b5, meq (by omega) b5]
      exact b3 i j a1 a2 a3
    · rw [if_neg cq]
      exact last K1 b3
theorem kc_count (R : Rank prog w A κ ϕ U G) {lo nrem : Nat} {Q : Option Nat → SortSt → Shared → Prop} {st : SortSt} {s : Shared} (hk : kindOf st = κ) (ha : Al U (arrOf st)) (hn : lo + nrem ≤ (arrOf st).size) (h1 : 1 ≤ nrem) (g : G s)
    (h : ∀ n st' s', 1 ≤ n → n ≤ nrem → Kp lo st st' → UpTo ϕ (arrOf st') lo (lo + n) → G s' → Q (some n) st' s') : kasC (model prog w) A E (countRun' lo nrem) Q st s := by
  rw [countRun'_eq]
  dsimp only
  refine kasC_bind (kc_mono (Q := fun c st' s' => ∃ m, c = (none, m) ∧ st' = st ∧ G s' ∧ 1 ≤ m ∧ m ≤ nrem ∧ UpTo ϕ (arrOf st) lo (lo + m) ∧ (m = nrem ∨ fx ϕ (arrOf st) (lo + m) < fx ϕ (arrOf st) (lo + m - 1))) (kc_for (fun t c st' s' => ∃ m, c = (none, m) ∧ st' = st ∧ G s' ∧ 1 ≤ m ∧ m = t ∧ m ≤ nrem ∧ UpTo ϕ (arrOf st) lo (lo + m)) ⟨1, rfl, rfl, g, by omega, rfl, h1, fun i j a1 a2 a3 => by rw [show i = j by omega]; exact Nat.le_refl _⟩ ?_ ?_) ?_)
  · rintro t c st4 s4 ht ⟨m, rfl, rfl, g4, d1, rfl, d3, d4⟩
    dsimp only
    refine kasC_bind (kc_at R hk ha (by omega) (by omega) g4 fun s5 g5 => ?_)
    dsimp only
    by_cases c : fx ϕ (arrOf st4) (lo + m) < fx ϕ (arrOf st4) (lo + m - 1)
    · rw [if_pos (by simpa using c)]
      exact kasC_pure ⟨m, rfl, rfl, g5, d1, d3, d4, .inr c⟩
    · rw [if_neg (by simpa using c)]
      refine kasC_pure ⟨m + 1, rfl, rfl, g5, by omega, rfl, by omega, fun i j a1 a2 a3 => ?_⟩
      rcases Nat.lt_or_ge j (lo + m) with z | z
      · exact d4 i j a1 a2 z
      · have ej : j = lo + m := by omega
        subst ej
        rcases Nat.lt_or_ge i (lo + m) with z2 | z2
        · have := d4 i (lo + m - 1) a1 (by omega) (by omega)
          omega
        · rw [show i = lo + m by omega]
          exact Nat.le_refl _
  · rintro c st4 s4 ⟨m, rfl, rfl, g4, d1, rfl, d3, d4⟩
    exact ⟨_, rfl, rfl, g4, d1, d3, d4, .inl (by omega)⟩
  · rintro c st4 s4 ⟨m, rfl, rfl, g4, d1, d3, d4, d5⟩
    dsimp only
    by_cases c1 : m = nrem
    · rw [if_pos (by simpa using c1)]
      exact kasC_pure (h m st4 s4 d1 d3 (Kp.refl _ _) d4 g4)
    rw [if_neg (by simpa using c1)]
    have hlt := d5.resolve_left c1
    by_cases c2 : m > 1
    · rw [if_pos c2]
      refine kasC_bind (kc_at R hk ha (by omega) (by omega) g4 fun s5 g5 => ?_)
      dsimp only
      by_cases c3 : fx ϕ (arrOf st4) lo < fx ϕ (arrOf st4) (lo + m - 1)
      · rw [if_pos (by simpa using c3)]
        exact kasC_pure (h m st4 s5 d1 d3 (Kp.refl _ _) d4 g5)
      · rw [if_neg (by simpa using c3)]
        have hall : ∀ k, lo ≤ k → k < lo + m → fx ϕ (arrOf st4) k = fx ϕ (arrOf st4) (lo + m - 1) := fun k a1 a2 => by
          have z1 := d4 lo k (by omega) a1 a2
          have z2 := d4 k (lo + m - 1) a1 (by omega) (by omega)
          omega
        refine kasC_bind (kc_rev (kc_desc R hk ha hn d1 (by omega) ((Kp.refl lo st4).mir (by omega) (by omega)) ?_ g5 h))
        have meq : ∀ k, fx ϕ (mirror (arrOf st4) lo (lo + m) ((lo + m - lo) / 2)) k = fx ϕ (arrOf st4) k := fun k => by
          rw [fx_mirror (by omega)]
          split
          · rw [hall _ (by omega) (by omega), hall k (by omega) (by omega)]
          · rfl
        intro i j a1 a2 a3
        show fx ϕ (mirror (arrOf st4) _ _ _) j ≤ fx ϕ (mirror (arrOf st4) _ _ _) i
        rw [meq, meq]
        rcases Nat.lt_or_ge j (lo + m) with z | z
        · rw [hall i (by omega) (by omega), hall j (by omega) z]
          exact Nat.le_refl _
        · have ej : j = lo + m := by omega
          subst ej
          rcases Nat.lt_or_ge i (lo + m) with z2 | z2
          · rw [hall i a1 z2]
            omega
          · rw [show i = lo + m by omega]
            exact Nat.le_refl _
    · rw [if_neg c2]
      have hm : m = 1 := by omega
      subst hm
      refine kc_desc R hk ha hn d1 (by omega) (Kp.refl lo st4) ?_ g4 h
      intro i j a1 a2 a3
      rcases Nat.lt_or_ge i j with z | z
      · have e1 : i = lo := by omega
        have e2 : j = lo + 1 := by omega
        subst e1 e2
        rw [Nat.add_sub_cancel] at hlt
        omega
      · rw [show i = j by omega]
        exact Nat.le_refl _
theorem kc_ins (R : Rank prog w A κ ϕ U G) {lo n ok : Nat} {Q : Bool → SortSt → Shared → Prop} {st0 st : SortSt} {s : Shared} (hk : kindOf st0 = κ) (ha : Al U (arrOf st0)) (hn : lo + n ≤ (arrOf st0).size) (hok : ok ≤ n) (K0 : Kp lo st0 st) (up : UpTo ϕ (arrOf st) lo (lo + ok)) (g : G s)
    (h : ∀ st' s', Kp lo st0 st' → UpTo ϕ (arrOf st') lo (lo + n) → G s' → Q true st' s') : kasC (model prog w) A E (binarySort' lo n ok) Q st s := by
  rw [binarySort'_eq]
  dsimp only
  refine kasC_bind (kc_mono (Q := fun c st' s' => c = (none, ()) ∧ Kp lo st0 st' ∧ G s' ∧ UpTo ϕ (arrOf st') lo (lo + n)) (kc_for (fun k c st' s' => c = (none, ()) ∧ max ok 1 ≤ k ∧ Kp lo st0 st' ∧ G s' ∧ UpTo ϕ (arrOf st') lo (lo + min k n)) ⟨rfl, Nat.le_refl _, K0, g, fun i j a1 a2 a3 => ?_⟩ ?_ ?_) ?_)
  · by_cases h1 : ok = 0
    · rw [show i = j by omega]
      exact Nat.le_refl _
    · exact up i j a1 a2 (by omega)
  · rintro k c st1 s1 hkk ⟨rfl, hk1, K1, g1, u1⟩
    have sz := K1.size
    have hkn : k < n := by omega
    rw [show min k n = k by omega] at u1
    refine kasC_bind (kc_mono (Q := fun c st' s' => st' = st1 ∧ G s' ∧ ∃ l r, c = (none, l, r) ∧ l ≤ k ∧ (∀ i, lo ≤ i → i < lo + l → fx ϕ (arrOf st1) i ≤ fx ϕ (arrOf st1) (lo + k)) ∧ (∀ i, lo + l ≤ i → i < lo + k → fx ϕ (arrOf st1) (lo + k) < fx ϕ (arrOf st1) i))
      (kc_for (fun x c st' s' => st' = st1 ∧ G s' ∧ ∃ l r, c = (none, l, r) ∧ l ≤ r ∧ r ≤ k ∧ r - l ≤ k - x ∧ (∀ i, lo ≤ i → i < lo + l → fx ϕ (arrOf st1) i ≤ fx ϕ (arrOf st1) (lo + k)) ∧ (∀ i, lo + r ≤ i → i < lo + k → fx ϕ (arrOf st1) (lo + k) < fx ϕ (arrOf st1) i))
        ⟨rfl, g1, 0, k, rfl, by omega, by omega, by omega, fun i a1 a2 => by omega, fun i a1 a2 => by omega⟩ ?_ ?_) ?_)
    · rintro x c st2 s2 hx ⟨rfl, g2, l, r, rfl, b1, b2, b3, b4, b5⟩
      dsimp only
      by_cases hge : l ≥ r
      · rw [if_pos hge]
        have : l = r := by omega
        subst this
        exact kasC_pure ⟨rfl, g2, l, l, rfl, b2, b4, b5⟩
      · rw [if_neg hge]
        refine kasC_bind (kc_at R (K1.kind.trans hk) (ha.perm K1.perm) (by omega) (by omega) g2 fun s3 g3 => ?_)
        dsimp only
        by_cases c : fx ϕ (arrOf st2) (lo + k) < fx ϕ (arrOf st2) (lo + (l + r) / 2)
        · rw [if_pos (by simpa using c)]
          refine kasC_pure ⟨rfl, g3, l, (l + r) / 2, rfl, by omega, by omega, by omega, b4, fun i a1 a2 => ?_⟩
          exact Nat.lt_of_lt_of_le c (u1 _ _ (by omega) a1 a2)
        · rw [if_neg (by simpa using c)]
          refine kasC_pure ⟨rfl, g3, (l + r) / 2 + 1, r, rfl, by omega, by omega, by omega, fun i a1 a2 => ?_, b5⟩
          exact Nat.le_trans (u1 i (lo + (l + r) / 2) a1 (by omega) (by omega)) (Nat.not_lt.mp c)
    · rintro c st2 s2 ⟨rfl, g2, l, r, rfl, b1, b2, b3, b4, b5⟩
      have : l = r := by omega
      subst this
      exact ⟨rfl, g2, l, l, rfl, b2, b4, b5⟩
    · rintro c st2 s2 ⟨rfl, g2, l, r, rfl, b1, b2, b3⟩
      dsimp only
      rw [moveDown'_eq]
      refine kasC_bind (kasC_modify (kasC_pure ⟨rfl, by omega, K1.bub (by omega) (by omega) (by omega), g2, ?_⟩))
      rw [show min (k + 1) n = k + 1 by omega]
      have hks : lo + k < (arrOf st2).size := by omega
      intro i j a1 a2 a3
      show fx ϕ (bubble (arrOf st2) (lo + k) (lo + k - (lo + l))) i ≤ fx ϕ (bubble (arrOf st2) (lo + k) (lo + k - (lo + l))) j
      rw [fx_bubble hks (by omega), fx_bubble hks (by omega), show lo + k - (lo + k - (lo + l)) = lo + l by omega]
      repeat' split
      all_goals first
        | (exfalso; omega)
        | exact Nat.le_refl _
        | exact b2 _ (by omega) (by omega)
        | exact Nat.le_of_lt (b3 _ (by omega) (by omega))
        | exact u1 _ _ (by omega) (by omega) (by omega)
  · rintro c st1 s1 ⟨rfl, hk1, K1, g1, u1⟩
    refine ⟨rfl, K1, g1, ?_⟩
    rwa [show min (max (max ok 1) n) n = n by omega] at u1
  · rintro c st1 s1 ⟨rfl, K1, g1, u1⟩
    exact kasC_pure (h st1 s1 K1 u1 g1)
end
end Tim

set_option Elab.async false
set_option linter.all false
set_option maxRecDepth 100000
/-! own work: runs merged, the whole sorting -/
namespace Tim
open PySem PySem.W PyProof.Rows
section
variable {ϕ : Keyed → Nat}
theorem up_of {a : Array Keyed} {P X S : List Keyed} (e : a.toList = P ++ X ++ S) (u : Up ϕ X) : UpTo ϕ a P.length (P.length + X.length) := by
  have ix : ∀ k (hk : k < X.length), fx ϕ a (P.length + k) = ϕ X[k] := fun k hk => by
    refine fx_at ?_
    rw [← Array.getElem?_toList, e, List.append_assoc, List.getElem?_append_right (by omega), Nat.add_sub_cancel_left, List.getElem?_append_left hk]
    exact List.getElem?_eq_getElem hk
  intro i j a1 a2 a3
  obtain ⟨x, rfl⟩ : ∃ x, i = P.length + x := ⟨i - P.length, by omega⟩
  obtain ⟨y, rfl⟩ : ∃ y, j = P.length + y := ⟨j - P.length, by omega⟩
  rw [ix x (by omega), ix y (by omega)]
  rcases Nat.lt_or_ge x y with c | c
  · exact List.pairwise_iff_getElem.mp u x y (by omega) (by omega) c
  · have : x = y := by omega
    subst this
    exact Nat.le_refl _
theorem of_up {a : Array Keyed} {p n : Nat} (h : UpTo ϕ a p (p + n)) (hn : p + n ≤ a.size) : Up ϕ ((a.toList.drop p).take n) := by
  refine List.pairwise_iff_getElem.mpr fun i j hi hj hij => ?_
  have hl : ((a.toList.drop p).take n).length = n := by rw [List.length_take, List.length_drop, Array.length_toList]; omega
  have ix : ∀ k (hk : k < ((a.toList.drop p).take n).length), fx ϕ a (p + k) = ϕ ((a.toList.drop p).take n)[k] := fun k hk => by
    have hk2 : p + k < a.size := by omega
    refine fx_at ?_
    rw [Array.getElem?_eq_getElem hk2]
    simp
  rw [← ix i hi, ← ix j hj]
  exact h _ _ (by omega) (by omega) (by omega)
/-- runs that lie one behind another -/
def Runs (ϕ : Keyed → Nat) (a : Array Keyed) : List (Nat × Nat × Nat) → Nat → Nat → Prop
  | [], p, q => p = q
  | x :: l, p, q => x.1 = p ∧ 1 ≤ x.2.1 ∧ UpTo ϕ a p (p + x.2.1) ∧ Runs ϕ a l (p + x.2.1) q
theorem Runs.le {a : Array Keyed} : ∀ {l : List (Nat × Nat × Nat)} {p q : Nat}, Runs ϕ a l p q → p + l.length ≤ q
  | [], p, q, h => by
    have : p = q := h
    simp [this]
  | x :: l, p, q, h => by
    have := Runs.le h.2.2.2
    have := h.2.1
    simp only [List.length_cons]
    omega
theorem Runs.congr {a b : Array Keyed} : ∀ {l : List (Nat × Nat × Nat)} {p q : Nat}, Runs ϕ a l p q → (∀ i, p ≤ i → i < q → fx ϕ b i = fx ϕ a i) → Runs ϕ b l p q
  | [], _, _, h, _ => h
  | x :: l, p, q, h, e => by
    have hle := Runs.le h.2.2.2
    refine ⟨h.1, h.2.1, fun i j a1 a2 a3 => ?_, h.2.2.2.congr fun i a1 a2 => e i (by omega) a2⟩
    rw [e i (by omega) (by omega), e j (by omega) (by omega)]
    exact h.2.2.1 i j a1 a2 a3
theorem Runs.app {a : Array Keyed} : ∀ {l m : List (Nat × Nat × Nat)} {p q : Nat}, Runs ϕ a (l ++ m) p q → ∃ r, Runs ϕ a l p r ∧ Runs ϕ a m r q
  | [], m, p, q, h => ⟨p, rfl, h⟩
  | x :: l, m, p, q, h => by
    obtain ⟨r, h1, h2⟩ := Runs.app h.2.2.2
    exact ⟨r, ⟨h.1, h.2.1, h.2.2.1, h1⟩, h2⟩
theorem Runs.join {a : Array Keyed} : ∀ {l m : List (Nat × Nat × Nat)} {p q r : Nat}, Runs ϕ a l p r → Runs ϕ a m r q → Runs ϕ a (l ++ m) p q
  | [], m, p, q, r, h, k => by
    have : p = r := h
    subst this
    exact k
  | x :: l, m, p, q, r, h, k => ⟨h.1, h.2.1, h.2.2.1, Runs.join h.2.2.2 k⟩
theorem Runs.mod {a : Array Keyed} {f : Nat × Nat × Nat → Nat × Nat × Nat} (hf : ∀ x, (f x).1 = x.1 ∧ (f x).2.1 = x.2.1) : ∀ {l : List (Nat × Nat × Nat)} {p q : Nat} (k : Nat), Runs ϕ a l p q → Runs ϕ a (l.modify k f) p q
  | [], p, q, k, h => by rw [List.modify_nil]; exact h
  | x :: l, p, q, 0, h => by
    rw [List.modify_zero_cons]
    refine ⟨(hf x).1.trans h.1, by rw [(hf x).2]; exact h.2.1, by rw [(hf x).2]; exact h.2.2.1, by rw [(hf x).2]; exact h.2.2.2⟩
  | x :: l, p, q, k + 1, h => by
    rw [List.modify_succ_cons]
    exact ⟨h.1, h.2.1, h.2.2.1, Runs.mod hf k h.2.2.2⟩
end
/-- a row put over another one -/
theorem put_over : ∀ (r : List Keyed) (a : Array Keyed) (p k : Nat), p + k + r.length ≤ a.size → ((r.zipIdx k).foldl (fun a (x : Keyed × Nat) => a.setIfInBounds (p + x.2) x.1) a).toList = a.toList.take (p + k) ++ r ++ a.toList.drop (p + k + r.length)
  | [], a, p, k, h => by simp
  | x :: r, a, p, k, h => by
    rw [List.zipIdx_cons, List.foldl_cons]
    simp only [List.length_cons] at h
    rw [put_over r _ p (k + 1) (by rw [Array.size_setIfInBounds]; omega)]
    have hk : p + k < a.toList.length := by rw [Array.length_toList]; omega
    rw [Array.toList_setIfInBounds, List.set_eq_take_append_cons_drop, if_pos hk]
    have e1 : (a.toList.take (p + k)).length = p + k := by rw [List.length_take]; omega
    have e2 : (a.toList.take (p + k) ++ x :: a.toList.drop (p + k + 1)).take (p + (k + 1)) = a.toList.take (p + k) ++ [x] := by
      rw [List.take_append, e1, show p + (k + 1) - (p + k) = 1 by omega, List.take_of_length_le (by omega)]
      rfl
    have e3 : (a.toList.take (p + k) ++ x :: a.toList.drop (p + k + 1)).drop (p + (k + 1) + r.length) = a.toList.drop (p + k + (x :: r).length) := by
      rw [List.drop_append, e1, List.drop_of_length_le (by omega), List.nil_append, show p + (k + 1) + r.length - (p + k) = r.length + 1 by omega, List.drop_succ_cons, List.drop_drop]
      congr 1
      simp only [List.length_cons]
      omega
    rw [e2, e3]
    simp
theorem mgAt'_eq (i : Nat) : mergeAt' i = (do
  let z ← get
  let (some (sa, na, pw), some (sb, nb, _)) := ((pendingOf z)[i]?, (pendingOf z)[i + 1]?) | unsupported "internal:list.sort.pending"
  set (setPending z (((pendingOf z).setIfInBounds i (sa, na + nb, pw)).eraseIdxIfInBounds (i + 1)))
  let some k ← galp' false (← elem' (arrOf z) sb) (arrOf z) sa na 0 | return false
  let (sc, nc) := (sa + k, na - k)
  if nc == 0 then return true
  let some nd ← galp' true (← elem' (arrOf z) (sc + nc - 1)) (arrOf z) sb nb (nb - 1) | return false
  if nd == 0 then return true
  let x := (arrOf z).extract sc sb
  let y := (arrOf z).extract sb (sb + nd)
  let r ← if nc ≤ nd then mgLo' x y else mgHi' x y
  modify fun z => setArr z (r.toList.zipIdx.foldl (fun a (p, j) => a.setIfInBounds (sc + j) p) (arrOf z))
  return (failedOf (← get)).isNone) := rfl
section
variable {prog : Program} {w : World} {A : Around} {E : Value → Shared → Prop} {κ : SortKind} {ϕ : Keyed → Nat} {U : Keyed → Prop} {G : Shared → Prop}
theorem kasC_set {σ : Type} {M : Model} {t : σ} {Q : PUnit → σ → Shared → Prop} {st : σ} {s : Shared} (h : Q ⟨⟩ t s) : kasC M A E (set t : StateT σ Sem PUnit) Q st s := by
  unfold kasC; rw [StateT.run_set]; exact wpAny_pure h
/-- what holds between the merges -/
structure Jn (κ : SortKind) (ϕ : Keyed → Nat) (a₀ : Array Keyed) (q : Nat) (l : List (Nat × Nat × Nat)) (st : SortSt) : Prop where
  kind : kindOf st = κ
  fail : failedOf st = none
  perm : (arrOf st).Perm a₀
  pend : (pendingOf st).toList = l
  runs : Runs ϕ (arrOf st) l 0 q
theorem kc_mgAt (R : Rank prog w A κ ϕ U G) {a₀ : Array Keyed} {q i : Nat} {l : List (Nat × Nat × Nat)} {Q : Bool → SortSt → Shared → Prop} {st : SortSt} {s : Shared} (ha : Al U a₀) (J : Jn κ ϕ a₀ q l st) (hq : q ≤ a₀.size) (hi : i + 1 < l.length) (g : G s)
    (h : ∀ l' st' s', l'.length + 1 = l.length → Jn κ ϕ a₀ q l' st' → (∀ k, q ≤ k → fx ϕ (arrOf st') k = fx ϕ (arrOf st) k) → G s' → Q true st' s') : kasC (model prog w) A E (mergeAt' i) Q st s := by
  obtain ⟨l1, x, y, l2, e, e1⟩ : ∃ l1 x y l2, l = l1 ++ x :: y :: l2 ∧ l1.length = i :=
    ⟨l.take i, l[i], l[i + 1], l.drop (i + 2), by
      rw [← List.drop_eq_getElem_cons (by omega), ← List.drop_eq_getElem_cons (by omega), List.take_append_drop], by rw [List.length_take]; omega⟩
  obtain ⟨sa, na, pw⟩ := x
  obtain ⟨sb, nb, pv⟩ := y
  obtain ⟨r, r1, r2⟩ := Runs.app (e ▸ J.runs)
  obtain ⟨z1, z2, z3, z4, z5, z6, z7⟩ := r2
  dsimp only at z1 z2 z3 z4 z5 z6 z7
  subst z1
  subst z4
  have sz : (arrOf st).size = a₀.size := J.perm.size_eq
  have al : Al U (arrOf st) := ha.perm J.perm
  have hle := z7.le
  have p1 : (pendingOf st)[i]? = some (sa, na, pw) := by
    rw [← Array.getElem?_toList, J.pend, e, ← e1, List.getElem?_append_right (Nat.le_refl _), Nat.sub_self]
    rfl
  have p2 : (pendingOf st)[i + 1]? = some (sa + na, nb, pv) := by
    rw [← Array.getElem?_toList, J.pend, e, ← e1, List.getElem?_append_right (by omega), Nat.add_sub_cancel_left]
    rfl
  have p3 : (((pendingOf st).setIfInBounds i (sa, na + nb, pw)).eraseIdxIfInBounds (i + 1)).toList = l1 ++ (sa, na + nb, pw) :: l2 := by
    rw [Array.toList_eraseIdxIfInBounds, Array.toList_setIfInBounds, J.pend, e, ← e1, List.set_append_right _ _ (Nat.le_refl _), Nat.sub_self, List.eraseIdx_append_of_length_le (by omega), Nat.add_sub_cancel_left]
    rfl
  have fin : ∀ (a' : Array Keyed), a'.Perm (arrOf st) → (∀ k, k < sa → fx ϕ a' k = fx ϕ (arrOf st) k) → (∀ k, sa + na + nb ≤ k → fx ϕ a' k = fx ϕ (arrOf st) k) → UpTo ϕ a' sa (sa + (na + nb)) → ∀ (st' : SortSt) (s' : Shared), kindOf st' = κ → failedOf st' = none → arrOf st' = a' → pendingOf st' = ((pendingOf st).setIfInBounds i (sa, na + nb, pw)).eraseIdxIfInBounds (i + 1) → G s' → Q true st' s' := by
    intro a' q1 q2 q3 q4 st' s' q5 q6 q7 q8 g'
    subst q7
    refine h (l1 ++ (sa, na + nb, pw) :: l2) st' s' (by rw [e]; simp only [List.length_append, List.length_cons]; omega) ⟨q5, q6, q1.trans J.perm, by rw [q8, p3], ?_⟩ (fun k hk => q3 k (by omega)) g'
    refine (r1.congr fun k b1 b2 => q2 k b2).join ⟨rfl, by show 1 ≤ na + nb; omega, q4, ?_⟩
    show Runs ϕ (arrOf st') l2 (sa + (na + nb)) q
    rw [← Nat.add_assoc]
    exact z7.congr fun k b1 b2 => q3 k b1
  rw [mgAt'_eq]
  refine kasC_bind (kasC_get ?_)
  rw [p1, p2]
  dsimp only
  refine kasC_bind (kasC_set ?_)
  obtain ⟨y0, hy0, hdy0⟩ := at_ (show sa + na < (arrOf st).size by omega)
  have kd : kindOf (setPending st (((pendingOf st).setIfInBounds i (sa, na + nb, pw)).eraseIdxIfInBounds (i + 1))) = κ := J.kind
  generalize hst : setPending st (((pendingOf st).setIfInBounds i (sa, na + nb, pw)).eraseIdxIfInBounds (i + 1)) = st1 at *
  have ar1 : arrOf st1 = arrOf st := by rw [← hst]
  have pe1 : pendingOf st1 = ((pendingOf st).setIfInBounds i (sa, na + nb, pw)).eraseIdxIfInBounds (i + 1) := by rw [← hst]
  have fa1 : failedOf st1 = none := by rw [← hst]; exact J.fail
  have seg : ∀ p n, UpTo ϕ (arrOf st) p (p + n) → p + n ≤ a₀.size → Up ϕ (((arrOf st).toList.drop p).take n) := fun p n u hn => of_up u (by omega)
  have sB := seg _ _ z6 (by omega)
  have sA := seg _ _ z3 (by omega)
  have cutL : ∀ p n m, ((arrOf st).toList.drop p).take (n + m) = ((arrOf st).toList.drop p).take n ++ ((arrOf st).toList.drop (p + n)).take m := fun p n m => by
    rw [List.take_add, List.drop_drop]
  have lenL : (arrOf st).toList.length = a₀.size := by rw [Array.length_toList, sz]
  refine kasC_bind (kc_elem hy0 (kasC_bind (kc_gal R kd (al _ _ hy0) al (by omega) (by omega) z3 g fun k s1 hk1 l1' l2' g1 => ?_)))
  dsimp only
  have upB : ∀ v ∈ ((arrOf st).toList.drop (sa + na)).take nb, ϕ y0 ≤ ϕ v := by
    obtain ⟨nb', rfl⟩ : ∃ m, nb = m + 1 := ⟨nb - 1, by omega⟩
    rw [hdy0, List.take_succ_cons] at sB ⊢
    exact up_head sB
  by_cases c1 : na - k = 0
  · rw [if_pos (by simpa using c1)]
    have k0 : k = na := by omega
    subst k0
    refine kasC_pure (fin (arrOf st) (Array.Perm.refl _) (fun _ _ => rfl) (fun _ _ => rfl) ?_ st1 s1 kd fa1 ar1 pe1 g1)
    have u : Up ϕ (((arrOf st).toList.drop sa).take (k + nb)) := by
      rw [cutL]
      exact List.pairwise_append.mpr ⟨sA, sB, fun u hu v hv => Nat.le_trans (l1' u hu) (upB v hv)⟩
    have := up_of (ϕ := ϕ) (a := arrOf st) (P := (arrOf st).toList.take sa) (S := (arrOf st).toList.drop (sa + (k + nb))) (by rw [List.append_assoc, ← List.drop_drop, List.take_append_drop, List.take_append_drop]) u
    rw [List.length_take, List.length_take, List.length_drop, lenL, show min sa a₀.size = sa by omega, show min (k + nb) (a₀.size - sa) = k + nb by omega] at this
    exact this
  rw [if_neg (by simpa using c1)]
  rw [show sa + k + (na - k) - 1 = sa + na - 1 by omega]
  obtain ⟨xl, hxl, hdxl⟩ := atL (show sa + na - 1 < (arrOf st).size by omega)
  have upA : ∀ v ∈ ((arrOf st).toList.drop sa).take na, ϕ v ≤ ϕ xl := by
    have : ((arrOf st).toList.drop sa).take na = ((arrOf st).toList.drop sa).take (na - 1) ++ [xl] := by
      have e9 : ∃ m, na = m + 1 := ⟨na - 1, by omega⟩
      obtain ⟨m, rfl⟩ := e9
      rw [cutL, Nat.add_sub_cancel]
      congr 1
      obtain ⟨x9, hx9, hd9⟩ := at_ (show sa + m < (arrOf st).size by omega)
      rw [hd9]
      have : x9 = xl := by
        rw [show sa + (m + 1) - 1 = sa + m by omega, hx9] at hxl
        exact Option.some.inj hxl
      rw [this]
      rfl
    rw [this] at sA ⊢
    exact up_last sA
  refine kasC_bind (kc_elem hxl (kasC_bind (kc_gal R kd (al _ _ hxl) al (by omega) (by omega) z6 g1 fun nd s2 hnd m1 m2 g2 => ?_)))
  dsimp only
  by_cases c2 : nd = 0
  · rw [if_pos (by simpa using c2)]
    subst c2
    refine kasC_pure (fin (arrOf st) (Array.Perm.refl _) (fun _ _ => rfl) (fun _ _ => rfl) ?_ st1 s2 kd fa1 ar1 pe1 g2)
    have u : Up ϕ (((arrOf st).toList.drop sa).take (na + nb)) := by
      rw [cutL]
      exact List.pairwise_append.mpr ⟨sA, sB, fun u hu v hv => Nat.le_trans (upA u hu) (m2 v (by simpa using hv))⟩
    have := up_of (ϕ := ϕ) (a := arrOf st) (P := (arrOf st).toList.take sa) (S := (arrOf st).toList.drop (sa + (na + nb))) (by rw [List.append_assoc, ← List.drop_drop, List.take_append_drop, List.take_append_drop]) u
    rw [List.length_take, List.length_take, List.length_drop, lenL, show min sa a₀.size = sa by omega, show min (na + nb) (a₀.size - sa) = na + nb by omega] at this
    exact this
  rw [if_neg (by simpa using c2)]
  have ex1 : ((arrOf st).extract (sa + k) (sa + na)).toList = ((arrOf st).toList.drop (sa + k)).take (na - k) := by
    rw [← ext_l, show sa + k + (na - k) = sa + na by omega]
  have ex2 : ((arrOf st).extract (sa + na) (sa + na + nd)).toList = ((arrOf st).toList.drop (sa + na)).take nd := ext_l _ _ _
  have sz1 : ((arrOf st).extract (sa + k) (sa + na)).size = na - k := by rw [Array.size_extract]; omega
  have sz2 : ((arrOf st).extract (sa + na) (sa + na + nd)).size = nd := by rw [Array.size_extract]; omega
  have al' : ∀ p q', Al U ((arrOf st).extract p q') := fun p q' i x hx => by
    rw [Array.getElem?_extract] at hx
    split at hx
    · exact al _ _ hx
    · cases hx
  have u1 : Up ϕ ((arrOf st).extract (sa + k) (sa + na)).toList := by
    rw [ex1]
    exact seg _ _ (z3.sub (by omega) (by omega)) (by omega)
  have u2 : Up ϕ ((arrOf st).extract (sa + na) (sa + na + nd)).toList := by
    rw [ex2]
    exact seg _ _ (z6.sub (by omega) (by omega)) (by omega)
  have q0 : ∀ y, ((arrOf st).extract (sa + na) (sa + na + nd))[0]? = some y → ∀ x ∈ ((arrOf st).extract (sa + k) (sa + na)).toList, ϕ y ≤ ϕ x := fun y hy x hx => by
    rw [Array.getElem?_extract, if_pos (by omega), Nat.add_zero, hy0] at hy
    rw [← Option.some.inj hy]
    rw [ex1] at hx
    exact l2' x hx
  have q1 : ∀ x, ((arrOf st).extract (sa + k) (sa + na))[((arrOf st).extract (sa + k) (sa + na)).size - 1]? = some x → ∀ y ∈ ((arrOf st).extract (sa + na) (sa + na + nd)).toList, ϕ y ≤ ϕ x := fun x hx y hy => by
    rw [sz1, Array.getElem?_extract, if_pos (by omega), show sa + k + (na - k - 1) = sa + na - 1 by omega, hxl] at hx
    rw [← Option.some.inj hx]
    rw [ex2] at hy
    exact m1 y hy
  have last : ∀ (r : Array Keyed) (st' : SortSt) (s' : Shared), Sim st1 st' → G s' → Ok ϕ ((arrOf st).extract (sa + k) (sa + na)) ((arrOf st).extract (sa + na) (sa + na + nd)) r → kasC (model prog w) A E (do
      modify fun z => setArr z (r.toList.zipIdx.foldl (fun a (p, j) => a.setIfInBounds (sa + k + j) p) (arrOf z))
      return (failedOf (← get)).isNone) Q st' s' := by
    intro r st' s' S' g' O
    refine kasC_bind (kasC_modify (kasC_bind (kasC_get (kasC_pure ?_))))
    have fz : failedOf st' = none := S'.2.2.2.trans fa1
    show Q (failedOf st').isNone _ _
    rw [fz]
    have az : arrOf st' = arrOf st := S'.2.1.trans ar1
    obtain ⟨O1, O2⟩ := O
    have lr : r.toList.length = na - k + nd := by
      rw [O2.length_eq, List.length_append, Array.length_toList, Array.length_toList, sz1, sz2]
    have pu := put_over r.toList (arrOf st) (sa + k) 0 (by rw [lr]; omega)
    rw [Nat.add_zero, lr, show sa + k + (na - k + nd) = sa + na + nd by omega] at pu
    rw [ex1, ex2] at O2
    generalize hP : (arrOf st).toList.take sa = P at *
    generalize hA1 : ((arrOf st).toList.drop sa).take k = A1 at *
    generalize hA2 : ((arrOf st).toList.drop (sa + k)).take (na - k) = A2 at *
    generalize hB1 : ((arrOf st).toList.drop (sa + na)).take nd = B1 at *
    generalize hB2 : ((arrOf st).toList.drop (sa + na + nd)).take (nb - nd) = B2 at *
    generalize hS : (arrOf st).toList.drop (sa + na + nb) = S at *
    have hA : ((arrOf st).toList.drop sa).take na = A1 ++ A2 := by rw [← hA1, ← hA2, ← cutL, show k + (na - k) = na by omega]
    have hB : ((arrOf st).toList.drop (sa + na)).take nb = B1 ++ B2 := by rw [← hB1, ← hB2, ← cutL, show nd + (nb - nd) = nb by omega]
    have hD : (arrOf st).toList.drop (sa + na + nd) = B2 ++ S := by
      rw [← hB2, ← hS, show sa + na + nb = sa + na + nd + (nb - nd) by omega]
      exact drop_cut _ _ _
    have hT : (arrOf st).toList.take (sa + k) = P ++ A1 := by rw [← hP, ← hA1, List.take_add]
    have hL : (arrOf st).toList = P ++ ((A1 ++ A2) ++ (B1 ++ B2)) ++ S := by
      rw [← hA, ← hB, ← hP, ← hS, ← cutL, List.append_assoc, Nat.add_assoc, ← drop_cut, List.take_append_drop]
    rw [hT, hD] at pu
    have pL : P.length = sa := by rw [← hP, List.length_take, lenL]; omega
    have pA1 : A1.length = k := by rw [← hA1, List.length_take, List.length_drop, lenL]; omega
    have pA2 : A2.length = na - k := by rw [← hA2, List.length_take, List.length_drop, lenL]; omega
    have pB1 : B1.length = nd := by rw [← hB1, List.length_take, List.length_drop, lenL]; omega
    have pB2 : B2.length = nb - nd := by rw [← hB2, List.length_take, List.length_drop, lenL]; omega
    refine fin (r.toList.zipIdx.foldl (fun a (x : Keyed × Nat) => a.setIfInBounds (sa + k + x.2) x.1) (arrOf st)) ?_ ?_ ?_ ?_ _ _ (S'.1.trans kd) fz (by rw [← az]) (S'.2.2.1.trans pe1) g'
    · refine Array.perm_iff_toList_perm.mpr ?_
      have e9 : (r.toList ++ (B2 ++ S)).Perm (A2 ++ B1 ++ (B2 ++ S)) := O2.append_right _
      rw [pu, hL]
      have f1 : P ++ A1 ++ r.toList ++ (B2 ++ S) = P ++ (A1 ++ (r.toList ++ (B2 ++ S))) := by simp only [List.append_assoc]
      have f2 : P ++ (A1 ++ A2 ++ (B1 ++ B2)) ++ S = P ++ (A1 ++ (A2 ++ B1 ++ (B2 ++ S))) := by simp only [List.append_assoc]
      rw [f1, f2]
      exact (e9.append_left A1).append_left P
    · intro j hj
      refine fx_congr ?_
      rw [← Array.getElem?_toList, ← Array.getElem?_toList, pu, hL]
      simp only [List.append_assoc]
      rw [List.getElem?_append_left (by omega), List.getElem?_append_left (by omega)]
    · intro j hj
      refine fx_congr ?_
      rw [← Array.getElem?_toList, ← Array.getElem?_toList, pu, hL]
      have e1 : P ++ A1 ++ r.toList ++ (B2 ++ S) = (P ++ A1 ++ r.toList ++ B2) ++ S := by simp only [List.append_assoc]
      rw [e1, List.getElem?_append_right (by simp only [List.length_append]; omega), List.getElem?_append_right (by simp only [List.length_append]; omega)]
      congr 1
      simp only [List.length_append]
      omega
    · have uu : Up ϕ (A1 ++ r.toList ++ B2) := by
        rw [hA] at sA
        rw [hB] at sB
        obtain ⟨t1, t2, t3⟩ := List.pairwise_append.mp sA
        obtain ⟨t4, t5, t6⟩ := List.pairwise_append.mp sB
        have m2' : ∀ u ∈ B2, ϕ xl ≤ ϕ u := m2
        rw [hA] at upA
        rw [hB] at upB
        have mm : ∀ u ∈ r.toList, u ∈ A2 ∨ u ∈ B1 := fun u hu => List.mem_append.mp (O2.mem_iff.mp hu)
        refine List.pairwise_append.mpr ⟨List.pairwise_append.mpr ⟨t1, O1, fun u hu v hv => ?_⟩, t5, fun u hu v hv => ?_⟩
        · rcases mm v hv with z | z
          · exact t3 u hu v z
          · exact Nat.le_trans (l1' u hu) (upB v (List.mem_append_left _ z))
        · rcases List.mem_append.mp hu with z | z
          · exact Nat.le_trans (upA u (List.mem_append_left _ z)) (m2' v hv)
          · rcases mm u z with z' | z'
            · exact Nat.le_trans (upA u (List.mem_append_right _ z')) (m2' v hv)
            · exact t6 u z' v hv
      have := up_of (ϕ := ϕ) (P := P) (S := S) (a := r.toList.zipIdx.foldl (fun a (x : Keyed × Nat) => a.setIfInBounds (sa + k + x.2) x.1) (arrOf st)) (by rw [pu]; simp only [List.append_assoc]) uu
      rw [pL, show (A1 ++ r.toList ++ B2).length = na + nb by simp only [List.length_append]; omega] at this
      exact this
  by_cases c3 : na - k ≤ nd
  · rw [if_pos c3]
    exact kasC_bind (kc_lo R kd (al' _ _) (al' _ _) u1 u2 (by omega) (by omega) q0 q1 g2 last)
  · rw [if_neg c3]
    exact kasC_bind (kc_hi R kd (al' _ _) (al' _ _) u1 u2 (by omega) (by omega) q0 q1 g2 last)
end
end Tim

set_option Elab.async false
set_option linter.all false
set_option maxRecDepth 100000
/-! own work: the whole sorting -/
namespace Tim
open PySem PySem.W PyProof.Rows
section
variable {prog : Program} {w : World} {A : Around} {E : Value → Shared → Prop} {κ : SortKind} {ϕ : Keyed → Nat} {U : Keyed → Prop} {G : Shared → Prop}
theorem Jn.kp {a₀ : Array Keyed} {q : Nat} {l : List (Nat × Nat × Nat)} {st st' : SortSt} (J : Jn κ ϕ a₀ q l st) (K : Kp q st st') : Jn κ ϕ a₀ q l st' :=
  ⟨K.kind.trans J.kind, K.fail.trans J.fail, K.perm.trans J.perm, by rw [K.pend]; exact J.pend, J.runs.congr fun i _ h => fx_congr (K.low i h)⟩
theorem Jn.mod {a₀ : Array Keyed} {q k : Nat} {l : List (Nat × Nat × Nat)} {st : SortSt} {f : Nat × Nat × Nat → Nat × Nat × Nat} (J : Jn κ ϕ a₀ q l st) (hf : ∀ x, (f x).1 = x.1 ∧ (f x).2.1 = x.2.1) : Jn κ ϕ a₀ q (l.modify k f) (setPending st ((pendingOf st).modify k f)) :=
  ⟨J.kind, J.fail, J.perm, by show ((pendingOf st).modify _ _).toList = _; rw [Array.toList_modify, J.pend], Runs.mod hf _ J.runs⟩
theorem if_le (c : Prop) [Decidable c] (n : Nat) : (if c then n - 1 else n) ≤ n := by split <;> omega
theorem kc_sort (R : Rank prog w A κ ϕ U G) {a₀ : Array Keyed} {Q : Unit → SortSt → Shared → Prop} {st : SortSt} {s : Shared} (ha : Al U a₀) (hk : kindOf st = κ) (hf : failedOf st = none) (hp : pendingOf st = #[]) (har : arrOf st = a₀) (h2 : 1 ≤ a₀.size) (g : G s)
    (h : ∀ st' s', failedOf st' = none → (arrOf st').Perm a₀ → Up ϕ (arrOf st').toList → G s' → Q () st' s') : kasC (model prog w) A E sortRuns' Q st s := by
  rw [sortRuns'_eq]
  refine kasC_bind (kasC_get ?_)
  rw [har]
  dsimp only
  have J0 : Jn κ ϕ a₀ 0 [] st := ⟨hk, hf, by rw [har], by rw [hp], rfl⟩
  refine kasC_bind (kc_mono (Q := fun c st' s' => ∃ l, c = (none, a₀.size) ∧ Jn κ ϕ a₀ a₀.size l st' ∧ G s') (kc_for (fun t c st' s' => ∃ lo l, c = (none, lo) ∧ t ≤ lo ∧ lo ≤ a₀.size ∧ Jn κ ϕ a₀ lo l st' ∧ G s')
    ⟨0, [], rfl, by omega, by omega, J0, g⟩ ?_ ?_) ?_)
  · rintro t c st1 s1 ht ⟨lo, l, rfl, b1, b2, J1, g1⟩
    dsimp only
    by_cases c1 : lo ≥ a₀.size
    · rw [if_pos c1]
      have : lo = a₀.size := by omega
      subst this
      exact kasC_pure ⟨l, rfl, J1, g1⟩
    rw [if_neg c1]
    have sz : (arrOf st1).size = a₀.size := J1.perm.size_eq
    refine kasC_bind (kc_count R J1.kind (ha.perm J1.perm) (by omega) (by omega) g1 fun n st2 s2 n1 n2 K2 u2 g2 => ?_)
    dsimp only
    by_cases cn : n < minRun' a₀.size a₀.size 0
    rw [if_pos cn]
    refine kasC_bind (kc_rule ?_)
    refine kasC_bind (kc_ins R J1.kind (ha.perm J1.perm) (by omega) (by omega) K2 u2 g2 fun st3 s3 K3 u3 g3 => ?_)
    rw [if_neg (by decide)]
    have hn3 : 1 ≤ min (a₀.size - lo) (minRun' a₀.size a₀.size 0) ∧ lo + min (a₀.size - lo) (minRun' a₀.size a₀.size 0) ≤ a₀.size := by omega
    generalize min (a₀.size - lo) (minRun' a₀.size a₀.size 0) = n3 at *
    rotate_left
    rw [if_neg cn]
    have hn3 : 1 ≤ n ∧ lo + n ≤ a₀.size := by omega
    have K3 := K2
    have u3 := u2
    have g3 := g2
    generalize n = n3 at *
    all_goals
      refine kasC_bind (kasC_get ?_)
      have J3 := J1.kp K3
      have done : ∀ (l' : List (Nat × Nat × Nat)) (st4 : SortSt) (s4 : Shared), Jn κ ϕ a₀ lo l' st4 → UpTo ϕ (arrOf st4) lo (lo + n3) → G s4 → ∃ lo' l, ((none : Option Unit), lo + n3) = (none, lo') ∧ t + 1 ≤ lo' ∧ lo' ≤ a₀.size ∧ Jn κ ϕ a₀ lo' l (setPending st4 ((pendingOf st4).push (lo, n3, 0))) ∧ G s4 := fun l' st4 s4 J4 u4 g4 =>
        ⟨lo + n3, l' ++ [(lo, n3, 0)], rfl, by omega, by omega, ⟨J4.kind, J4.fail, J4.perm, by show ((pendingOf st4).push (lo, n3, 0)).toList = _; rw [Array.toList_push, J4.pend], J4.runs.join ⟨rfl, hn3.1, u4, rfl⟩⟩, g4⟩
      split
      · refine kasC_bind (kc_mono (Q := fun c st' s' => c = (none, ()) ∧ ∃ l', Jn κ ϕ a₀ lo l' st' ∧ UpTo ϕ (arrOf st') lo (lo + n3) ∧ G s') (kc_for (fun _ c st' s' => c = (none, ()) ∧ ∃ l', Jn κ ϕ a₀ lo l' st' ∧ UpTo ϕ (arrOf st') lo (lo + n3) ∧ G s') ⟨rfl, l, J3, u3, g3⟩ ?_ ?_) ?_)
        · rintro _ c st4 s4 _ ⟨rfl, l', J4, u4, g4⟩
          refine kasC_bind (kasC_get ?_)
          split
          · rename_i hh
            by_cases cp : (pendingOf st4).size > 1
            · split
              · exact kasC_pure ⟨rfl, l', J4, u4, g4⟩
              · refine kasC_bind (kc_mgAt R ha J4 b2 (by rw [← J4.pend, Array.length_toList]; omega) g4 fun l5 st5 s5 hl5 J5 e5 g5 => ?_)
                rw [if_neg (by decide)]
                exact kasC_pure ⟨rfl, l5, J5, fun i j a1 a2 a3 => (by rw [e5 i a1, e5 j (by omega)]; exact u4 i j a1 a2 a3), g5⟩
            · rw [if_neg cp] at hh
              cases hh
          · exact kasC_pure ⟨rfl, l', J4, u4, g4⟩
        · rintro c st4 s4 hh
          exact hh
        · rintro c st4 s4 ⟨rfl, l', J4, u4, g4⟩
          dsimp only
          exact kasC_bind (kasC_modify (kasC_bind (kasC_modify (kasC_pure (done _ _ _ (J4.mod fun x => ⟨rfl, rfl⟩) u4 g4)))))
      · exact kasC_bind (kasC_modify (kasC_pure (done l _ _ J3 u3 g3)))
  · rintro c st1 s1 ⟨lo, l, rfl, b1, b2, J1, g1⟩
    have : lo = a₀.size := by omega
    subst this
    exact ⟨l, rfl, J1, g1⟩
  · rintro c st1 s1 ⟨l, rfl, J1, g1⟩
    dsimp only
    refine kasC_bind (kc_mono (Q := fun c st' s' => c = (none, ()) ∧ ∃ l, l.length ≤ 1 ∧ Jn κ ϕ a₀ a₀.size l st' ∧ G s') (kc_for (fun t c st' s' => c = (none, ()) ∧ ∃ l, (l.length ≤ 1 ∨ l.length + t ≤ a₀.size) ∧ Jn κ ϕ a₀ a₀.size l st' ∧ G s') ⟨rfl, l, ?_, J1, g1⟩ ?_ ?_) ?_)
    · have := J1.runs.le
      omega
    · rintro t c st4 s4 ht ⟨rfl, l', hl', J4, g4⟩
      refine kasC_bind (kasC_get ?_)
      have hsz : (pendingOf st4).size = l'.length := by rw [← J4.pend, Array.length_toList]
      by_cases cp : (pendingOf st4).size ≤ 1
      · rw [if_pos cp]
        exact kasC_pure ⟨rfl, l', by omega, J4, g4⟩
      · rw [if_neg cp]
        refine kasC_bind (kc_mgAt R ha J4 (Nat.le_refl _) ?_ g4 fun l5 st5 s5 hl5 J5 e5 g5 => ?_)
        · exact Nat.lt_of_le_of_lt (Nat.succ_le_succ (if_le _ _)) (by omega)
        · rw [if_neg (by decide)]
          exact kasC_pure ⟨rfl, l5, by omega, J5, g5⟩
    · rintro c st4 s4 ⟨rfl, l', hl', J4, g4⟩
      have := J4.runs.le
      exact ⟨rfl, l', by omega, J4, g4⟩
    · rintro c st4 s4 ⟨rfl, l', hl', J4, g4⟩
      refine kasC_pure (h st4 s4 J4.fail J4.perm ?_ g4)
      have r4 := J4.runs
      have sz : (arrOf st4).size = a₀.size := J4.perm.size_eq
      match l', hl', r4 with
      | [], _, r4 =>
        have : 0 = a₀.size := r4
        omega
      | [x], _, r4 =>
        obtain ⟨q1, q2, q3, q4⟩ := r4
        have q4 : 0 + x.2.1 = a₀.size := q4
        have := of_up (ϕ := ϕ) (a := arrOf st4) (p := 0) (n := x.2.1) q3 (by omega)
        rw [List.drop_zero, List.take_of_length_le (by rw [Array.length_toList]; omega)] at this
        exact this
      | x :: y :: l', hl', _ => simp at hl'
end
end Tim

set_option Elab.async false
set_option linter.all false
set_option maxRecDepth 100000
/-! own work: list.sort of any length, by any weak order of the items -/
namespace Tim
open PySem PySem.W PyProof.Rows
/-- a weak order of the places below n -/
structure WO (n : Nat) (lt : Nat → Nat → Bool) : Prop where
  irr : ∀ i, i < n → lt i i = false
  tr : ∀ i j k, i < n → j < n → k < n → lt i j = true → lt j k = true → lt i k = true
  ntr : ∀ i j k, i < n → j < n → k < n → lt k j = true → lt k i = true ∨ lt i j = true
/-- how many are less -/
def rk (n : Nat) (lt : Nat → Nat → Bool) (i : Nat) : Nat := ((List.range n).filter fun k => lt k i).length
theorem len_filter_le {α : Type} {p q : α → Bool} : ∀ (l : List α), (∀ x ∈ l, p x = true → q x = true) → (l.filter p).length ≤ (l.filter q).length
  | [], _ => Nat.le_refl _
  | x :: l, h => by
    have ih := len_filter_le l fun y hy => h y (List.mem_cons_of_mem _ hy)
    rw [List.filter_cons, List.filter_cons]
    by_cases c : p x = true
    · rw [if_pos c, if_pos (h x (List.mem_cons_self ..) c)]
      simpa using ih
    · rw [if_neg c]
      split
      · simp only [List.length_cons]
        omega
      · exact ih
theorem len_filter_lt {α : Type} {p q : α → Bool} : ∀ (l : List α), (∀ x ∈ l, p x = true → q x = true) → (∃ x ∈ l, p x = false ∧ q x = true) → (l.filter p).length < (l.filter q).length
  | [], _, ⟨x, hx, _⟩ => nomatch hx
  | x :: l, h, ⟨y, hy, e1, e2⟩ => by
    have le := len_filter_le l fun z hz => h z (List.mem_cons_of_mem _ hz)
    rw [List.filter_cons, List.filter_cons]
    rcases List.mem_cons.mp hy with z | z
    · subst z
      rw [if_neg (by rw [e1]; decide), if_pos e2]
      simp only [List.length_cons]
      omega
    · have ih := len_filter_lt l (fun z hz => h z (List.mem_cons_of_mem _ hz)) ⟨y, z, e1, e2⟩
      by_cases c : p x = true
      · rw [if_pos c, if_pos (h x (List.mem_cons_self ..) c)]
        simpa using ih
      · rw [if_neg c]
        split
        · simp only [List.length_cons]
          omega
        · exact ih
theorem WO.rk_lt {n : Nat} {lt : Nat → Nat → Bool} (o : WO n lt) {i j : Nat} (hi : i < n) (hj : j < n) : decide (rk n lt i < rk n lt j) = lt i j := by
  cases c : lt i j with
  | true =>
    refine decide_eq_true (len_filter_lt _ (fun k hk h => o.tr k i j (List.mem_range.mp hk) hi hj h c) ⟨i, List.mem_range.mpr hi, o.irr i hi, c⟩)
  | false =>
    refine decide_eq_false (Nat.not_lt.mpr (len_filter_le _ fun k hk h => ?_))
    rcases o.ntr i j k hi hj (List.mem_range.mp hk) h with z | z
    · exact z
    · rw [c] at z
      cases z
theorem perm_map {α β : Type} {f : α → β} : ∀ {l : List β} {m : List β}, l.Perm m → ∀ q : List α, m = q.map f → ∃ q' : List α, q'.Perm q ∧ l = q'.map f := by
  intro l m h
  induction h with
  | nil =>
    intro q e
    exact ⟨q, List.Perm.refl _, e⟩
  | cons x _ ih =>
    intro q e
    match q, e with
    | y :: q, e =>
      rw [List.map_cons] at e
      injection e with e1 e2
      obtain ⟨q', h1, h2⟩ := ih q e2
      exact ⟨y :: q', h1.cons y, by rw [List.map_cons, h2, e1]⟩
  | swap x y l =>
    intro q e
    match q, e with
    | a :: b :: q, e =>
      simp only [List.map_cons] at e
      injection e with e1 e2
      injection e2 with e2 e3
      exact ⟨b :: a :: q, List.Perm.swap .., by simp only [List.map_cons]; rw [e1, e2, e3]⟩
  | trans _ _ ih1 ih2 =>
    intro q e
    obtain ⟨q2, h1, h2⟩ := ih2 q e
    obtain ⟨q3, h3, h4⟩ := ih1 q2 h2
    exact ⟨q3, h3.trans h1, h4⟩
section
variable {prog : Program} {w : World} {A : Around} {E : Value → Shared → Prop} {s : Shared}
open Classical in
noncomputable def phi (vs : List Value) (lt : Nat → Nat → Bool) (x : Keyed) : Nat := if h : ∃ i, vs[i]? = some x.1 then rk vs.length lt (Classical.choose h) else 0
theorem list_sortW {a : Addr} {vs : List Value} {lt : Nat → Nat → Bool} {κ : SortKind} {n : Nat} {P : PySem.Fin → Shared → Prop} (ho : s.heap.get? a = some (seqObj "list" vs.toArray n)) (hz : vs.length ≤ sizeLine) (o : WO vs.length lt)
    (same : ∀ i j, i < vs.length → vs[i]? = vs[j]? → ∀ k, lt k i = lt k j)
    (kd : ∀ (h6 : Heap) (Q : SortKind → Shared → Prop), (∀ b o, b ≠ a → s.heap.get? b = some o → h6.get? b = some o) → 2 ≤ vs.length → Q κ { s with heap := h6 } → wpAny (model prog w) A (keyKind' vs.toArray) Q E { s with heap := h6 })
    (ask : ∀ (h6 : Heap) (tk i j : Nat) (x y : Value) (C : Bool → Shared → Prop), (∀ b o, b ≠ a → s.heap.get? b = some o → h6.get? b = some o) → vs[i]? = some x → vs[j]? = some y → (∀ tk, C (lt i j) { s with heap := h6, toks := tk }) → wpAny (model prog w) A (keyLt' κ x y) C (fun _ _ => False) { s with heap := h6, toks := tk })
    (h : ∀ (h1 : Heap) (tk c : Nat) (p : Array Nat), Srt.Pm vs.length p → (∀ i j, i < j → j < vs.length → lt (p.getD j 0) (p.getD i 0) = false) → (∀ b o, b ≠ a → s.heap.get? b = some o → h1.get? b = some o) →
      h1.get? a = some (seqObj "list" (p.toList.map fun i => vs.getD i Value.none).toArray c) → P (.done (.ret .none)) { s with heap := h1, toks := tk }) :
    wpAny (model prog w) A (Builtin.«list.sort» ⟨[.ref a], []⟩) P E s := by
  have ha : a < s.heap.objs.size := Heap.lt_size ho
  rw [list_sort_plain]
  refine wpAny_bind (listItems_at ho rfl (wpAny_bind (listUpdate_at ho rfl ?_ (by rw [List.size_toArray]; exact hz) (Nat.zero_le _))))
  obtain ⟨e1, ho1⟩ : ∃ e1, (s.heap.update a (Obj.mapSeq fun _ => (#[] : Array Value))).get? a = some (seqObj "list" #[] e1) := ⟨_, get?_update_seq ho fun _ => #[]⟩
  have k1 : ∀ b o, b ≠ a → s.heap.get? b = some o → (s.heap.update a (Obj.mapSeq fun _ => (#[] : Array Value))).get? b = some o := fun b o hb q => (Heap.get?_update_other _ _ (Ne.symm hb)).trans q
  refine wpAny_bind (seqEpoch_at ho1 rfl (wpAny_bind (wpAny_newTuple ?_ (by show vs.length ≤ _; exact hz))))
  refine wpAny_bind (wpAny_newList ?_ (Nat.zero_le _))
  refine wpAny_holding ?_
  generalize hg : ((s.heap.update a (Obj.mapSeq fun _ => (#[] : Array Value))).push { cls := .type "tuple", data := .seq vs.toArray.toList.toArray }).push { cls := .type "list", data := .seq ([] : List Value).toArray } = h6
  have k6 : ∀ b o, b ≠ a → s.heap.get? b = some o → h6.get? b = some o := fun b o hb q => by
    rw [← hg]
    exact Heap.get?_push_of_some _ (Heap.get?_push_of_some _ (k1 b o hb q))
  have ho6 : h6.get? a = some (seqObj "list" #[] e1) := by
    rw [← hg]
    exact Heap.get?_push_of_some _ (Heap.get?_push_of_some _ ho1)
  show wpAny (model prog w) A _ P E { s with heap := h6 }
  dsimp only
  have fin : ∀ (tk : Nat) (p : Array Nat) (out : Array Value), Srt.Pm vs.length p → (∀ i j, i < j → j < vs.length → lt (p.getD j 0) (p.getD i 0) = false) → out = (p.toList.map fun i => vs.getD i Value.none).toArray →
      ∃ c, (h6.update a (Obj.mapSeq fun _ => out)).get? a = some (seqObj "list" out c) ∧ out.size ≤ sizeLine ∧ P (.done (.ret .none)) { s with heap := h6.update a (Obj.mapSeq fun _ => out), toks := tk } := fun tk p out hp hu ho' => by
    have hc := get?_update_seq ho6 fun _ => out
    refine ⟨_, hc, ?_, h _ tk _ p hp hu (fun b o hb q => (Heap.get?_update_other _ _ (Ne.symm hb)).trans (k6 b o hb q)) (by rw [← ho']; exact hc)⟩
    rw [ho', List.size_toArray, List.length_map, Array.length_toList, hp.size]
    exact hz
  have hr : vs = (List.range vs.length).map fun i => vs.getD i Value.none := by
    apply List.ext_getElem?
    intro i
    simp only [List.getElem?_map]
    by_cases hi : i < vs.length
    · rw [List.getElem?_eq_getElem hi, List.getElem?_range hi, Option.map_some, List.getD_eq_getElem?_getD, List.getElem?_eq_getElem hi]
      rfl
    · rw [List.getElem?_eq_none (by omega), List.getElem?_eq_none (by simp; omega)]
      rfl
  by_cases h2 : vs.toArray.size < 2
  · rw [if_pos h2, if_pos h2]
    rw [List.size_toArray] at h2
    obtain ⟨c, f1, f2, f3⟩ := fin s.toks (List.range vs.length).toArray vs.toArray ⟨by simp, Array.Perm.refl _⟩ (fun a b hab hb => by omega) (congrArg List.toArray hr)
    refine wpAny_bind (wpAny_pure ?_)
    rw [StateT.run_pure]
    refine wpAny_bind (wpAny_pure ?_)
    have eo : (arrOf (SortSt.mk' general' (vs.toArray.zip vs.toArray) #[] 7 none)).map (·.2) = vs.toArray := by
      show (vs.toArray.zip vs.toArray).map (·.2) = vs.toArray
      apply Array.toList_inj.mp
      simp
      exact List.map_snd_zip (Nat.le_refl _)
    dsimp only
    rw [eo]
    refine wpAny_bind (seqEpoch_at ho6 rfl (wpAny_bind (listUpdate_at ho6 rfl ?_ (Nat.zero_le _) (Nat.le_succ_of_le f2))))
    simp only [bne_self_eq_false, Bool.false_eq_true, if_false]
    exact wpAny_pure f3
  · rw [if_neg h2, if_neg h2]
    rw [List.size_toArray] at h2
    have zl : (vs.toArray.zip vs.toArray).toList = (List.range vs.length).map fun i => ((vs.getD i Value.none, vs.getD i Value.none) : Keyed) := by
      rw [Array.toList_zip]
      show vs.zip vs = _
      apply List.ext_getElem?
      intro i
      simp only [List.getElem?_map]
      by_cases hi : i < vs.length
      · rw [List.getElem?_range hi, Option.map_some, (List.getElem?_zip_eq_some (z := (vs[i], vs[i]))).mpr ⟨List.getElem?_eq_getElem hi, List.getElem?_eq_getElem hi⟩, List.getD_eq_getElem?_getD, List.getElem?_eq_getElem hi]
        rfl
      · rw [List.getElem?_eq_none (by simp; omega), List.getElem?_eq_none (by simp; omega)]
        rfl
    have zsz : (vs.toArray.zip vs.toArray).size = vs.length := by rw [← Array.length_toList, zl, List.length_map, List.length_range]
    have ph : ∀ (i : Nat) (x : Keyed), i < vs.length → x.1 = vs.getD i Value.none → phi vs lt x = rk vs.length lt i := fun i x hi e => by
      have hx : ∃ i, vs[i]? = some x.1 := ⟨i, by rw [e, List.getD_eq_getElem?_getD, List.getElem?_eq_getElem hi]; rfl⟩
      unfold phi
      rw [dif_pos hx]
      have hc := Classical.choose_spec hx
      generalize Classical.choose hx = j at *
      have hj : j < vs.length := (List.getElem?_eq_some_iff.mp hc).1
      have ee : vs[j]? = vs[i]? := by rw [hc, e, List.getD_eq_getElem?_getD, List.getElem?_eq_getElem hi]; rfl
      unfold rk
      congr 1
      refine List.filter_congr fun k hk => ?_
      exact same j i hj ee k
    refine wpAny_bind (kd h6 _ k6 (by omega) ?_)
    have R : Rank prog w A κ (phi vs lt) (fun x => ∃ i, i < vs.length ∧ x.1 = vs.getD i Value.none) (fun s' => ∃ tk, s' = { s with heap := h6, toks := tk }) := ⟨fun x y C s' ⟨i, hi, ei⟩ ⟨j, hj, ej⟩ ⟨tk, g⟩ k => by
      subst g
      refine ask h6 tk i j x.1 y.1 C k6 (by rw [ei, List.getD_eq_getElem?_getD, List.getElem?_eq_getElem hi]; rfl) (by rw [ej, List.getD_eq_getElem?_getD, List.getElem?_eq_getElem hj]; rfl) fun tk' => ?_
      rw [← o.rk_lt hi hj, ← ph i x hi ei, ← ph j y hj ej]
      exact k _ ⟨tk', rfl⟩⟩
    refine wpAny_bind (wpAny_mono (show kasC (model prog w) A E sortRuns' (fun _ st' s' => failedOf st' = none ∧ (arrOf st').Perm (vs.toArray.zip vs.toArray) ∧ Up (phi vs lt) (arrOf st').toList ∧ ∃ tk, s' = { s with heap := h6, toks := tk }) (SortSt.mk' κ (vs.toArray.zip vs.toArray) #[] 7 none) { s with heap := h6 } from
      kc_sort R (a₀ := vs.toArray.zip vs.toArray) (fun i x e => ?_) rfl rfl rfl rfl (by omega) ⟨s.toks, rfl⟩ fun st' s' a1 a2 a3 a4 => ⟨a1, a2, a3, a4⟩) ?_ fun _ _ e => e)
    · have hi : i < vs.length := by
        have := (Array.getElem?_eq_some_iff.mp e).1
        omega
      rw [← Array.getElem?_toList, zl, List.getElem?_map, List.getElem?_range hi] at e
      cases e
      exact ⟨i, hi, rfl⟩
    · rintro ⟨⟨⟩, st'⟩ s' ⟨hf', hpm, hup, tk, rfl⟩
      obtain ⟨q, hq1, hq2⟩ := perm_map (Array.perm_iff_toList_perm.mp hpm) _ zl
      have hqs : q.toArray.size = vs.length := by rw [List.size_toArray, hq1.length_eq, List.length_range]
      have hout : (arrOf st').map (·.2) = (q.toArray.toList.map fun i => vs.getD i Value.none).toArray := by
        apply Array.toList_inj.mp
        rw [Array.toList_map, hq2, List.map_map]
        rfl
      have up' : ∀ i j, i < j → j < vs.length → lt (q.toArray.getD j 0) (q.toArray.getD i 0) = false := fun i j hij hj => by
        rw [List.size_toArray] at hqs
        have gi : ∀ k (hk : k < q.length), q.toArray.getD k 0 = q[k] ∧ q[k] < vs.length := fun k hk => ⟨by rw [Array.getD_eq_getD_getElem?, List.getElem?_toArray, List.getElem?_eq_getElem hk]; rfl, List.mem_range.mp (hq1.mem_iff.mp (List.getElem_mem hk))⟩
        obtain ⟨ei, bi⟩ := gi i (by omega)
        obtain ⟨ej, bj⟩ := gi j (by omega)
        rw [ei, ej, ← o.rk_lt bj bi]
        refine decide_eq_false (Nat.not_lt.mpr ?_)
        rw [hq2] at hup
        have := List.pairwise_iff_getElem.mp (List.pairwise_map.mp hup) i j (by omega) (by omega) hij
        rw [ph _ _ bi rfl, ph _ _ bj rfl] at this
        exact this
      obtain ⟨c, f1, f2, f3⟩ := fin tk q.toArray _ ⟨hqs, Array.perm_iff_toList_perm.mpr (by simpa using hq1)⟩ up' hout
      dsimp only
      refine wpAny_bind (seqEpoch_at (s := { s with heap := h6, toks := tk }) ho6 rfl (wpAny_bind (listUpdate_at (s := { s with heap := h6, toks := tk }) ho6 rfl ?_ (Nat.zero_le _) (Nat.le_succ_of_le f2))))
      rw [hf']
      simp only [bne_self_eq_false, Bool.false_eq_true, if_false]
      exact wpAny_pure f3
end
end Tim

set_option Elab.async false
set_option linter.all false
set_option maxRecDepth 100000
/-! own work: sorted(..) of any length -/
namespace Tim
open PySem PySem.W PyProof.Rows
/-- how the items of a row are told apart -/
structure SortAs (prog : Program) (w : World) (h1 : Heap) (vs : List Value) (lt : Nat → Nat → Bool) (κ : SortKind) : Prop where
  wo : WO vs.length lt
  same : ∀ i j, i < vs.length → vs[i]? = vs[j]? → ∀ k, lt k i = lt k j
  kd : ∀ (A : Around) (E : Value → Shared → Prop) (s : Shared) (Q : SortKind → Shared → Prop), (∀ b o, h1.get? b = some o → s.heap.get? b = some o) → 2 ≤ vs.length → Q κ s → wpAny (model prog w) A (keyKind' vs.toArray) Q E s
  ask : ∀ (A : Around) (s : Shared) (i j : Nat) (x y : Value) (C : Bool → Shared → Prop), (∀ b o, h1.get? b = some o → s.heap.get? b = some o) → vs[i]? = some x → vs[j]? = some y → (∀ tk, C (lt i j) { s with toks := tk }) → wpAny (model prog w) A (keyLt' κ x y) C (fun _ _ => False) s
section
variable {prog : Program} {w : World} {A : Around} {E : Value → Shared → Prop} {s : Shared}
theorem sorted_all {r : Addr} {Q : Value → Shared → Prop} {Pc : Heap → List Value → Prop} {lt : Nat → Nat → Bool} {κ : SortKind}
    (col : ∀ (R : List Value → Shared → Prop), (∀ h1 tk vs, (∀ b o, s.heap.get? b = some o → h1.get? b = some o) → Pc h1 vs → R vs { s with heap := h1, toks := tk }) → wpAny (model prog w) A.in1 (collect (.ref r)) R E s)
    (ord : ∀ h1 vs, (∀ b o, s.heap.get? b = some o → h1.get? b = some o) → Pc h1 vs → vs.length ≤ sizeLine ∧ SortAs prog w h1 vs lt κ)
    (fin : ∀ h1 vs h3 tk c p, Pc h1 vs → (∀ b o, s.heap.get? b = some o → h3.get? b = some o) → (∀ b o, h1.get? b = some o → h3.get? b = some o) → (∀ b o, s.heap.get? b = some o → h1.get? b = some o) → Srt.Pm vs.length p → (∀ i j, i < j → j < vs.length → lt (p.getD j 0) (p.getD i 0) = false) →
      h3.get? h1.objs.size = some (seqObj "list" (p.toList.map fun i => vs.getD i Value.none).toArray c) → s.heap.get? h1.objs.size = none → Q (.ref h1.objs.size) { s with heap := h3, toks := tk }) :
    wpAny (model prog w) A (call (.builtin "sorted") [.ref r]) Q E s := by
  refine Calls.call_function_entry kind_sorted plain_sorted entry_sorted (args_sorted1 _) ?_
  unfold Builtin.«sorted»
  refine wpAny_bind (m := checkCount "sorted" 1 1 _) (wpAny_pure ?_)
  refine wpAny_bind (col _ fun h1 tk vs hk hP => ?_)
  obtain ⟨hz, S⟩ := ord h1 vs hk hP
  refine wpAny_bind (wpAny_newList ?_ hz)
  have hB : (h1.push { cls := .type "list", data := .seq vs.toArray }).get? h1.objs.size = some (seqObj "list" vs.toArray 0) := Heap.get?_push_size _ rfl
  refine wpAny_bind (wpAny_holding (wpAny_call_entry slot_list_sort ⟨_, hB, rfl⟩ entry_list_sort ?body (args_list_sort _)))
  have k1 : ∀ {h6 : Heap}, (∀ b o, b ≠ h1.objs.size → (h1.push { cls := .type "list", data := .seq vs.toArray }).get? b = some o → h6.get? b = some o) → ∀ b o, h1.get? b = some o → h6.get? b = some o := fun k b o e => k b o (Nat.ne_of_lt (Heap.lt_size e)) (Heap.get?_push_of_some _ e)
  refine list_sortW (s := { s with heap := h1.push { cls := .type "list", data := .seq vs.toArray }, toks := tk }) hB hz S.wo S.same (fun h6 Q k h2 q => S.kd _ _ _ _ (k1 k) h2 q) (fun h6 tk' i j x y C k e1 e2 q => S.ask _ _ i j x y C (k1 k) e1 e2 fun tk2 => q tk2)
    fun h3 tk3 c p hp hs hkeep hD => ⟨_, rfl, wpAny_pure ⟨_, rfl, ?_⟩⟩
  refine fin h1 vs h3 tk3 c p hP (fun b o e => k1 hkeep b o (hk b o e)) (k1 hkeep) hk hp hs hD ?_
  cases e : s.heap.get? h1.objs.size with
  | none => rfl
  | some u => exact absurd (Heap.lt_size (hk _ _ e)) (Nat.lt_irrefl _)
/-! ### texts -/
/-! ### tuples of a text and a thing -/
end
end Tim

set_option Elab.async false
set_option linter.all false
set_option maxRecDepth 100000
/-! own work over the hand layer: sorted(..) of up to 1000 items -/
namespace L2
open PySem PySem.Spec PyProof.Rows PySem.W
section
variable {prog : Program} {w : World} {A : Around} {E : Value → Shared → Prop} {s : Shared}
theorem sl_big {n : Nat} (h : n ≤ 1000) : n ≤ sizeLine := by rw [sizeLine_eq]; omega
end

/-- one new list of a call, the rest as it was -/
theorem one_new {X : Cx} {pins : List (Addr × Obj)} {σ : St} {H : Hp} {s : Shared} {h3 : Heap} {tk : Nat} {D : Addr} {vs : List V} (I : Inv X pins σ H s) (k : ∀ b u, s.heap.get? b = some u → h3.get? b = some u) (hD : s.heap.get? D = none) (hz : vs.length ≤ sizeLine)
    (ho : ∃ (its : List Value) (n : Nat), Vals vs its ∧ h3.get? D = some { cls := .type "list", data := .seq its.toArray n }) : H D = none ∧ Inv X pins σ (upd H D (.lst vs)) { s with heap := h3, toks := tk } := by
  have hn : H D = none := by
    cases e : H D with
    | none => rfl
    | some u =>
      obtain ⟨v, hv⟩ := (I.hok D u e).there'
      rw [hD] at hv
      cases hv
  refine ⟨hn, ?_⟩
  have := I.laidN (N := fun b => if b = D then some (.lst vs) else none) (tk := tk) k fun a o e => by
    by_cases c : a = D
    · subst c
      rw [if_pos rfl] at e
      cases e
      exact ⟨hD, fun H2 => ⟨hz, ho⟩⟩
    · rw [if_neg c] at e
      cases e
  have e : (fun b => (if b = D then some (HO.lst vs) else none).or (H b)) = upd H D (.lst vs) := by
    funext b
    by_cases c : b = D
    · subst c
      rw [if_pos rfl, Option.some_or, upd_same]
    · rw [if_neg c, Option.none_or, upd_ne c]
  rw [e] at this
  exact this
theorem perm_getD' {α : Type} {d : α} (ks : List α) (p : Array Nat) (hp : Srt.Pm ks.length p) : (p.toList.map fun i => ks.getD i d).Perm ks := by
  have h1 := (Array.perm_iff_toList_perm.mp hp.perm).map fun i => ks.getD i d
  have h2 : ((List.range ks.length).toArray.toList.map fun i => ks.getD i d) = ks := by
    apply List.ext_getElem?
    intro i
    simp only [List.getElem?_map]
    by_cases hi : i < ks.length
    · rw [List.getElem?_range hi, List.getElem?_eq_getElem hi, Option.map_some, List.getD_eq_getElem?_getD, List.getElem?_eq_getElem hi]
      rfl
    · rw [List.getElem?_eq_none (by simp; omega), List.getElem?_eq_none (by omega)]
      rfl
  rw [h2] at h1
  exact h1
theorem pm_at {n : Nat} {p : Array Nat} (hp : Srt.Pm n p) {i : Nat} (hi : i < p.toList.length) : p.getD i 0 = p.toList[i] := by
  rw [Array.getD_eq_getD_getElem?, Array.getElem?_eq_getElem (by simpa using hi)]
  simp
end L2

set_option Elab.async false
set_option linter.all false
set_option maxRecDepth 100000
/-! own work over the hand layer: the keys of a known dict; comprehensions with a test and items of any kind -/
namespace L2
open PySem PySem.Spec PyProof.Rows
def Itk (d : Addr) (o : Obj) (kvs : List (Key × V)) : It :=
  ⟨fun i H => H d = some (.frz o (.dK kvs)) ∧ i < kvs.length, fun i H x H' => H' = H ∧ ∃ p, kvs[i]? = some p ∧ x = kV p.1, fun i H => H d = some (.frz o (.dK kvs)) ∧ kvs.length ≤ i⟩
theorem turn_keys {P : Program} {w : World} {K : PySem.W.Frag} {tg : Expr} (d it : Addr) (o : Obj) (kvs : List (Key × V)) {es : Array DictEntry} {ep : Nat} (hod : o.data = .dict es ep) :
    Turn P w K tg (Itk d o kvs) [it] it (fun i h => h.IsKeyIter it d i kvs.length ep) where
  mem := by simp
  obj := fun i h he c hc => by
    have hc := List.mem_singleton.mp hc
    subst hc
    obtain ⟨ob, g1, g2, g3⟩ := he
    exact ⟨ob, g1, fun v z => by rw [g3] at z; cases z⟩
  keep := fun i h h' he kk => he.at fun ob e => kk it (by simp) ob e
  item := by
    intro X hP hw hK hc i pins s σ H E I hf he hg
    subst hP hw hK
    obtain ⟨hd, hi⟩ := hg
    obtain ⟨vs, kv, da, lo⟩ := frz_at I hd hod
    obtain ⟨p, hp⟩ : ∃ p, kvs[i]? = some p := ⟨_, List.getElem?_eq_getElem hi⟩
    obtain ⟨q, hq, e1, e2⟩ := kv_get kv hp
    obtain ⟨f0, f1, f2, f3, f4, f5⟩ := hf it (by simp)
    have he' : s.heap.IsKeyIter it d i vs.length ep := by rw [← kv.length]; exact he
    refine wpAny_pyNext_dict_item (k := q.1) he' da hq fun key h1 hkey hit1 sb => ?_
    have I1 : Inv X pins σ H { s with heap := h1 } := I.turned (t' := s.toks) (fun b u hb e => (sb.2 b hb).trans e) f0 f1 f3 f4 f5
    refine ⟨key, rfl, letGo_keyiter hit1 ⟨kV p.1, H, I1, by rw [e1]; exact rel_key hkey, ⟨rfl, p, hp, rfl⟩, by rw [kv.length]; exact hit1, fun b hb => (hf b hb).1⟩⟩
  done := by
    intro X hP hw hK hc i pins s σ H E I hf he hg
    subst hP hw hK
    obtain ⟨hd, hi⟩ := hg
    obtain ⟨vs, kv, da, lo⟩ := frz_at I hd hod
    obtain ⟨f0, f1, f2, f3, f4, f5⟩ := hf it (by simp)
    have he' : s.heap.IsKeyIter it d i vs.length ep := by rw [← kv.length]; exact he
    exact wpAny_pyNext_dict_end (I.ok.hd hc) he' da (List.getElem?_eq_none (by rw [← kv.length]; exact hi)) fun h' eb => ⟨rfl, I.turned (t' := s.toks) (fun b u hb e => eb b u hb e) f0 f1 f3 f4 f5⟩
  self := fun A i s Q E he h => wpAny_pyIter_keyiter he h
def iKeys (td : TE) : TI := fun σ H R => td σ H fun x H1 => ∃ d o kvs, x = .ref d ∧ H1 d = some (.frz o (.dK kvs)) ∧ R (Itk d o kvs) H1
theorem pi_keys {X : Cx} {tg ob : Expr} {td : TE} (ho : PE X ob td) : PI X tg ob (iKeys td) := by
  intro pins s σ H R I h
  refine thn (ho pins s σ H _ I h) fun v s1 ⟨x, H1, I1, r1, d, o, kvs, ex, hd, q1⟩ => ?_
  subst ex
  obtain rfl : v = Value.ref d := r1
  obtain ⟨g1, z, lo, vs, kv, dd⟩ := I1.hok d _ hd
  obtain ⟨ep, da⟩ := dd.dictAt
  refine wpAny_pyIter_dict lo da ?_
  obtain ⟨o', es, g2, _, g3, _⟩ := id da
  rw [g1] at g2
  cases g2
  refine ⟨_, [_], _, Itk d o kvs, H1, rfl, I1.kept (t' := s1.toks) fun b u e => Heap.get?_push_of_some _ e, turn_keys d s1.heap.objs.size o kvs g3, ?_, fun b hb => ?_, q1⟩
  · rw [kv.length]
    exact ⟨_, Heap.get?_push_size _ rfl, rfl, rfl⟩
  · rw [List.mem_singleton.mp hb]
    exact I1.fpOk (Nat.le_refl _) (I1.hok.fresh (Nat.le_refl _))
theorem jt_keys {d : Addr} {o : Obj} {kvs : List (Key × V)} {H1 : Hp} (hd : H1 d = some (.frz o (.dK kvs))) : ∀ H, Same H1 H → (∀ i, i < kvs.length → (Itk d o kvs).go i H ∧ ∀ x H', (Itk d o kvs).yld i H x H' → H' = H ∧ x = (kvs.map fun p => kV p.1).getD i .non) ∧ (Itk d o kvs).stop kvs.length H := fun H s => by
  refine ⟨fun i hi => ⟨⟨s _ _ hd, hi⟩, fun x H' y => ?_⟩, ⟨s _ _ hd, Nat.le_refl _⟩⟩
  obtain ⟨e, p, hp, ex⟩ := y
  refine ⟨e, ?_⟩
  rw [ex, List.getD_eq_getElem?_getD, List.getElem?_map, hp]
  rfl
/-- with a test that the number of the turn decides; the items by R, which speaks of tuples alone -/
theorem lc_fmap {k : Nat} {mp : List Nat} {σ : St} {g : TG} {tc : TT} {te : TE} {J : It} {H1 : Hp} {Q : VK} (n : Nat) (xs : Nat → V) (t : Nat → Bool) (R : Nat → V → Hp → Prop) (hn : n ≤ sizeLine)
    (hR : ∀ i v H H', TSame H H' → R i v H → R i v H')
    (hJ : ∀ H, Same H1 H → (∀ i, i < n → J.go i H ∧ ∀ x H', J.yld i H x H' → H' = H ∧ x = xs i) ∧ J.stop n H)
    (step : ∀ i H (Qt : VK) (Qf : Hp → Prop), i < n → Same H1 H → (t i = true → ∀ v H6, Same H H6 → R i v H6 → Qt v H6) → (t i = false → ∀ H6, Same H H6 → Qf H6) → g (xs i) (lcS k mp σ) H fun σ4 H4 => tc σ4 H4 fun b H5 => if b = true then te σ4 H5 Qt else Qf H5)
    (done : ∀ D vs H', vs.length = ((List.range n).filter t).length → (∀ (j i : Nat) (v : V), ((List.range n).filter t)[j]? = some i → vs[j]? = some v → R i v H') → Same H1 H' → H1 D = none → H' D = some (.lst vs) → Q (.ref D) H') : lcPost k mp σ g tc te J H1 Q := by
  intro D hD
  refine ⟨fun i m acc H => m = n - i ∧ i ≤ n ∧ acc.length = ((List.range i).filter t).length ∧ Same H1 H ∧ H D = some (.lst acc) ∧ ∀ (j q : Nat) (v : V), ((List.range i).filter t)[j]? = some q → acc[j]? = some v → R q v H,
    ⟨n, by simp, Nat.zero_le _, rfl, same_upd_new hD, upd_same, fun j q v e _ => by simp at e⟩, ?_⟩
  rintro i m acc H ⟨rfl, hi, hl, hs, hDa, hr⟩
  obtain ⟨j1, j2⟩ := hJ H hs
  by_cases hlt : i < n
  · refine .inr ⟨(j1 i hlt).1, fun x H3 y => ?_⟩
    obtain ⟨e1, e2⟩ := (j1 i hlt).2 x H3 y
    subst e1 e2
    refine step i H3 _ _ hlt hs (fun ht v H6 s6 r6 => ⟨s6 _ _ hDa, ?_, n - (i + 1), by omega, rfl, hlt, ?_, fun b o e => ?_, upd_same, fun j q u e1 e2 => ?_⟩) (fun ht H6 s6 => ⟨n - (i + 1), by omega, rfl, hlt, ?_, hs.trans s6, s6 _ _ hDa, fun j q u e1 e2 => ?_⟩)
    · have := List.length_filter_le t (List.range i)
      rw [List.length_range] at this
      omega
    · rw [List.range_succ, List.filter_append, List.length_append, List.length_append, hl]
      simp [ht]
    · rw [upd_ne (ne_of_none e hD)]
      exact s6 _ _ (hs b o e)
    · have ts : TSame H6 (upd H6 D (.lst (acc ++ [v]))) := tsame_upd_lst (s6 _ _ hDa)
      rw [List.range_succ, List.filter_append] at e1
      rcases Nat.lt_trichotomy j acc.length with h | h | h
      · rw [List.getElem?_append_left h] at e2
        rw [List.getElem?_append_left (by omega)] at e1
        exact hR _ _ _ _ (s6.tup.trans ts) (hr j q u e1 e2)
      · subst h
        rw [List.getElem?_append_right (Nat.le_refl _), Nat.sub_self] at e2
        rw [List.getElem?_append_right (by omega), hl, Nat.sub_self] at e1
        simp [ht] at e1 e2
        subst e1 e2
        exact hR _ _ _ _ ts r6
      · rw [List.getElem?_eq_none (by rw [List.length_append, List.length_singleton]; omega)] at e2
        cases e2
    · rw [List.range_succ, List.filter_append, List.length_append, hl]
      simp [ht]
    · rw [List.range_succ, List.filter_append] at e1
      have hj : j < acc.length := (List.getElem?_eq_some_iff.mp e2).1
      rw [List.getElem?_append_left (by omega)] at e1
      exact hR _ _ _ _ s6.tup (hr j q u e1 e2)
  · have e : i = n := by omega
    subst e
    exact .inl ⟨j2, done D acc H hl hr hs hD hDa⟩
end L2

set_option Elab.async false
set_option linter.all false
set_option maxRecDepth 100000
/-! own work: zip of two tuples -/
namespace L2
open PySem PySem.Spec PyProof.Rows
section
variable {prog : Program} {w : World} {A : Around} {E : Value → Shared → Prop} {s : Shared}
end

end L2

set_option Elab.async false
set_option linter.all false
set_option maxRecDepth 100000
namespace L2
open PySem PySem.Spec PyProof.Rows
/-! ### a row that is a list or a tuple -/
def SeqAt' (H : Hp) (a : Addr) (ys : List V) : Prop := H a = some (.lst ys) ∨ H a = some (.tup ys)
theorem SeqAt'.same {H H' : Hp} {a : Addr} {ys : List V} (s : Same H H') (h : SeqAt' H a ys) : SeqAt' H' a ys := h.imp (s _ _) (s _ _)
theorem len_seq {K : PySem.W.Frag} {H : Hp} {a : Addr} {ys : List V} (h : SeqAt' H a ys) : LenV K (.ref a) H ys.length := h.elim (fun h => .inl ⟨_, SqL.of h, rfl⟩) fun h => .inr ⟨_, SqT.of h, rfl⟩
theorem ix_seqK {X : Cx} (K : PySem.W.Frag) (h : X.K = K := by rfl) : IxR X (rIx K) := by subst h; exact ix_seq
theorem seq_ix {K : PySem.W.Frag} {H : Hp} {a : Addr} {ys : List V} {i : Int} {v : V} {Q : VK} (h : SeqAt' H a ys) (e : atI ys i = some v) (q : Q v H) : rIx K (.ref a) (.int i) H Q :=
  h.elim (fun h => .inl ⟨a, ys, i, v, rfl, rfl, SqL.of h, e, q⟩) fun h => .inr (.inl ⟨a, ys, i, v, rfl, rfl, SqT.of h, e, q⟩)
end L2

set_option Elab.async false
set_option linter.all false
set_option maxRecDepth 100000
/-! the mathematics of lines: words parted by blanks, read back -/
namespace Sh
open PySem L2 PyProof.Rows
/-! ### codes -/
/-! ### splitting a joined line gives the words -/
/-! ### a word read back -/
end Sh
namespace Sh
open PySem L2 PyProof.Rows
seal L2.PE L2.PS L2.PSs L2.PT L2.PW L2.PA L2.PI L2.PG L2.PGs L2.PO L2.PC L2.PCs L2.OpR L2.UnR L2.CallR L2.MtR L2.IxR L2.SlR
/-! ### counting in a dict -/
theorem valV_ks (g : Str → V) (y : Str) : ∀ ks : List Str, valV (ks.map fun x => ((Sum.inr x : Key), g x)) (Sum.inr y) = if y ∈ ks then some (g y) else none
  | [] => rfl
  | x :: ks => by
    have ih := valV_ks g y ks
    by_cases e : x = y
    · subst e
      rw [List.map_cons, valV_pos rfl, if_pos List.mem_cons_self]
    · rw [List.map_cons, valV_neg (fun q => e (Sum.inr.inj q)), ih]
      have : (y ∈ x :: ks) ↔ y ∈ ks := by
        rw [List.mem_cons]
        exact ⟨fun h => h.elim (fun q => absurd q.symm e) id, .inr⟩
      simp only [this]
theorem put_ks_old (g : Str → V) (y : Str) (v : V) (ks : List Str) (h : y ∈ ks) : putK (ks.map fun x => ((Sum.inr x : Key), g x)) (Sum.inr y) v = ks.map fun x => ((Sum.inr x : Key), if x = y then v else g x) := by
  unfold putK
  rw [valV_any, valV_ks, if_pos h]
  simp only [Option.isSome_some, if_true, List.map_map]
  apply List.map_congr_left
  intro x _
  by_cases e : x = y
  · subst e
    simp
  · have : ¬ (Sum.inr x : Key) = Sum.inr y := fun q => e (Sum.inr.inj q)
    simp [this, e]
/-! ### sorted texts -/
end Sh
namespace Sh
open PySem L2 PyProof.Rows
/-! ### pieces of a text -/
/-! ### the heap of the pieces -/
end Sh
namespace Sh
open PySem L2 PyProof.Rows
seal L2.PE L2.PS L2.PSs L2.PT L2.PW L2.PA L2.PI L2.PG L2.PGs L2.PO L2.PC L2.PCs L2.OpR L2.UnR L2.CallR L2.MtR L2.IxR L2.SlR
end Sh
set_option Elab.async false
set_option linter.all false
set_option maxRecDepth 100000
namespace Sh
open PySem L2 PyProof.Rows
seal L2.PE L2.PS L2.PSs L2.PT L2.PW L2.PA L2.PI L2.PG L2.PGs L2.PO L2.PC L2.PCs L2.OpR L2.UnR L2.CallR L2.MtR L2.IxR L2.SlR
/-! ### heaps are one -/
/-! ### a text, as the law draws it -/
end Sh
set_option Elab.async false
set_option linter.all false
set_option maxRecDepth 100000
namespace Sh
open PySem L2 PyProof.Rows
seal L2.PE L2.PS L2.PSs L2.PT L2.PW L2.PA L2.PI L2.PG L2.PGs L2.PO L2.PC L2.PCs L2.OpR L2.UnR L2.CallR L2.MtR L2.IxR L2.SlR
/-! ### dicts of texts and numbers, by their keys -/
def gD (ks : List Str) (g : Str → Int) : List (Key × V) := ks.map fun x => ((Sum.inr x : Key), V.int (g x))
theorem gD_len (ks : List Str) (g : Str → Int) : (gD ks g).length = ks.length := by unfold gD; rw [List.length_map]
theorem gD_val (ks : List Str) (g : Str → Int) (y : Str) : valV (gD ks g) (Sum.inr y) = if y ∈ ks then some (.int (g y)) else none := valV_ks (fun x => V.int (g x)) y ks
theorem gD_congr {ks : List Str} {g g' : Str → Int} (h : ∀ x ∈ ks, g x = g' x) : gD ks g = gD ks g' := by
  unfold gD
  exact List.map_congr_left fun x m => by rw [h x m]
theorem gD_put (ks : List Str) (g : Str → Int) (y : Str) (n : Int) : putK (gD ks g) (Sum.inr y) (.int n) = gD (if y ∈ ks then ks else ks ++ [y]) fun x => if x = y then n else g x := by
  by_cases m : y ∈ ks
  · rw [if_pos m]
    unfold gD
    rw [put_ks_old _ _ _ _ m]
    apply List.map_congr_left
    intro x _
    dsimp only
    by_cases e : x = y
    · rw [if_pos e, if_pos e]
    · rw [if_neg e, if_neg e]
  · rw [if_neg m, putK_new _ (by rw [gD_val, if_neg m])]
    unfold gD
    rw [List.map_append, List.map_singleton]
    dsimp only
    rw [if_pos rfl]
    congr 1
    apply List.map_congr_left
    intro x hx
    have ne : ¬ x = y := by
      intro e
      rw [e] at hx
      exact m hx
    rw [if_neg ne]
end Sh
set_option Elab.async false
set_option linter.all false
set_option maxRecDepth 100000
namespace Sh
open PySem L2 PyProof.Rows
seal L2.PE L2.PS L2.PSs L2.PT L2.PW L2.PA L2.PI L2.PG L2.PGs L2.PO L2.PC L2.PCs L2.OpR L2.UnR L2.CallR L2.MtR L2.IxR L2.SlR
/-! ### heaps are one -/
/-! ### a text, as the law draws it -/
end Sh

set_option Elab.async false
set_option linter.all false
set_option maxRecDepth 100000
/-! own work: range downwards, xs[::-1], list(range(n)), max(list), sorted of whole numbers and of pairs of them -/
namespace L2
open PySem PySem.Spec PyProof.Rows PySem.W
/-! ### range(a, b, -1) -/
def Itdn (hi : Int) (n : Nat) : It := ⟨fun i _ => i < n, fun i H x H' => H' = H ∧ x = .int (hi - i), fun i _ => n ≤ i⟩
theorem turn_rangeD {P : Program} {w : World} {K : PySem.W.Frag} {tg : Expr} (it : Addr) (hi : Int) (n : Nat) : Turn P w K tg (Itdn hi n) [it] it (fun i h => IsRangeIter h it (hi + (i : Nat) * (-1)) ((n : Int) - (i : Nat)) (-1)) where
  mem := by simp
  obj := fun i h st b hb => by
    have e : b = it := by simpa using hb
    subst e
    exact ⟨_, st, fun v z => by
      have z' : Data.fields _ = Data.cell v := z
      cases z'⟩
  keep := fun i h h' st k => k it (by simp) _ st
  item := by
    intro X hP hw hK hc i pins s σ H E I hf st hg
    subst hP hw hK
    obtain ⟨f0, f1, f2, f3, f4, f5⟩ := hf it (by simp)
    have W := Walks.range (prog := X.prog) (w := X.w) (I.ok.hd hc) it hi (-1) n
    refine W.item i s _ _ hg st fun v h' tk hv st' kk => ?_
    obtain ⟨t, rfl⟩ := hv
    have I1 : Inv X pins σ H { s with heap := h', toks := tk } := I.turned (fun b o hb e => kk b o (by simpa using hb) e) f0 f1 f3 f4 f5
    refine ⟨_, rfl, go_of (s := { s with heap := h', toks := tk }) (n := "range_iterator") st' rfl rfl (by decide) ⟨.int (hi - i), H, I1, ⟨t, ?_⟩, ⟨rfl, rfl⟩, st', fun b hb => (hf b hb).1⟩⟩
    rw [show hi + (i : Int) * (-1) = hi - i by omega]
  done := by
    intro X hP hw hK hc i pins s σ H E I hf st hg
    subst hP hw hK
    obtain ⟨f0, f1, f2, f3, f4, f5⟩ := hf it (by simp)
    exact wpAny_pyNext_range_end (I.ok.hd hc) st (by have : n ≤ i := hg; omega) fun h' eb => ⟨rfl, I.turned (t' := s.toks) (fun b o hb e => eb b o hb e) f0 f1 f3 f4 f5⟩
  self := fun _ _ _ _ _ st h => wpAny_pyIter_rangeiter st h
section
variable {X : Cx} {tg : Expr}
theorem range_itD {pins : List (Addr × Obj)} {σ : St} {H : Hp} {s : Shared} {R : It → Hp → Prop} {E : Value → Shared → Prop} {lo hi : Int} {t u v : Tok} {tk : Nat} (I : Inv X pins σ H s) (h1 : -(2 ^ 62) ≤ lo) (h2 : lo < 2 ^ 62) (h3 : -(2 ^ 62) ≤ hi) (h4 : hi < 2 ^ 62)
    (q : R (Itdn lo (lo - hi).toNat) H) : wpAny (model X.prog X.w) X.A (pyIter (.ref s.heap.objs.size)) (PIE X pins σ tg R) E { s with heap := s.heap.push { cls := .type "range", data := .fields #[.int lo t, .int hi u, .int (-1) v] }, toks := tk } := by
  refine wpAny_pyIter_range (IsRange.new ..) (small_down h1 h2 h3 h4) ?_
  have I1 : Inv X pins σ H { s with heap := s.heap.push { cls := .type "range", data := .fields #[.int lo t, .int hi u, .int (-1) v] }, toks := tk } := I.kept fun b o e => Heap.get?_push_of_some _ e
  refine ⟨(s.heap.push { cls := .type "range", data := .fields #[.int lo t, .int hi u, .int (-1) v] }).objs.size, [(s.heap.push { cls := .type "range", data := .fields #[.int lo t, .int hi u, .int (-1) v] }).objs.size], _, _, H, rfl,
    I1.kept (t' := tk) fun b o e => Heap.get?_push_of_some _ e, turn_rangeD _ lo (lo - hi).toNat, ?_, fun b hb => ?_, q⟩
  · have e1 : lo + ((0 : Nat) : Int) * (-1) = lo := by simp
    have e2 : (((lo - hi).toNat : Nat) : Int) - ((0 : Nat) : Int) = Builtin.Range.rangeSize lo hi (-1) := by rw [rangeSize_downNat]; omega
    show IsRangeIter _ _ (lo + ((0 : Nat) : Int) * (-1)) ((((lo - hi).toNat : Nat) : Int) - ((0 : Nat) : Int)) (-1)
    rw [e1, e2]
    exact Heap.get?_push_size _ rfl
  · have e : b = (s.heap.push { cls := .type "range", data := .fields #[.int lo t, .int hi u, .int (-1) v] }).objs.size := by simpa using hb
    subst e
    exact I1.fpOk (Nat.le_refl _) (I1.hok.fresh (Nat.le_refl _))
def iRngD (ta : TA) : TI := fun σ H R => ta σ H fun vs H1 => ∃ i j : Int, vs = [.int i, .int j, .int (-1)] ∧ (-(2 ^ 62) ≤ i ∧ i < 2 ^ 62 ∧ -(2 ^ 62) ≤ j ∧ j < 2 ^ 62) ∧ R (Itdn i (i - j).toNat) H1
theorem pi_rangeD {a : Expr} {rs : List Expr} {ta : TA} {p pos : Pos} (hg : Gl X "range") (hm : X.mg "range" = none) (ha : PA X (a :: rs) ta) (hs : starEach (a :: rs) X.env = (false, eval a X.env) :: starEach rs X.env := by rfl) (hpl : (backTo pos (starEach rs X.env)).any (·.1) = false := by rfl) : PI X tg (.Call (.Name "range" p) (a :: rs) [] pos) (iRngD ta) := by
  intro pins s σ H R I h
  refine Call_ (ld_blt I hg hm boot_range (PyProof.Rows.callWith_type1 (thn (ha pos pins s σ H _ I h) fun us s1 ⟨vs, H1, I1, r1, q1⟩ => ?_) hs hpl))
  obtain ⟨i, j, e, ⟨q1, q2, q3, q4⟩, q⟩ := q1
  subst e
  cases r1 with
  | cons r rr =>
    cases rr with
    | cons r' rr =>
      cases rr with
      | cons r'' rr =>
        cases rr
        obtain ⟨t, rfl⟩ := r
        obtain ⟨t', rfl⟩ := r'
        obtain ⟨t'', rfl⟩ := r''
        exact call_range_3 (by decide) (range_itD I1 q1 q2 q3 q4 q) (.inl (PyProof.noPylong_of_log2 (by decide +kernel)))
theorem for_rangeD {lo : Int} {n : Nat} {g : TG} {tb : TS} {D : Ends} {σ : St} {H : Hp} (Pv : Nat → St → Hp → Prop) (h0 : Pv 0 σ H)
    (hs : ∀ i σ H, i < n → Pv i σ H → g (.int (lo - i)) σ H fun σ2 H2 => tb { D with nx := Pv (i + 1), ct := Pv (i + 1), bk := D.nx } σ2 H2) (hd : ∀ σ H, Pv n σ H → D.nx σ H) :
    ∃ W : Nat → Nat → St → Hp → Prop, (∃ m, W 0 m σ H) ∧ ∀ i m σ H, W i m σ H →
      ((Itdn lo n).stop i H ∧ D.nx σ H) ∨ ((Itdn lo n).go i H ∧ ∃ N : St → Hp → Prop, (∀ σ' H', N σ' H' → ∃ m', m' < m ∧ W (i + 1) m' σ' H') ∧ ∀ x H', (Itdn lo n).yld i H x H' → g x σ H' fun σ2 H2 => tb { D with nx := N, ct := N, bk := D.nx } σ2 H2) := by
  refine ⟨fun i m σ H => m = n - i ∧ i ≤ n ∧ Pv i σ H, ⟨n, by simp, Nat.zero_le _, h0⟩, ?_⟩
  rintro i m σ H ⟨rfl, hi, p⟩
  by_cases hlt : i < n
  · refine .inr ⟨hlt, Pv (i + 1), fun σ' H' p' => ⟨n - (i + 1), by omega, rfl, hlt, p'⟩, fun x H' y => ?_⟩
    obtain ⟨e, y⟩ := y
    subst e y
    exact hs i σ _ hlt p
  · have e : i = n := by omega
    subst e
    exact .inl ⟨Nat.le_refl _, hd σ H p⟩
/-! ### xs[::-1] -/
theorem Vals.rev {xs : List V} {us : List Value} (r : Vals xs us) : Vals xs.reverse us.reverse := by
  induction r with
  | nil => exact .nil
  | cons h t ih =>
    rw [List.reverse_cons, List.reverse_cons]
    exact Vals.append ih (.cons h .nil)
def tRev (K : PySem.W.Frag) (te ts : TE) : TE := fun σ H Q => te σ H fun x H1 => ts σ H1 fun y H2 => ∃ a xs, x = .ref a ∧ SqL K H2 a xs ∧ y = .int (-1) ∧ ∀ p, H2 p = none → Q (.ref p) (upd H2 p (.lst xs.reverse))
theorem pe_rev {e st : Expr} {te ts : TE} {p2 pos : Pos} (he : PE X e te) (hs : PE X st ts) : PE X (.Subscript e (.Slice none none (some st) p2) pos) (tRev X.K te ts) := by
  intro pins s σ H Q I h
  refine Subscript_ (thn (he pins s σ H _ I h) fun v s1 ⟨x, H1, I1, r1, q1⟩ => ?_)
  refine wpAny_Slice ?_
  rw [evalPart_none]
  refine wpAny_pure (wpAny_pure ?_)
  rw [evalPart_some]
  refine thn (hs pins s1 σ H1 _ I1 q1) fun vs s3 ⟨y, H3, I3, ry, q3⟩ => ?_
  obtain ⟨a, xs, rfl, hx, rfl, q⟩ := q3
  obtain ⟨t, rfl⟩ := ry
  cases r1
  have I4 : Inv X pins σ H3 { s3 with heap := s3.heap.push { cls := .type "slice", data := .fields #[.none, .none, .int (-1) t] } } := I3.kept (t' := s3.toks) fun b ob q => Heap.get?_push_of_some _ q
  obtain ⟨its, r, ht, hz⟩ := I4.list hx
  have hlen := r.length
  refine tail_any (ops := [.ref a, .ref s3.heap.objs.size]) ht.isList.typeIs slot_list_getitem.lookup ?_ (by with_unfolding_all rfl)
  refine wpAny_getItem_list_slice ht.isList (Heap.IsSliceOf.new ..) .none .none (.int (-1) t) (by decide) ?_ (by rw [List.size_toArray] <;> omega)
  rw [krv_pick]
  have hv := r.rev
  refine ⟨.ref _, _, I4.laid (t' := s3.toks) (o := .lst xs.reverse) (fun b ob q => Heap.get?_push_of_some _ q) (Nat.le_refl _) ?_, rfl, q _ (I4.hok.fresh (Nat.le_refl _))⟩
  exact ⟨by rw [List.length_reverse]; omega, _, 0, hv, Heap.get?_push_size _ rfl⟩
/-! ### range objects, list(range(n)) -/
theorem call_rng : CallR X (.type "range") (fun xs H Q => ∃ j : Int, xs = [.int j] ∧ ∀ p, H p = none → Q (.ref p) (upd H p (.rng 0 j))) := by
  intro pins s σ H xs us Q I r h
  obtain ⟨j, rfl, q⟩ := h
  obtain ⟨u, rfl, t, rfl⟩ := vals1 r
  refine call_range_1 ?_
  exact ⟨.ref _, _, I.laid (t' := s.toks + 1 + 1) (o := .rng 0 j) (fun b ob q => Heap.get?_push_of_some _ q) (Nat.le_refl _) ⟨_, _, _, Heap.get?_push_size _ rfl⟩, rfl, q _ (I.hok.fresh (Nat.le_refl _))⟩
theorem call_listR (hc : X.calm = true) : CallR X (.type "list") (fun xs H Q => ∃ (p : Addr) (n : Nat), xs = [.ref p] ∧ H p = some (.rng 0 n) ∧ n ≤ 1000 ∧ ∀ l, H l = none → Q (.ref l) (upd H l (.lst ((List.range n).map fun (i : Nat) => V.int i)))) := by
  intro pins s σ H xs us Q I r h
  obtain ⟨p, n, rfl, hp, hn, q⟩ := h
  obtain ⟨u, rfl, ru⟩ := vals1 r
  cases ru
  obtain ⟨t, u, v, ho⟩ := (show ObjOk X.prog X.w H s.heap p (.rng 0 n) from I.hok p _ hp)
  refine call_list_range (n := n) (I.ok.hd hc) (show IsRange s.heap p 0 n 1 t u v from ho) (small_one (by decide) (by decide) (by omega) (by omega)) (by rw [rangeSize_one]; split <;> omega) (by omega) fun h' tk acc c hk hD hA => ?_
  have hv : Vals ((List.range n).map fun (i : Nat) => V.int i) acc.toList := by
    have hl : acc.toList.length = n := by rw [Array.length_toList]; exact hA.1
    have key : ∀ (k : Nat) (l : List Value) (o : Nat), l.length = k → (∀ (i : Nat) (v : Value), l[i]? = some v → ∃ t, v = .int ((o + i : Nat) : Int) t) → Vals ((List.range' o k).map fun (i : Nat) => V.int i) l := by
      intro k
      induction k with
      | zero =>
        intro l o e _
        rw [List.length_eq_zero_iff.mp e]
        exact .nil
      | succ k ih =>
        intro l o e hh
        match l, e with
        | v :: l, e =>
          rw [List.range'_succ, List.map_cons]
          refine .cons ?_ (ih l (o + 1) (by simpa using e) fun i w hw => ?_)
          · obtain ⟨t, e⟩ := hh 0 v rfl
            exact ⟨t, by rw [e]; rfl⟩
          · obtain ⟨t, e⟩ := hh (i + 1) w (by simpa using hw)
            exact ⟨t, by rw [e]; congr 2; omega⟩
    rw [List.range_eq_range']
    refine key n _ 0 hl fun i v e => ?_
    obtain ⟨t, e⟩ := hA.2 i v (by rw [← Array.getElem?_toList]; exact e)
    exact ⟨t, by rw [e]; congr 1; omega⟩
  exact ⟨.ref s.heap.objs.size, _, I.laid (t' := tk) (o := .lst ((List.range n).map fun (i : Nat) => V.int i)) hk (Nat.le_refl _) ⟨by rw [List.length_map, List.length_range]; exact sl_big hn, acc.toList, c, hv, hD⟩, rfl, q _ (I.hok.fresh (Nat.le_refl _))⟩
/-! ### max(list) -/
theorem call_maxL (hc : X.calm = true) : CallR X (.builtin "max") (fun xs H Q => ∃ (a : Addr) (ns : List Int), xs = [.ref a] ∧ SqL X.K H a (ns.map V.int) ∧ ns ≠ [] ∧ ∀ m, m ∈ ns → (∀ x ∈ ns, x ≤ m) → Q (.int m) H) := by
  intro pins s σ H xs us Q I r h
  obtain ⟨a, ns, rfl, hq, hne, q⟩ := h
  obtain ⟨u, rfl, ru⟩ := vals1 r
  cases ru
  obtain ⟨its, rv, pl, hz⟩ := I.list hq
  have hl := rv.length
  rw [List.length_map] at hl
  have hlt : a < s.heap.objs.size := by
    obtain ⟨o, n, e, _⟩ := pl
    exact Heap.lt_size e
  have hpos : 0 < ns.length := by cases ns with | nil => exact absurd rfl hne | cons x l => simp
  have hval : ∀ (i : Nat) (v : Value), its.toArray[i]? = some v → ∃ t, v = .int (ns.getD i 0) t := fun i v hv => by
    have e1 : its[i]? = some v := by simpa using hv
    have hi : i < its.length := (List.getElem?_eq_some_iff.mp e1).1
    have hb : (ns.map V.int)[i]? = some (.int (ns.getD i 0)) := by
      rw [List.getElem?_map, List.getD_eq_getElem?_getD]
      cases e : ns[i]? with
      | none => exact absurd (List.getElem?_eq_none_iff.mp e) (by omega)
      | some b => rfl
    obtain ⟨u', hu, ru⟩ := rv.get hb
    rw [e1] at hu
    cases hu
    exact ru
  refine call_max_walk (wpAny_pyIter_list pl.isList ⟨s.heap.objs.size, [s.heap.objs.size, a], [s.heap.objs.size], its.toArray.size, _, _, _, rfl, Walks.list (A := X.A.in1) (I.ok.hd hc) _ _ (Nat.ne_of_lt hlt) its.toArray,
    ⟨⟨_, Heap.get?_push_size _ rfl, rfl, rfl⟩, pl.isList.push _⟩, ?_, by rw [List.size_toArray]; omega, CmpOf.ints_gt (fun i => ns.getD i 0) hval, ?_⟩)
  · intro b hb
    show b < (s.heap.push _).objs.size
    rw [Heap.size_push]
    have : b = s.heap.objs.size ∨ b = a := by simpa using hb
    rcases this with z | z
    · rw [z]; exact Nat.lt_succ_self _
    · rw [z]; exact Nat.lt_succ_of_lt hlt
  · intro v h2 tk hv kk
    obtain ⟨t, rfl⟩ := hval _ _ hv
    have hsz : its.toArray.size = ns.length := by rw [List.size_toArray]; omega
    rw [hsz]
    obtain ⟨b1, b2⟩ := argBest_gt (fun i => ns.getD i 0) (ns.length - 1)
    refine ⟨.int _, H, I.kept fun b o e => kk b o (by simpa using Nat.ne_of_lt (Heap.lt_size e)) (Heap.get?_push_of_some _ e), ⟨t, rfl⟩, q _ ?_ fun x hx => ?_⟩
    · have hi' : argBest (fun i j => decide (ns.getD i 0 > ns.getD j 0)) (ns.length - 1) < ns.length := Nat.lt_of_le_of_lt b1 (by omega)
      rw [List.getD_eq_getElem?_getD, List.getElem?_eq_getElem hi']
      exact List.getElem_mem hi'
    · obtain ⟨j, hj, e⟩ := List.getElem_of_mem hx
      have := b2 j (by omega)
      have e2 : ns.getD j 0 = x := by rw [List.getD_eq_getElem?_getD, List.getElem?_eq_getElem hj]; exact e
      rw [← e2]
      exact this
end
end L2

set_option Elab.async false
set_option linter.all false
set_option maxRecDepth 100000
/-! own work: sorted of whole numbers and of pairs of them, of any length -/
namespace Tim
open PySem PySem.W PyProof.Rows
section
variable {prog : Program} {w : World} {A : Around} {E : Value → Shared → Prop} {s : Shared}
def ltI (xs : List Int) (i j : Nat) : Bool := decide (xs.getD i 0 < xs.getD j 0)
theorem ltI_wo (xs : List Int) (n : Nat) : WO n (ltI xs) where
  irr := fun i _ => by
    unfold ltI
    exact decide_eq_false (Int.lt_irrefl _)
  tr := fun i j k _ _ _ h1 h2 => by
    unfold ltI at *
    rw [decide_eq_true_eq] at *
    omega
  ntr := fun i j k _ _ _ h => by
    unfold ltI at *
    rw [decide_eq_true_eq] at h
    rw [decide_eq_true_eq, decide_eq_true_eq]
    omega
theorem ints_at : ∀ {vs : List Value} {xs : List Int}, IntsAre vs xs → ∀ (i : Nat) (v : Value), vs[i]? = some v → ∃ t, v = .int (xs.getD i 0) t
  | _, _, .nil, i, v, h => by simp at h
  | _, _, .cons y t r, 0, v, h => by
    simp at h
    exact ⟨t, by rw [← h]; rfl⟩
  | _, _, .cons y t r, i + 1, v, h => by
    obtain ⟨t', e1⟩ := ints_at r i v (by simpa using h)
    exact ⟨t', by rw [e1]; rfl⟩
theorem sa_ints {h1 : Heap} {vs : List Value} {xs : List Int} (hS : IntsAre vs xs) : SortAs prog w h1 vs (ltI xs) oneType' where
  wo := ltI_wo xs _
  same := fun i j hi e k => by
    have hj : vs[j]? = some vs[i] := by rw [← e]; exact List.getElem?_eq_getElem hi
    obtain ⟨t1, e1⟩ := ints_at hS i _ (List.getElem?_eq_getElem hi)
    obtain ⟨t2, e2⟩ := ints_at hS j _ hj
    rw [e1] at e2
    injection e2 with e2 _
    unfold ltI
    rw [e2]
  kd := fun A E s Q _ h2 q => by
    match vs, hS, h2 with
    | v1 :: v2 :: vs, hS, _ =>
      rw [keyKind_ints hS]
      exact wpAny_pure q
  ask := fun A s i j x y C _ e1 e2 q => by
    obtain ⟨t1, rfl⟩ := ints_at hS i _ e1
    obtain ⟨t2, rfl⟩ := ints_at hS j _ e2
    exact kat_lt_int (q s.toks)
/-! ### pairs of whole numbers -/
def ltP (xs : List (Int × Int)) (i j : Nat) : Bool := decide ((xs.getD i (0, 0)).1 < (xs.getD j (0, 0)).1 ∨ ((xs.getD i (0, 0)).1 = (xs.getD j (0, 0)).1 ∧ (xs.getD i (0, 0)).2 < (xs.getD j (0, 0)).2))
theorem ltP_wo (xs : List (Int × Int)) (n : Nat) : WO n (ltP xs) where
  irr := fun i _ => by
    unfold ltP
    exact decide_eq_false (by omega)
  tr := fun i j k _ _ _ h1 h2 => by
    unfold ltP at *
    rw [decide_eq_true_eq] at *
    omega
  ntr := fun i j k _ _ _ h => by
    unfold ltP at *
    rw [decide_eq_true_eq] at h
    rw [decide_eq_true_eq, decide_eq_true_eq]
    omega
def PrN (h : Heap) (v : Value) (x : Int × Int) : Prop := ∃ a o n t u, v = .ref a ∧ h.get? a = some o ∧ o.cls = .type "tuple" ∧ o.data = .seq #[.int x.1 t, .int x.2 u] n
theorem PrN.keep {h h' : Heap} {v : Value} {x : Int × Int} (p : PrN h v x) (k : ∀ b o, h.get? b = some o → h'.get? b = some o) : PrN h' v x := by
  obtain ⟨a, o, n, t, y, e, e1, e2⟩ := p
  exact ⟨a, o, n, t, y, e, k a o e1, e2⟩
theorem katNums {h : Heap} : ∀ {vs : List Value} {xs : List (Int × Int)}, xs.length = vs.length → (∀ (i : Nat) (v : Value) (x : Int × Int), vs[i]? = some v → xs[i]? = some x → PrN h v x) → ∃ fs, KatTups h vs fs ∧ fs.length = vs.length ∧ ∀ f ∈ fs, ∃ x t, f = .int x t
  | [], [], _, _ => ⟨[], trivial, rfl, fun f hf => nomatch hf⟩
  | [], _ :: _, h, _ => by cases h
  | _ :: _, [], h, _ => by cases h
  | v :: vs, x :: xs, hl, hv => by
    obtain ⟨a, o, n, t, y, rfl, ha, hc, hd⟩ := hv 0 v x rfl rfl
    obtain ⟨fs, k, l, q⟩ := katNums (vs := vs) (xs := xs) (by simpa using hl) fun i v x e1 e2 => hv (i + 1) v x e1 e2
    refine ⟨.int x.1 t :: fs, KatTups.cons ha hc hd rfl k, by simp [l], fun f hf => ?_⟩
    rcases List.mem_cons.mp hf with z | z
    · exact ⟨x.1, t, z⟩
    · exact q f z
theorem sa_nums {h1 : Heap} {vs : List Value} {xs : List (Int × Int)} (hl : xs.length = vs.length) (hv : ∀ (i : Nat) (v : Value) (x : Int × Int), vs[i]? = some v → xs[i]? = some x → PrN h1 v x) : SortAs prog w h1 vs (ltP xs) (tuples' ((Value.type "int") != Value.type "tuple")) where
  wo := ltP_wo xs _
  same := fun i j hi e k => by
    have hj : vs[j]? = some vs[i] := by rw [← e]; exact List.getElem?_eq_getElem hi
    have hj2 : j < vs.length := (List.getElem?_eq_some_iff.mp hj).1
    obtain ⟨a, o, n, t, y, e1, e2, e3, e4⟩ := hv i vs[i] xs[i] (List.getElem?_eq_getElem hi) (List.getElem?_eq_getElem (by omega))
    obtain ⟨a', o', n', t', y', e1', e2', e3', e4'⟩ := hv j vs[i] xs[j] hj (List.getElem?_eq_getElem (by omega))
    rw [e1] at e1'
    cases e1'
    rw [e2] at e2'
    cases e2'
    rw [e4] at e4'
    have ex : xs[i] = xs[j] := by
      injection e4' with z1 _
      have z2 := congrArg (fun a : Array Value => a[0]?) z1
      have z3 := congrArg (fun a : Array Value => a[1]?) z1
      simp at z2 z3
      exact Prod.ext z2.1 z3.1
    unfold ltP
    rw [List.getD_eq_getElem?_getD (i := i), List.getD_eq_getElem?_getD (i := j), List.getElem?_eq_getElem (show i < xs.length by omega), List.getElem?_eq_getElem (show j < xs.length by omega), ex]
  kd := fun A E s Q k h2 q => by
    obtain ⟨fs, kt, lf, hf⟩ := katNums (h := s.heap) hl fun i v x e1 e2 => (hv i v x e1 e2).keep k
    refine kat_kind (T := .type "int") kt (by omega) (fun f m => ?_) (by decide) q
    obtain ⟨x, t, rfl⟩ := hf f m
    exact Looks.of_pure rfl
  ask := fun A s i j x y C k e1 e2 q => by
    have hi : i < vs.length := (List.getElem?_eq_some_iff.mp e1).1
    have hj : j < vs.length := (List.getElem?_eq_some_iff.mp e2).1
    obtain ⟨a1, o1, n1, t1, y1, rfl, g1, c1, d1⟩ := (hv i x xs[i] e1 (List.getElem?_eq_getElem (by omega))).keep k
    obtain ⟨a2, o2, n2, t2, y2, rfl, g2, c2, d2⟩ := (hv j y xs[j] e2 (List.getElem?_eq_getElem (by omega))).keep k
    have el : ltP xs i j = decide (xs[i].1 < xs[j].1 ∨ (xs[i].1 = xs[j].1 ∧ xs[i].2 < xs[j].2)) := by
      unfold ltP
      rw [List.getD_eq_getElem?_getD (i := i), List.getD_eq_getElem?_getD (i := j), List.getElem?_eq_getElem (show i < xs.length by omega), List.getElem?_eq_getElem (show j < xs.length by omega)]
      rfl
    rw [el] at q
    refine kat_lt g1 d1 g2 d2 (kat_cons (wpAny_eqBool_int ?_))
    by_cases c : xs[i].1 = xs[j].1
    · rw [beq_iff_eq.mpr c]
      refine kat_yes (kat_cons (wpAny_eqBool_int ?_))
      by_cases c' : xs[i].2 = xs[j].2
      · rw [beq_iff_eq.mpr c']
        refine kat_yes (kat_nil ?_)
        rw [decide_eq_false (by omega)] at q
        exact q s.toks
      · rw [beq_eq_false_iff_ne.mpr c']
        refine kat_no (kat_one _ _ ?_)
        have := q
        rw [show decide (xs[i].1 < xs[j].1 ∨ (xs[i].1 = xs[j].1 ∧ xs[i].2 < xs[j].2)) = decide (xs[i].2 < xs[j].2) from decide_eq_decide.mpr ⟨fun z => by omega, fun z => .inr ⟨c, z⟩⟩] at q
        exact lt_int (q _)
    · rw [beq_eq_false_iff_ne.mpr c]
      refine kat_no ?_
      rw [show decide (xs[i].1 < xs[j].1 ∨ (xs[i].1 = xs[j].1 ∧ xs[i].2 < xs[j].2)) = decide (xs[i].1 < xs[j].1) from decide_eq_decide.mpr ⟨fun z => by omega, fun z => .inl z⟩] at q
      exact kat_lt_int (q s.toks)
end
end Tim
namespace L2
open PySem PySem.Spec PyProof.Rows PySem.W
theorem srt_leI {xs : List Int} {p : Array Nat} (hp : Srt.Pm xs.length p) (h : ∀ i j, i < j → j < xs.length → Tim.ltI xs (p.getD j 0) (p.getD i 0) = false) : (p.toList.map fun i => xs.getD i 0).Pairwise (· ≤ ·) := by
  rw [List.pairwise_map, List.pairwise_iff_getElem]
  intro i j hi hj hij
  have hz : p.toList.length = xs.length := by rw [Array.length_toList, hp.size]
  have hu := h i j hij (by omega)
  unfold Tim.ltI at hu
  rw [decide_eq_false_iff_not, pm_at hp hi, pm_at hp hj] at hu
  omega
/-- sorted(tuple of whole numbers) -/
theorem call_sortedIT {X : Cx} : CallR X (.builtin "sorted") (fun xs H Q => ∃ (a : Addr) (ns : List Int), xs = [.ref a] ∧ SqT X.K H a (ns.map V.int) ∧ ns.length ≤ 1000 ∧
    ∀ (p : Addr) (ns' : List Int), H p = none → ns'.Perm ns → ns'.Pairwise (· ≤ ·) → Q (.ref p) (upd H p (.lst (ns'.map V.int)))) := by
  intro pins s σ H xs us Q I r h
  obtain ⟨a, ss, rfl, hq, h1k, q⟩ := h
  obtain ⟨u, rfl, ru⟩ := vals1 r
  cases ru
  obtain ⟨its, rv, pl, hz⟩ := I.tuple hq
  have hl := rv.length
  rw [List.length_map] at hl
  have hS := intsAre_of rv
  refine Tim.sorted_all (lt := Tim.ltI ss) (κ := oneType') (Pc := fun h1 vs => its = vs) (fun R hR => ?_) (fun h1 vs hk hP => ?_) fun h1 vs h3 tk c p hP hk k1 hk1 hp hs hD hN => ?_
  · obtain ⟨o, ho, hc, n, hd⟩ := pl
    exact wpAny_collect_seq a (.inr rfl) ho hc hd (fun h' hk => hR h' s.toks its hk rfl) (by rw [List.size_toArray]; exact sl_big (by omega))
  · subst hP
    exact ⟨sl_big (by omega), Tim.sa_ints hS⟩
  · subst hP
    have hp' : Srt.Pm ss.length p := by rw [hl]; exact hp
    have vv : ∀ l : List Nat, (∀ i ∈ l, i < ss.length) → Vals ((l.map fun i => ss.getD i 0).map V.int) (l.map fun i => its.getD i Value.none) := by
      intro l
      induction l with
      | nil => intro _; exact .nil
      | cons i l ih =>
        intro hh
        have hi : i < its.length := by have := hh i (List.mem_cons_self ..); omega
        obtain ⟨t, e⟩ := Tim.ints_at hS i _ (List.getElem?_eq_getElem hi)
        refine .cons ?_ (ih fun j hj => hh j (List.mem_cons_of_mem _ hj))
        show RelV (V.int (ss.getD i 0)) (its.getD i Value.none)
        rw [List.getD_eq_getElem?_getD (l := its), List.getElem?_eq_getElem hi]
        exact ⟨t, e⟩
    have hmem : ∀ i ∈ p.toList, i < ss.length := fun i hi => by
      have : i ∈ p := by simpa using hi
      have := hp'.perm.mem_iff.mp this
      simpa using this
    obtain ⟨hn, I2⟩ := one_new (tk := tk) (vs := (p.toList.map fun i => ss.getD i 0).map V.int) I hk hN (by rw [List.length_map, List.length_map, Array.length_toList, hp'.size]; exact sl_big h1k) ⟨_, c, vv p.toList hmem, hD⟩
    exact ⟨.ref h1.objs.size, _, I2, rfl, q _ _ hn (perm_getD' ss p hp') (srt_leI hp' (by rw [hl]; exact hs))⟩
/-- sorted of a list of pairs of whole numbers -/
theorem call_sortedPL {X : Cx} : CallR X (.builtin "sorted") (fun xs H Q => ∃ (a : Addr) (rs : List (Addr × Int × Int)), xs = [.ref a] ∧ SqL X.K H a (rs.map fun r => V.ref r.1) ∧ (∀ r ∈ rs, H r.1 = some (.tup [.int r.2.1, .int r.2.2])) ∧ rs.length ≤ 1000 ∧
    ∀ (p : Addr) (rs' : List (Addr × Int × Int)), H p = none → rs'.Perm rs → Q (.ref p) (upd H p (.lst (rs'.map fun r => V.ref r.1)))) := by
  intro pins s σ H xs us Q I r h
  obtain ⟨a, rs, rfl, hq, ht, h1k, q⟩ := h
  obtain ⟨u, rfl, ru⟩ := vals1 r
  cases ru
  obtain ⟨its, rv, pl, hz⟩ := I.list hq
  have hl := rv.length
  rw [List.length_map] at hl
  have iat : ∀ (i : Nat) (hi : i < rs.length), its[i]? = some (.ref rs[i].1) := fun i hi => by
    obtain ⟨u', hu, ru⟩ := rv.get (show (rs.map fun r => V.ref r.1)[i]? = some (V.ref rs[i].1) by rw [List.getElem?_map, List.getElem?_eq_getElem hi]; rfl)
    rw [hu]
    exact congrArg some ru
  have pr : ∀ (i : Nat) (v : Value) (x : Int × Int), its[i]? = some v → (rs.map (·.2))[i]? = some x → Tim.PrN s.heap v x := fun i v x e1 e2 => by
    have hi : i < rs.length := by have := (List.getElem?_eq_some_iff.mp e1).1; omega
    rw [iat i hi] at e1
    cases e1
    rw [List.getElem?_map, List.getElem?_eq_getElem hi] at e2
    cases e2
    have hy := ht rs[i] (List.getElem_mem hi)
    obtain ⟨_, jts, rj, ⟨o, g1, g2, n, g3⟩, _⟩ := (show ObjOk X.prog X.w H s.heap rs[i].1 (.tup [.int rs[i].2.1, .int rs[i].2.2]) from I.hok _ _ hy)
    obtain ⟨u1, u2, ej, r1, r2⟩ := vals2 rj
    obtain ⟨t, rfl⟩ := r1
    obtain ⟨t', rfl⟩ := r2
    exact ⟨rs[i].1, o, n, t, t', rfl, g1, g2, by rw [g3, ej]⟩
  have hS : ∀ {h1 : Heap}, (∀ b o, s.heap.get? b = some o → h1.get? b = some o) → Tim.SortAs X.prog X.w h1 its (Tim.ltP (rs.map (·.2))) (tuples' ((Value.type "int") != Value.type "tuple")) := fun hk => Tim.sa_nums (by rw [List.length_map]; omega) fun i v x e1 e2 => (pr i v x e1 e2).keep hk
  refine Tim.sorted_all (lt := Tim.ltP (rs.map (·.2))) (κ := tuples' ((Value.type "int") != Value.type "tuple")) (Pc := fun h1 vs => its = vs) (fun R hR => ?_) (fun h1 vs hk hP => ?_) fun h1 vs h3 tk c p hP hk k1 hk1 hp hs hD hN => ?_
  · exact collect_list pl.isList (hR _ s.toks its (fun b o e => (Heap.get?_update_other _ _ (Nat.ne_of_gt (Heap.lt_size e))).trans (Heap.get?_push_of_some _ e)) rfl) (sl_big (by omega))
  · subst hP
    exact ⟨sl_big (by omega), hS hk⟩
  · subst hP
    have hp' : Srt.Pm rs.length p := by rw [hl]; exact hp
    have vv : ∀ l : List Nat, (∀ i ∈ l, i < rs.length) → Vals ((l.map fun i => rs.getD i (0, 0, 0)).map fun r => V.ref r.1) (l.map fun i => its.getD i Value.none) := by
      intro l
      induction l with
      | nil => intro _; exact .nil
      | cons i l ih =>
        intro hh
        have hi : i < rs.length := hh i (List.mem_cons_self ..)
        refine .cons ?_ (ih fun j hj => hh j (List.mem_cons_of_mem _ hj))
        show its.getD i Value.none = Value.ref (rs.getD i (0, 0, 0)).1
        rw [List.getD_eq_getElem?_getD (l := its), iat i hi, List.getD_eq_getElem?_getD, List.getElem?_eq_getElem hi]
        rfl
    have hmem : ∀ i ∈ p.toList, i < rs.length := fun i hi => by
      have : i ∈ p := by simpa using hi
      have := hp'.perm.mem_iff.mp this
      simpa using this
    obtain ⟨hn, I2⟩ := one_new (tk := tk) (vs := (p.toList.map fun i => rs.getD i (0, 0, 0)).map fun r => V.ref r.1) I hk hN (by rw [List.length_map, List.length_map, Array.length_toList, hp'.size]; exact sl_big h1k) ⟨_, c, vv p.toList hmem, hD⟩
    exact ⟨.ref h1.objs.size, _, I2, rfl, q _ _ hn (perm_getD' rs p hp')⟩
end L2

set_option Elab.async false
set_option linter.all false
set_option maxRecDepth 100000
/-! own work: walks that take every tie once -/
namespace Sh
open PySem L2 PyProof.Rows
abbrev Ts := List (Str × Str)
def dl (a b : Str) : Int := if a = b then 1 else 0
theorem dl_self (a : Str) : dl a a = 1 := if_pos rfl
theorem dl_nn (a b : Str) : 0 ≤ dl a b := by unfold dl; split <;> omega
theorem dl_le (a b : Str) : dl a b ≤ 1 := by unfold dl; split <;> omega
def frm (ts : Ts) (i : Nat) : Str := (ts.getD i ("", "")).1
def tow (ts : Ts) (i : Nat) : Str := (ts.getD i ("", "")).2
def bal (ts : Ts) (X : List Nat) (p : Str) : Int := (X.map fun i => dl (frm ts i) p - dl (tow ts i) p).sum
theorem bal_nil (ts : Ts) (p : Str) : bal ts [] p = 0 := rfl
theorem bal_cons (ts : Ts) (i : Nat) (X : List Nat) (p : Str) : bal ts (i :: X) p = dl (frm ts i) p - dl (tow ts i) p + bal ts X p := by
  unfold bal
  rw [List.map_cons, List.sum_cons]
theorem bal_append (ts : Ts) (X Y : List Nat) (p : Str) : bal ts (X ++ Y) p = bal ts X p + bal ts Y p := by
  unfold bal
  rw [List.map_append, List.sum_append]
theorem bal_perm {ts : Ts} {X Y : List Nat} (h : X.Perm Y) (p : Str) : bal ts X p = bal ts Y p := by
  induction h with
  | nil => rfl
  | cons x _ ih => rw [bal_cons, bal_cons, ih]
  | swap x y l => rw [bal_cons, bal_cons, bal_cons, bal_cons]; omega
  | trans _ _ a b => exact a.trans b
inductive Ch (ts : Ts) : Str → List Nat → Str → Prop where
  | nil (u : Str) : Ch ts u [] u
  | cons {i : Nat} {X : List Nat} {u v : Str} (e : frm ts i = u) (h : Ch ts (tow ts i) X v) : Ch ts u (i :: X) v
theorem Ch.bal {ts : Ts} {u v : Str} {X : List Nat} (h : Ch ts u X v) (p : Str) : bal ts X p = dl u p - dl v p := by
  induction h with
  | nil u => rw [bal_nil]; omega
  | cons e h ih => rw [bal_cons, ih, e]; omega
theorem Ch.snoc {ts : Ts} {u v : Str} {X : List Nat} {i : Nat} (h : Ch ts u X v) (e : frm ts i = v) : Ch ts u (X ++ [i]) (tow ts i) := by
  induction h with
  | nil u => exact .cons e (.nil _)
  | cons e' h ih => exact .cons e' (ih e)
theorem Ch.pop {ts : Ts} {u v : Str} {i : Nat} : ∀ {X : List Nat}, Ch ts u (X ++ [i]) v → Ch ts u X (frm ts i) ∧ v = tow ts i
  | [], h => by
    cases h with
    | cons e h =>
      cases h
      exact ⟨e ▸ .nil _, rfl⟩
  | j :: X, h => by
    cases h with
    | cons e h =>
      obtain ⟨a, b⟩ := Ch.pop (X := X) h
      exact ⟨.cons e a, b⟩
theorem Ch.start {ts : Ts} {u w v : Str} {X : List Nat} (h : Ch ts u X v) (h' : Ch ts w X v) : u = w := by
  cases h with
  | nil u => cases h'; rfl
  | cons e _ => cases h' with | cons e' _ => exact e.symm.trans e'
def AdjT (ts : Ts) (P y : Str) : Prop := ∃ i, i < ts.length ∧ ((frm ts i = P ∧ tow ts i = y) ∨ (tow ts i = P ∧ frm ts i = y))
inductive RchT (ts : Ts) (a : Str) : Str → Prop where
  | here : RchT ts a a
  | step {P y : Str} (h : RchT ts a P) (k : AdjT ts P y) : RchT ts a y
theorem RchT.closed {ts : Ts} {a : Str} {F : Str → Prop} (ha : F a) (hc : ∀ P, F P → ∀ y, AdjT ts P y → F y) {y : Str} (h : RchT ts a y) : F y := by
  induction h with
  | here => exact ha
  | step _ k ih => exact hc _ ih _ k
def Deg (ts : Ts) (b f : Str) : Prop := ∀ p, bal ts (List.range ts.length) p = dl b p - dl f p
def Good (ts : Ts) (b : Str) : Prop := (∃ f, Deg ts b f) ∧ ∀ i, i < ts.length → RchT ts b (frm ts i)
def Eul (ts : Ts) (b : Str) (X : List Nat) : Prop := X.Perm (List.range ts.length) ∧ ∃ v, Ch ts b X v
theorem ch_rch {ts : Ts} {a u v : Str} {X : List Nat} (h : Ch ts u X v) : RchT ts a u → (∀ i ∈ X, i < ts.length) → ∀ i ∈ X, RchT ts a (frm ts i) := by
  induction h with
  | nil u => intro _ _ i hi; cases hi
  | @cons j X u v e h ih =>
    intro ha hX i hi
    rcases List.mem_cons.mp hi with z | z
    · rw [z, e]; exact ha
    · exact ih (.step ha ⟨j, hX j (List.mem_cons_self ..), .inl ⟨e, rfl⟩⟩) (fun k hk => hX k (List.mem_cons_of_mem _ hk)) i z
theorem Eul.good {ts : Ts} {b : Str} {X : List Nat} (h : Eul ts b X) : Good ts b := by
  obtain ⟨p, v, c⟩ := h
  refine ⟨⟨v, fun q => by rw [← bal_perm p]; exact c.bal q⟩, fun i hi => ?_⟩
  exact ch_rch c .here (fun j hj => List.mem_range.mp (p.mem_iff.mp hj)) i (p.mem_iff.mpr (List.mem_range.mpr hi))
theorem nodup_perm {X Y : List Nat} (h1 : X.Nodup) (h2 : Y.Nodup) (h : ∀ x, x ∈ X ↔ x ∈ Y) : X.Perm Y := by
  rw [List.perm_iff_count]
  intro a
  rw [h1.count, h2.count]
  by_cases c : a ∈ X
  · rw [if_pos c, if_pos ((h a).mp c)]
  · rw [if_neg c, if_neg (fun z => c ((h a).mpr z))]
theorem nat_le {F : List Nat} : ∀ {ks : List Nat}, F.Nodup → (∀ x ∈ F, x ∈ ks) → F.length ≤ ks.length := by
  induction F with
  | nil => exact fun _ _ => Nat.zero_le _
  | cons x F ih =>
    intro ks h1 h2
    have nd' := List.nodup_cons.mp h1
    have hx := h2 x (List.mem_cons_self ..)
    have := ih (ks := ks.erase x) nd'.2 fun y hy => (List.mem_erase_of_ne (fun (q : y = x) => nd'.1 (q ▸ hy))).mpr (h2 y (List.mem_cons_of_mem _ hy))
    rw [List.length_erase_of_mem hx] at this
    have hpos : 0 < ks.length := List.length_pos_of_mem hx
    rw [List.length_cons]
    omega
theorem nat_all {F ks : List Nat} (h1 : F.Nodup) (h2 : ∀ x ∈ F, x ∈ ks) (he : F.length = ks.length) : ∀ x ∈ ks, x ∈ F := by
  intro x hx
  apply Classical.byContradiction
  intro hn
  have := nat_le (ks := ks.erase x) h1 fun y hy => (List.mem_erase_of_ne (fun (q : y = x) => hn (q ▸ hy))).mpr (h2 y hy)
  rw [List.length_erase_of_mem hx] at this
  have hpos : 0 < ks.length := List.length_pos_of_mem hx
  omega
/-- what holds while the way is sought -/
structure WI (ts : Ts) (b pt : Str) (r : Str → List Nat) (G B : List Nat) : Prop where
  nd : (G ++ B).Nodup
  lt : ∀ i ∈ G ++ B, i < ts.length
  rnd : ∀ p, (r p).Nodup
  row : ∀ p i, i ∈ r p ↔ i < ts.length ∧ frm ts i = p ∧ i ∉ G ++ B
  chG : Ch ts b G pt
  chB : ∀ f, Deg ts b f → ∃ w, Ch ts w B.reverse f
  stk : ∀ i ∈ B, r (tow ts i) = []
theorem WI.start {ts : Ts} {b : Str} {r : Str → List Nat} (h1 : ∀ p, (r p).Nodup) (h2 : ∀ p i, i ∈ r p ↔ i < ts.length ∧ frm ts i = p) : WI ts b b r [] [] where
  nd := List.nodup_nil
  lt := fun i hi => by cases hi
  rnd := h1
  row := fun p i => by rw [h2]; simp
  chG := .nil _
  chB := fun f _ => ⟨f, .nil _⟩
  stk := fun i hi => by cases hi
def setR (r : Str → List Nat) (p : Str) (X : List Nat) : Str → List Nat := fun q => if q = p then X else r q
theorem WI.push {ts : Ts} {b pt : Str} {r : Str → List Nat} {G B X : List Nat} {i : Nat} (h : WI ts b pt r G B) (e : r pt = X ++ [i]) : WI ts b (tow ts i) (setR r pt X) (G ++ [i]) B := by
  have hi := (h.row pt i).mp (by rw [e]; simp)
  have hrn := h.rnd pt
  rw [e] at hrn
  have hiX : i ∉ X := fun z => (List.nodup_append.mp hrn).2.2 i z i (by simp) rfl
  have mm : ∀ j, j ∈ (G ++ [i]) ++ B ↔ j ∈ G ++ B ∨ j = i := fun j => by
    simp only [List.mem_append, List.mem_singleton]
    constructor
    · rintro ((z | z) | z)
      · exact .inl (.inl z)
      · exact .inr z
      · exact .inl (.inr z)
    · rintro ((z | z) | z)
      · exact .inl (.inl z)
      · exact .inr z
      · exact .inl (.inr z)
  refine ⟨?_, fun j hj => ?_, fun p => ?_, fun p j => ?_, h.chG.snoc hi.2.1, h.chB, fun j hj => ?_⟩
  · have pp : ((G ++ [i]) ++ B).Perm (i :: (G ++ B)) := by
      rw [List.append_assoc, List.singleton_append]
      exact List.perm_middle
    exact pp.nodup_iff.mpr (List.nodup_cons.mpr ⟨hi.2.2, h.nd⟩)
  · rcases (mm j).mp hj with z | z
    · exact h.lt j z
    · rw [z]; exact hi.1
  · unfold setR
    split
    · exact (List.nodup_append.mp hrn).1
    · exact h.rnd p
  · rw [mm]
    unfold setR
    by_cases c : p = pt
    · rw [if_pos c]
      have hr := h.row pt j
      rw [e, List.mem_append, List.mem_singleton] at hr
      subst c
      constructor
      · intro z
        obtain ⟨a1, a2, a3⟩ := hr.mp (.inl z)
        exact ⟨a1, a2, fun q => q.elim a3 fun w => hiX (w ▸ z)⟩
      · rintro ⟨a1, a2, a3⟩
        rcases hr.mpr ⟨a1, a2, fun q => a3 (.inl q)⟩ with z | z
        · exact z
        · exact absurd (.inr z) a3
    · rw [if_neg c, h.row]
      constructor
      · rintro ⟨a1, a2, a3⟩
        refine ⟨a1, a2, fun q => q.elim a3 fun w => c ?_⟩
        rw [← a2, w, hi.2.1]
      · rintro ⟨a1, a2, a3⟩
        exact ⟨a1, a2, fun q => a3 (.inl q)⟩
  · unfold setR
    have hs := h.stk j hj
    rw [if_neg (fun c => by rw [c, e] at hs; simp at hs)]
    exact hs
/-- who is stuck stands where the walk back begins -/
theorem WI.stuck {ts : Ts} {b pt w f : Str} {r : Str → List Nat} {G B : List Nat} (h : WI ts b pt r G B) (e : r pt = []) (d : Deg ts b f) (c : Ch ts w B.reverse f) : pt = w := by
  have hp : (List.range ts.length).Perm ((G ++ B) ++ (List.range ts.length).filter fun i => decide (i ∉ G ++ B)) := by
    refine nodup_perm List.nodup_range (List.nodup_append.mpr ⟨h.nd, List.nodup_range.filter _, fun a ha b' hb z => ?_⟩) fun x => ?_
    · subst z
      have := (List.mem_filter.mp hb).2
      simp only [decide_eq_true_eq] at this
      exact this ha
    · rw [List.mem_append, List.mem_filter, List.mem_range]
      constructor
      · intro hx
        by_cases cc : x ∈ G ++ B
        · exact .inl cc
        · exact .inr ⟨hx, decide_eq_true cc⟩
      · rintro (z | z)
        · exact h.lt x z
        · exact z.1
  have h1 := d pt
  rw [bal_perm hp, bal_append, bal_append, h.chG.bal, ← bal_perm (List.reverse_perm B), c.bal] at h1
  have h2 : ∀ L : List Nat, (∀ i ∈ L, frm ts i ≠ pt) → bal ts L pt ≤ 0 := by
    intro L
    induction L with
    | nil => intro _; rw [bal_nil]; omega
    | cons i L ih =>
      intro hL
      have a := ih fun j hj => hL j (List.mem_cons_of_mem _ hj)
      have b' : dl (frm ts i) pt = 0 := if_neg (hL i (List.mem_cons_self ..))
      have c' := dl_nn (tow ts i) pt
      rw [bal_cons]
      omega
  have h3 := h2 ((List.range ts.length).filter fun i => decide (i ∉ G ++ B)) fun i hi z => by
    obtain ⟨a1, a2⟩ := List.mem_filter.mp hi
    have := (h.row pt i).mpr ⟨List.mem_range.mp a1, z, by simpa using a2⟩
    rw [e] at this
    cases this
  rw [dl_self] at h1
  apply Classical.byContradiction
  intro hn
  have h4 : dl w pt = 0 := if_neg (fun z => hn z.symm)
  omega
theorem WI.pop {ts : Ts} {b pt : Str} {r : Str → List Nat} {X B : List Nat} {i : Nat} (h : WI ts b pt r (X ++ [i]) B) (e : r pt = []) : WI ts b (frm ts i) r X (B ++ [i]) := by
  obtain ⟨c1, c2⟩ := h.chG.pop
  have pp : (X ++ (B ++ [i])).Perm ((X ++ [i]) ++ B) := by
    rw [List.append_assoc]
    exact List.perm_append_comm.append_left _ |>.trans (List.Perm.refl _)
  refine ⟨pp.nodup_iff.mpr h.nd, fun j hj => h.lt j (pp.mem_iff.mp hj), h.rnd, fun p j => by rw [h.row, pp.mem_iff], c1, fun f d => ?_, fun j hj => ?_⟩
  · obtain ⟨w, c⟩ := h.chB f d
    have := h.stuck e d c
    rw [List.reverse_append, List.reverse_singleton, List.singleton_append]
    refine ⟨frm ts i, .cons rfl ?_⟩
    rw [← c2, this]
    exact c
  · rcases List.mem_append.mp hj with z | z
    · exact h.stk j z
    · rw [List.mem_singleton.mp z, ← c2]
      exact e
theorem WI.done {ts : Ts} {b pt : Str} {r : Str → List Nat} {B : List Nat} (h : WI ts b pt r [] B) (e : r pt = []) (g : Good ts b) : Eul ts b B.reverse := by
  obtain ⟨⟨f, d⟩, hr⟩ := g
  have hpt : b = pt := by cases h.chG; rfl
  subst hpt
  obtain ⟨w, c⟩ := h.chB f d
  have ew := h.stuck e d c
  subst ew
  have hnd := h.nd
  have hlt := h.lt
  rw [List.nil_append] at hnd hlt
  refine ⟨?_, f, c⟩
  -- whoever is met has nothing left
  let M : Str → Prop := fun p => p = b ∨ ∃ i ∈ B, tow ts i = p
  have hM : ∀ p, M p → r p = [] := fun p hp => by
    rcases hp with z | ⟨i, hi, z⟩
    · rw [z]; exact e
    · rw [← z]; exact h.stk i hi
  have hp : (List.range ts.length).Perm (B ++ (List.range ts.length).filter fun i => decide (i ∉ B)) := by
    refine nodup_perm List.nodup_range (List.nodup_append.mpr ⟨hnd, List.nodup_range.filter _, fun a ha b' hb z => ?_⟩) fun x => ?_
    · subst z
      have := (List.mem_filter.mp hb).2
      simp only [decide_eq_true_eq] at this
      exact this ha
    · rw [List.mem_append, List.mem_filter, List.mem_range]
      constructor
      · intro hx
        by_cases cc : x ∈ B
        · exact .inl cc
        · exact .inr ⟨hx, decide_eq_true cc⟩
      · rintro (z | z)
        · exact hlt x z
        · exact z.1
  have hz : ∀ p, bal ts ((List.range ts.length).filter fun i => decide (i ∉ B)) p = 0 := fun p => by
    have h1 := d p
    rw [bal_perm hp, bal_append, ← bal_perm (List.reverse_perm B), c.bal] at h1
    omega
  have key : ∀ p, M p → ∀ i, i < ts.length → (frm ts i = p ∨ tow ts i = p) → i ∈ B := fun p hp i hi ht => by
    apply Classical.byContradiction
    intro hn
    have hne : ∀ j, j < ts.length → j ∉ B → frm ts j ≠ p := fun j hj hjn z => by
      have := (h.row p j).mpr ⟨hj, z, by simpa using hjn⟩
      rw [hM p hp] at this
      cases this
    rcases ht with z | z
    · exact hne i hi hn z
    · have h2 : ∀ L : List Nat, (∀ j ∈ L, frm ts j ≠ p) → bal ts L p ≤ 0 ∧ (i ∈ L → bal ts L p < 0) := by
        intro L
        induction L with
        | nil => intro _; exact ⟨by rw [bal_nil]; omega, fun q => by cases q⟩
        | cons j L ih =>
          intro hL
          obtain ⟨a1, a2⟩ := ih fun k hk => hL k (List.mem_cons_of_mem _ hk)
          have b' : dl (frm ts j) p = 0 := if_neg (hL j (List.mem_cons_self ..))
          have c' := dl_nn (tow ts j) p
          rw [bal_cons]
          refine ⟨by omega, fun q => ?_⟩
          rcases List.mem_cons.mp q with q | q
          · subst q
            have : dl (tow ts i) p = 1 := if_pos z
            omega
          · have := a2 q
            omega
      have h3 := (h2 ((List.range ts.length).filter fun i => decide (i ∉ B)) fun j hj => by
        obtain ⟨a1, a2⟩ := List.mem_filter.mp hj
        exact hne j (List.mem_range.mp a1) (by simpa using a2)).2 (List.mem_filter.mpr ⟨List.mem_range.mpr hi, decide_eq_true hn⟩)
      rw [hz] at h3
      omega
  have hfr : ∀ u X v, Ch ts u X v → M u → (∀ j ∈ X, j ∈ B) → ∀ j ∈ X, M (frm ts j) := by
    intro u X v hc
    induction hc with
    | nil u => intro _ _ j hj; cases hj
    | @cons k X u v e' _ ih =>
      intro hu hX j hj
      rcases List.mem_cons.mp hj with z | z
      · rw [z, e']; exact hu
      · exact ih (.inr ⟨k, hX k (List.mem_cons_self ..), rfl⟩) (fun l hl => hX l (List.mem_cons_of_mem _ hl)) j z
  have hcl : ∀ P, M P → ∀ y, AdjT ts P y → M y := fun P hP y ⟨i, hi, q⟩ => by
    rcases q with ⟨q1, q2⟩ | ⟨q1, q2⟩
    · exact .inr ⟨i, key P hP i hi (.inl q1), q2⟩
    · have := key P hP i hi (.inr q1)
      rw [← q2]
      exact hfr _ _ _ c (.inl rfl) (fun j hj => List.mem_reverse.mp hj) i (List.mem_reverse.mpr this)
  refine nodup_perm ((List.reverse_perm B).nodup_iff.mpr hnd) List.nodup_range fun x => ?_
  rw [List.mem_reverse, List.mem_range]
  refine ⟨hlt x, fun hx => ?_⟩
  exact key _ (RchT.closed (F := M) (.inl rfl) hcl (hr x hx)) x hx (.inl rfl)
theorem WI.eul {ts : Ts} {b pt v : Str} {r : Str → List Nat} {B : List Nat} (h : WI ts b pt r [] B) (hl : B.length = ts.length) (c : Ch ts b B.reverse v) : Eul ts b B.reverse := by
  have hnd := h.nd
  have hlt := h.lt
  rw [List.nil_append] at hnd hlt
  refine ⟨?_, v, c⟩
  have hsub : ∀ x ∈ B, x ∈ List.range ts.length := fun x hx => List.mem_range.mpr (hlt x hx)
  refine (List.reverse_perm B).trans (nodup_perm hnd List.nodup_range fun x => ⟨hsub x, nat_all hnd hsub (by rw [List.length_range, hl]) x⟩)
end Sh

set_option Elab.async false
set_option linter.all false
set_option maxRecDepth 100000
/-! own work: the wlk as a function -/
namespace Sh
open PySem L2 PyProof.Rows
def rows (ts : Ts) (p : Str) : List Nat := ((List.range ts.length).filter fun i => decide (frm ts i = p)).reverse
theorem rows_nd (ts : Ts) (p : Str) : (rows ts p).Nodup := (List.reverse_perm _).nodup_iff.mpr (List.nodup_range.filter _)
theorem rows_mem (ts : Ts) (p : Str) (i : Nat) : i ∈ rows ts p ↔ i < ts.length ∧ frm ts i = p := by
  unfold rows
  rw [List.mem_reverse, List.mem_filter, List.mem_range, decide_eq_true_eq]
def wlk (ts : Ts) : Nat → (Str → List Nat) → Str → List Nat → List Nat → List Nat
  | 0, _, _, _, B => B
  | n + 1, r, pt, G, B => match (r pt).getLast? with
    | some i => wlk ts n (setR r pt (r pt).dropLast) (tow ts i) (G ++ [i]) B
    | none => match G.getLast? with
      | some i => wlk ts n r (frm ts i) G.dropLast (B ++ [i])
      | none => B
theorem walk_push {ts : Ts} {n : Nat} {r : Str → List Nat} {pt : Str} {G B X : List Nat} {i : Nat} (e : r pt = X ++ [i]) : wlk ts (n + 1) r pt G B = wlk ts n (setR r pt X) (tow ts i) (G ++ [i]) B := by
  rw [wlk, e]
  simp
theorem walk_pop {ts : Ts} {n : Nat} {r : Str → List Nat} {pt : Str} {X B : List Nat} {i : Nat} (e : r pt = []) : wlk ts (n + 1) r pt (X ++ [i]) B = wlk ts n r (frm ts i) X (B ++ [i]) := by
  rw [wlk, e]
  simp
theorem walk_end {ts : Ts} {n : Nat} {r : Str → List Nat} {pt : Str} {B : List Nat} (e : r pt = []) : wlk ts n r pt [] B = B := by
  cases n with
  | zero => rfl
  | succ n => rw [wlk, e]; rfl
def wayX (ts : Ts) (b : Str) : List Nat := (wlk ts (2 * ts.length) (rows ts) b [] []).reverse
theorem WI.len {ts : Ts} {b pt : Str} {r : Str → List Nat} {G B : List Nat} (h : WI ts b pt r G B) : G.length + B.length ≤ ts.length := by
  have := nat_le (ks := List.range ts.length) h.nd fun x hx => List.mem_range.mpr (h.lt x hx)
  rw [List.length_append, List.length_range] at this
  exact this
theorem WI.in_len {ts : Ts} {b pt : Str} {r : Str → List Nat} {G B : List Nat} (h : WI ts b pt r G B) (p : Str) : (r p).length ≤ ts.length := by
  have := nat_le (ks := List.range ts.length) (h.rnd p) fun x hx => List.mem_range.mpr ((h.row p x).mp hx).1
  rw [List.length_range] at this
  exact this
end Sh

set_option Elab.async false
set_option linter.all false
set_option maxRecDepth 100000
/-! own work: when there is a way -/
namespace Sh
open PySem L2 PyProof.Rows
def sumZ (ks : List Str) (f : Str → Int) : Int := (ks.map f).sum
theorem sumZ_cons (k : Str) (ks : List Str) (f : Str → Int) : sumZ (k :: ks) f = f k + sumZ ks f := by
  unfold sumZ
  rw [List.map_cons, List.sum_cons]
theorem sumZ_add (ks : List Str) (f g : Str → Int) : sumZ ks (fun p => f p + g p) = sumZ ks f + sumZ ks g := by
  induction ks with
  | nil => rfl
  | cons k ks ih => rw [sumZ_cons, sumZ_cons, sumZ_cons, ih]; omega
theorem sumZ_sub (ks : List Str) (f g : Str → Int) : sumZ ks (fun p => f p - g p) = sumZ ks f - sumZ ks g := by
  induction ks with
  | nil => rfl
  | cons k ks ih => rw [sumZ_cons, sumZ_cons, sumZ_cons, ih]; omega
theorem sumZ_le {ks : List Str} {f g : Str → Int} (h : ∀ p ∈ ks, f p ≤ g p) : sumZ ks f ≤ sumZ ks g := by
  induction ks with
  | nil => exact Int.le_refl _
  | cons k ks ih =>
    rw [sumZ_cons, sumZ_cons]
    have h1 := h k (List.mem_cons_self ..)
    have h2 := ih fun p hp => h p (List.mem_cons_of_mem _ hp)
    omega
theorem sumZ_zero (ks : List Str) : sumZ ks (fun _ => 0) = 0 := by
  induction ks with
  | nil => rfl
  | cons k ks ih => rw [sumZ_cons, ih]; omega
theorem sumZ_mem {ks : List Str} {f : Str → Int} (h : ∀ p ∈ ks, 0 ≤ f p) {p : Str} (hp : p ∈ ks) : f p ≤ sumZ ks f := by
  induction ks with
  | nil => cases hp
  | cons k ks ih =>
    rw [sumZ_cons]
    have h0 := h k (List.mem_cons_self ..)
    have h1 : 0 ≤ sumZ ks f := by
      have := sumZ_le (ks := ks) (f := fun _ => 0) (g := f) fun p hp => h p (List.mem_cons_of_mem _ hp)
      rw [sumZ_zero] at this
      exact this
    rcases List.mem_cons.mp hp with z | z
    · rw [z]; omega
    · have := ih (fun p hp => h p (List.mem_cons_of_mem _ hp)) z
      omega
theorem sumZ_mem2 {ks : List Str} {f : Str → Int} (h : ∀ p ∈ ks, 0 ≤ f p) {p q : Str} (hp : p ∈ ks) (hq : q ∈ ks) (hne : p ≠ q) : f p + f q ≤ sumZ ks f := by
  induction ks with
  | nil => cases hp
  | cons k ks ih =>
    rw [sumZ_cons]
    have hk : ∀ p ∈ ks, 0 ≤ f p := fun p hp => h p (List.mem_cons_of_mem _ hp)
    have h0 := h k (List.mem_cons_self ..)
    rcases List.mem_cons.mp hp with z | z
    · rcases List.mem_cons.mp hq with y | y
      · exact absurd (z.trans y.symm) hne
      · have := sumZ_mem hk y
        rw [z]; omega
    · rcases List.mem_cons.mp hq with y | y
      · have := sumZ_mem hk z
        rw [y]; omega
      · have := ih hk z y
        omega
theorem dl_out {a p : Str} (h : p ≠ a) : dl a p = 0 := if_neg fun e => h e.symm
theorem sumZ_dl {ks : List Str} (nd : ks.Nodup) {a : Str} (h : a ∈ ks) : sumZ ks (dl a) = 1 := by
  induction ks with
  | nil => cases h
  | cons k ks ih =>
    have nd' := List.nodup_cons.mp nd
    rw [sumZ_cons]
    rcases List.mem_cons.mp h with z | z
    · subst z
      have : sumZ ks (dl a) = 0 := by
        have e : ∀ p ∈ ks, dl a p = 0 := fun p hp => dl_out fun e => nd'.1 (e ▸ hp)
        have h1 := sumZ_le (f := dl a) (g := fun _ => 0) fun p hp => by rw [e p hp]; exact Int.le_refl _
        have h2 := sumZ_le (f := fun _ => 0) (g := dl a) fun p hp => by rw [e p hp]; exact Int.le_refl _
        rw [sumZ_zero] at h1 h2
        omega
      rw [this, dl_self]
      omega
    · rw [ih nd'.2 z, dl_out (fun e : k = a => nd'.1 (e ▸ z))]
      omega
/-- out less in, over all ties -/
abbrev mo (ts : Ts) (p : Str) : Int := bal ts (List.range ts.length) p
theorem sum_bal {ts : Ts} {ks : List Str} (nd : ks.Nodup) : ∀ X : List Nat, (∀ i ∈ X, frm ts i ∈ ks ∧ tow ts i ∈ ks) → sumZ ks (bal ts X) = 0
  | [], _ => sumZ_zero ks
  | i :: X, h => by
    obtain ⟨h1, h2⟩ := h i (List.mem_cons_self ..)
    have ih := sum_bal nd X fun j hj => h j (List.mem_cons_of_mem _ hj)
    have e : bal ts (i :: X) = fun p => (dl (frm ts i) p - dl (tow ts i) p) + bal ts X p := funext fun p => bal_cons ts i X p
    rw [e, sumZ_add, sumZ_sub, sumZ_dl nd h1, sumZ_dl nd h2, ih]
    rfl
theorem bal_out {ts : Ts} {p : Str} : ∀ X : List Nat, (∀ i ∈ X, frm ts i ≠ p ∧ tow ts i ≠ p) → bal ts X p = 0
  | [], _ => rfl
  | i :: X, h => by
    obtain ⟨h1, h2⟩ := h i (List.mem_cons_self ..)
    rw [bal_cons, bal_out X fun j hj => h j (List.mem_cons_of_mem _ hj)]
    unfold dl
    rw [if_neg h1, if_neg h2]
    rfl
def posZ (x : Int) : Int := if x > 0 then x else 0
theorem one_of {ks : List Str} (nd : ks.Nodup) {g : Str → Int} (h0 : ∀ p ∈ ks, 0 ≤ g p) (h1 : sumZ ks g = 1) : ∃ f ∈ ks, ∀ p ∈ ks, g p = dl f p := by
  have : ∃ f ∈ ks, 1 ≤ g f := by
    apply Classical.byContradiction
    intro hn
    have hz : ∀ p ∈ ks, g p ≤ 0 := fun p hp => by
      apply Classical.byContradiction
      intro c
      exact hn ⟨p, hp, by omega⟩
    have := sumZ_le (f := g) (g := fun _ => 0) hz
    rw [sumZ_zero] at this
    omega
  obtain ⟨f, hf, hg⟩ := this
  refine ⟨f, hf, fun p hp => ?_⟩
  by_cases c : p = f
  · subst c
    have := sumZ_mem h0 hp
    rw [dl_self]
    omega
  · have := sumZ_mem2 h0 hp hf c
    have := h0 p hp
    rw [dl_out c]
    omega
structure Kp (ts : Ts) (ks : List Str) : Prop where
  nd : ks.Nodup
  mem : ∀ p, p ∈ ks ↔ ∃ i, i < ts.length ∧ (frm ts i = p ∨ tow ts i = p)
theorem Kp.out {ts : Ts} {ks : List Str} (h : Kp ts ks) {p : Str} (hp : p ∉ ks) : mo ts p = 0 :=
  bal_out _ fun i hi => ⟨fun e => hp ((h.mem p).mpr ⟨i, List.mem_range.mp hi, .inl e⟩), fun e => hp ((h.mem p).mpr ⟨i, List.mem_range.mp hi, .inr e⟩)⟩
theorem Kp.total {ts : Ts} {ks : List Str} (h : Kp ts ks) : sumZ ks (mo ts) = 0 :=
  sum_bal h.nd _ fun i hi => ⟨(h.mem _).mpr ⟨i, List.mem_range.mp hi, .inl rfl⟩, (h.mem _).mpr ⟨i, List.mem_range.mp hi, .inr rfl⟩⟩
theorem good_begin {ts : Ts} {b : Str} {ks : List Str} (h : Kp ts ks) (hn : 0 < ts.length) (g : Good ts b) : b ∈ ks := by
  apply Classical.byContradiction
  intro hb
  have := g.2 0 hn
  have e := RchT.closed (F := fun y => y = b) rfl (fun P hP y hy => by
    obtain ⟨i, hi, q⟩ := hy
    refine absurd ((h.mem b).mpr ⟨i, hi, ?_⟩) hb
    rw [← hP]
    rcases q with q | q
    · exact .inl q.1
    · exact .inr q.1) this
  exact hb ((h.mem b).mpr ⟨0, hn, .inl e⟩)
theorem good_sum {ts : Ts} {b : Str} {ks : List Str} (h : Kp ts ks) (hn : 0 < ts.length) (g : Good ts b) : sumZ ks (fun p => posZ (mo ts p)) ≤ 1 := by
  obtain ⟨f, d⟩ := g.1
  have hb := good_begin h hn g
  rw [← sumZ_dl h.nd hb]
  refine sumZ_le fun p _ => ?_
  show posZ (mo ts p) ≤ dl b p
  unfold mo
  rw [d p]
  have h1 := dl_nn b p
  have h2 := dl_nn f p
  unfold posZ
  split <;> omega
theorem good_max {ts : Ts} {b p : Str} (g : Good ts b) (hp : mo ts p = 1) : mo ts b = 1 := by
  obtain ⟨f, d⟩ := g.1
  have h1 := d p
  unfold mo at hp
  rw [hp] at h1
  have h2 := dl_nn f p
  have h3 := dl_le b p
  have : b = p := by
    apply Classical.byContradiction
    intro c
    have : dl b p = 0 := if_neg c
    omega
  rw [this]
  exact hp
theorem good_all {ts : Ts} {b : Str} {ks : List Str} (h : Kp ts ks) (g : Good ts b) : ∀ p ∈ ks, RchT ts b p := fun p hp => by
  obtain ⟨i, hi, q⟩ := (h.mem p).mp hp
  rcases q with q | q
  · rw [← q]; exact g.2 i hi
  · exact .step (g.2 i hi) ⟨i, hi, .inl ⟨rfl, q⟩⟩
theorem good_of {ts : Ts} {b : Str} {ks : List Str} {M : Int} (h : Kp ts ks) (hb : b ∈ ks) (hs : sumZ ks (fun p => posZ (mo ts p)) ≤ 1) (hM : M ∈ ks.map (mo ts)) (hle : ∀ x ∈ ks.map (mo ts), x ≤ M) (h1 : M = 1 → mo ts b = 1) (hr : ∀ p ∈ ks, RchT ts b p) : Good ts b := by
  have hpos : ∀ p ∈ ks, 0 ≤ posZ (mo ts p) := fun p _ => by unfold posZ; split <;> omega
  have hle' : ∀ p ∈ ks, mo ts p ≤ M := fun p hp => hle _ (List.mem_map_of_mem hp)
  have tot := h.total
  refine ⟨?_, fun i hi => hr _ ((h.mem _).mpr ⟨i, hi, .inl rfl⟩)⟩
  by_cases c : M ≤ 0
  · refine ⟨b, fun p => ?_⟩
    show mo ts p = _
    rw [Int.sub_self]
    by_cases hp : p ∈ ks
    · have hn : ∀ q ∈ ks, 0 ≤ (fun q => 0 - mo ts q) q := fun q hq => by have := hle' q hq; show 0 ≤ 0 - mo ts q; omega
      have := sumZ_mem hn hp
      rw [sumZ_sub, sumZ_zero, tot] at this
      have h2 := hle' p hp
      have h3 : 0 - mo ts p ≤ 0 - 0 := this
      omega
    · exact h.out hp
  · obtain ⟨p0, hp0, e0⟩ := List.mem_map.mp hM
    have hM1 : M = 1 := by
      have := sumZ_mem hpos hp0
      have e : posZ (mo ts p0) = M := by rw [e0]; unfold posZ; rw [if_pos (by omega)]
      have h4 : posZ (mo ts p0) ≤ 1 := Int.le_trans this hs
      rw [e] at h4
      omega
    have hb1 := h1 hM1
    have eb : posZ (mo ts b) = 1 := by rw [hb1]; rfl
    have hoth : ∀ p ∈ ks, p ≠ b → mo ts p ≤ 0 := fun p hp hne => by
      have := sumZ_mem2 hpos hp hb hne
      have h4 : posZ (mo ts p) + posZ (mo ts b) ≤ 1 := Int.le_trans this hs
      rw [eb] at h4
      apply Classical.byContradiction
      intro c2
      have : posZ (mo ts p) = mo ts p := by unfold posZ; rw [if_pos (by omega)]
      omega
    obtain ⟨f, hf, hg⟩ := one_of h.nd (g := fun p => dl b p - mo ts p) (fun p hp => by
      show 0 ≤ dl b p - mo ts p
      by_cases c2 : p = b
      · subst c2
        rw [dl_self, hb1]
        decide
      · have := hoth p hp c2
        rw [dl_out c2]
        omega) (by rw [sumZ_sub, sumZ_dl h.nd hb, tot]; rfl)
    refine ⟨f, fun p => ?_⟩
    show mo ts p = _
    by_cases hp : p ∈ ks
    · have : dl b p - mo ts p = dl f p := hg p hp
      omega
    · rw [h.out hp, dl_out (fun e : p = b => hp (e ▸ hb)), dl_out (fun e : p = f => hp (e ▸ hf))]
      rfl
theorem good_nil {ts : Ts} {b : Str} (h : ts.length = 0) : Good ts b := by
  refine ⟨⟨b, fun p => ?_⟩, fun i hi => by omega⟩
  rw [h, Int.sub_self]
  rfl
/-! ### counting on -/
theorem mo_snoc {ts : Ts} {n : Nat} (p : Str) : bal ts (List.range (n + 1)) p = bal ts (List.range n) p + dl (frm ts n) p - dl (tow ts n) p := by
  rw [List.range_succ, bal_append, bal_cons, bal_nil]
  omega
end Sh

set_option Elab.async false
set_option linter.all false
set_option maxRecDepth 100000
namespace Sh
open PySem L2 PyProof.Rows
seal L2.PE L2.PS L2.PSs L2.PT L2.PW L2.PA L2.PI L2.PG L2.PGs L2.PO L2.PC L2.PCs L2.OpR L2.UnR L2.CallR L2.MtR L2.IxR L2.SlR
def top (i : Nat) : Stmt := PySem.Challenge.pw_shredjoin_k21_ways.main.body.getD i (.Pass ⟨0, 0, 0, 0⟩)
structure Blt (mg : Str → Option Value) : Prop where
  isi : mg "isinstance" = none
  int : mg "int" = none
  bool : mg "bool" = none
  tuple : mg "tuple" = none
  list : mg "list" = none
  len : mg "len" = none
  range : mg "range" = none
  max : mg "max" = none
  sorted : mg "sorted" = none
  sum : mg "sum" = none
/-- a number -/
abbrev nV (i : Nat) : V := V.int (i : Int)
/-- a tie: a tuple of three texts -/
def TieAt (H : Hp) (b : Addr) (t : Str × Str) : Prop := ∃ s : Str, H b = some (.tup [.str t.1, .str s, .str t.2])
def TyA (H : Hp) (vs : List V) (ts : Ts) : Prop := vs.length = ts.length ∧ ∀ (i : Nat) (t : Str × Str), ts[i]? = some t → ∃ b, vs[i]? = some (.ref b) ∧ TieAt H b t
def TiesV (H : Hp) (v : V) (ts : Ts) : Prop := ∃ a vs, v = .ref a ∧ SeqAt' H a vs ∧ TyA H vs ts
theorem TyA.same {H H' : Hp} {vs : List V} {ts : Ts} (h : TyA H vs ts) (s : Same H H') : TyA H' vs ts := ⟨h.1, fun i t e => by
  obtain ⟨b, e1, m, e2⟩ := h.2 i t e
  exact ⟨b, e1, m, s _ _ e2⟩⟩
theorem TiesV.same {H H' : Hp} {v : V} {ts : Ts} (h : TiesV H v ts) (s : Same H H') : TiesV H' v ts := by
  obtain ⟨a, vs, e, h1, h2⟩ := h
  exact ⟨a, vs, e, h1.same s, h2.same s⟩
theorem TyA.at {H : Hp} {vs : List V} {ts : Ts} (h : TyA H vs ts) {i : Nat} (hi : i < ts.length) : ∃ b s, atI vs (i : Int) = some (.ref b) ∧ H b = some (.tup [.str (frm ts i), .str s, .str (tow ts i)]) := by
  obtain ⟨b, e1, s, e2⟩ := h.2 i ts[i] (List.getElem?_eq_getElem hi)
  refine ⟨b, s, atI_nat' e1, ?_⟩
  unfold frm tow
  rw [List.getD_eq_getElem?_getD, List.getElem?_eq_getElem hi]
  exact e2
theorem at_last {xs : List V} {v : V} : atI (xs ++ [v]) (-1) = some v := by
  unfold atI ixN
  rw [if_neg (by decide), if_pos (by rw [List.length_append, List.length_singleton]; omega)]
  simp only [Option.bind_some, List.length_append, List.length_singleton]
  rw [show ((-1 : Int) + ((xs.length + 1 : Nat) : Int)).toNat = xs.length by omega]
  simp
def addK (ks : List Str) (x : Str) : List Str := if x ∈ ks then ks else ks ++ [x]
theorem addK_mem {ks : List Str} {x y : Str} : y ∈ addK ks x ↔ y ∈ ks ∨ y = x := by
  unfold addK
  split
  · rename_i h
    exact ⟨.inl, fun z => z.elim id fun e => e ▸ h⟩
  · simp
theorem addK_len (ks : List Str) (x : Str) : (addK ks x).length ≤ ks.length + 1 := by
  unfold addK
  split <;> simp
/-- a dict of lists -/
def rD (ks : List Str) (adr : Str → Addr) : List (Key × V) := ks.map fun x => ((Sum.inr x : Key), V.ref (adr x))
theorem rD_len (ks : List Str) (adr : Str → Addr) : (rD ks adr).length = ks.length := by unfold rD; rw [List.length_map]
theorem rD_val (ks : List Str) (adr : Str → Addr) (y : Str) : valV (rD ks adr) (Sum.inr y) = if y ∈ ks then some (.ref (adr y)) else none := valV_ks (fun x => V.ref (adr x)) y ks
theorem rD_new {ks : List Str} {adr : Str → Addr} {y : Str} {p : Addr} (h : y ∉ ks) : putK (rD ks adr) (Sum.inr y) (.ref p) = rD (ks ++ [y]) fun x => if x = y then p else adr x := by
  rw [putK_new _ (by rw [rD_val, if_neg h])]
  unfold rD
  rw [List.map_append, List.map_singleton]
  dsimp only
  rw [if_pos rfl]
  congr 1
  refine List.map_congr_left fun x hx => ?_
  rw [if_neg (fun e : x = y => h (e ▸ hx))]
/-- while the lists are made -/
structure NJ (H H2 : Hp) (d : Addr) (ks : List Str) (adr : Str → Addr) (r : Str → List Nat) : Prop where
  sm : Same H H2
  dn : H d = none
  dd : H2 d = some (.dK (rD ks adr))
  nd : ks.Nodup
  row : ∀ P ∈ ks, H2 (adr P) = some (.lst ((r P).map nV))
  fresh : ∀ P ∈ ks, H (adr P) = none
  inj : ∀ P ∈ ks, ∀ P' ∈ ks, adr P = adr P' → P = P'
  out : ∀ P, P ∉ ks → r P = []
def addR (r : Str → List Nat) (P : Str) (y : Nat) : Str → List Nat := fun x => if x = P then r P ++ [y] else r x
theorem NJ.ne {H H2 : Hp} {d : Addr} {ks : List Str} {adr : Str → Addr} {r : Str → List Nat} (J : NJ H H2 d ks adr r) {P : Str} (hP : P ∈ ks) : adr P ≠ d := fun e => by
  have := J.row P hP
  rw [e, J.dd] at this
  cases this
theorem NJ.old {H H2 : Hp} {d p : Addr} {ks : List Str} {adr : Str → Addr} {r : Str → List Nat} (J : NJ H H2 d ks adr r) {P : Str} {y : Nat} (hP : P ∈ ks) (hp : H2 p = none) :
    NJ H (upd (upd H2 p (.lst [])) (adr P) (.lst ((r P).map nV ++ [nV y]))) d (addK ks P) adr (addR r P y) := by
  have ek : addK ks P = ks := by unfold addK; rw [if_pos hP]
  rw [ek]
  have s1 := same_upd_new (o := .lst []) hp
  refine ⟨fun b u hb => ?_, J.dn, ?_, J.nd, fun Q hQ => ?_, J.fresh, J.inj, fun Q hQ => ?_⟩
  · rw [upd_ne fun e => by rw [e, J.fresh P hP] at hb; cases hb]
    exact s1 _ _ (J.sm b u hb)
  · rw [upd_ne (Ne.symm (J.ne hP))]
    exact s1 _ _ J.dd
  · unfold addR
    by_cases c : Q = P
    · subst c
      rw [upd_same, if_pos rfl, List.map_append]
      rfl
    · rw [if_neg c, upd_ne fun e => c (J.inj Q hQ P hP e)]
      exact s1 _ _ (J.row Q hQ)
  · unfold addR
    rw [if_neg (fun e : Q = P => hQ (e ▸ hP))]
    exact J.out Q hQ
theorem NJ.new {H H2 : Hp} {d p : Addr} {ks : List Str} {adr : Str → Addr} {r : Str → List Nat} (J : NJ H H2 d ks adr r) {P : Str} {y : Nat} (hP : P ∉ ks) (hp : H2 p = none) :
    NJ H (upd (upd (upd H2 p (.lst [])) d (.dK (rD (ks ++ [P]) fun x => if x = P then p else adr x))) p (.lst ([] ++ [nV y]))) d (addK ks P) (fun x => if x = P then p else adr x) (addR r P y) := by
  have ek : addK ks P = ks ++ [P] := by unfold addK; rw [if_neg hP]
  rw [ek]
  have hpd : d ≠ p := fun e => by rw [← e, J.dd] at hp; cases hp
  have hpa : ∀ Q ∈ ks, adr Q ≠ p := fun Q hQ e => by have := J.row Q hQ; rw [e, hp] at this; cases this
  have mm : ∀ Q, Q ∈ ks ++ [P] → Q ∈ ks ∨ Q = P := fun Q h => by simpa using h
  refine ⟨fun b u hb => ?_, J.dn, ?_, ?_, fun Q hQ => ?_, fun Q hQ => ?_, fun Q hQ Q' hQ' e => ?_, fun Q hQ => ?_⟩
  · have h2 := J.sm b u hb
    rw [upd_ne (ne_of_none h2 hp), upd_ne (ne_of_none hb J.dn), upd_ne (ne_of_none h2 hp)]
    exact h2
  · rw [upd_ne hpd, upd_same]
  · exact List.nodup_append.mpr ⟨J.nd, by simp, fun a ha b hb e => by rw [List.mem_singleton.mp hb] at e; subst e; exact hP ha⟩
  · unfold addR
    by_cases c : Q = P
    · subst c
      rw [if_pos rfl, if_pos rfl, upd_same, J.out Q hP]
      rfl
    · rw [if_neg c, if_neg c]
      have hQ' : Q ∈ ks := (mm Q hQ).resolve_right c
      rw [upd_ne (hpa Q hQ'), upd_ne (J.ne hQ'), upd_ne (hpa Q hQ')]
      exact J.row Q hQ'
  · skip
    by_cases c : Q = P
    · rw [if_pos c]
      cases hh : H p with
      | none => rfl
      | some u => have := J.sm p u hh; rw [hp] at this; cases this
    · rw [if_neg c]
      exact J.fresh Q ((mm Q hQ).resolve_right c)
  · skip
    by_cases c : Q = P
    · by_cases c' : Q' = P
      · rw [c, c']
      · rw [if_pos c, if_neg c'] at e
        exact absurd e.symm (hpa Q' ((mm Q' hQ').resolve_right c'))
    · by_cases c' : Q' = P
      · rw [if_neg c, if_pos c'] at e
        exact absurd e (hpa Q ((mm Q hQ).resolve_right c))
      · rw [if_neg c, if_neg c'] at e
        exact J.inj Q ((mm Q hQ).resolve_right c) Q' ((mm Q' hQ').resolve_right c') e
  · have h1 : Q ∉ ks := fun z => hQ (List.mem_append_left _ z)
    have h2 : ¬ Q = P := fun z => hQ (by simp [z])
    unfold addR
    rw [if_neg h2]
    exact J.out Q h1

def NoR (H : Hp) (v : V) (d : Addr) (ts : Ts) (j : Nat) : L2.St → Hp → Prop := fun σ H2 => (∃ z2 : Option V, σ = [some v, some (.ref d), z2]) ∧ ∃ ks adr r, NJ H H2 d ks adr r ∧ ks.length ≤ j ∧ ∀ P, r P = ((List.range' (ts.length - j) j).filter fun i => decide (frm ts i = P)).reverse
section
variable {P : Program} {w : World} {K : PySem.W.Frag} {mg : Str → Option Value} {base : Heap}
abbrev sNumbersOut : Stmt := top 1
abbrev nNumbersOut : List Str := ["ties", "numbers", "number"]
theorem scNumbersOut : FnScope nNumbersOut ["ties"] (defScope sNumbersOut) := ⟨rfl, rfl, rfl, by decide +kernel, rfl, by decide +kernel, by decide +kernel⟩
def spOut : Sp := fun vs H Q _ => ∃ (v : V) (ts : Ts), vs = [v] ∧ TiesV H v ts ∧ ts.length ≤ 400 ∧ ∀ d H' ks adr, NJ H H' d ks adr (rows ts) → Q (.ref d) H'
set_option maxHeartbeats 8000000 in
theorem ok_numbers_out (D : HasDef K mg "numbers_out" sNumbersOut ["ties"]) (B : Blt mg) : FOk P w K mg base 1 "numbers_out" ["ties"] spOut := by
  refine D.ok scNumbersOut (fun vs H Q E h => ?_) (fun f cdv A outer s H vs Q E hr h => ?_)
  · obtain ⟨v, ts, rfl, _⟩ := h
    rfl
  · obtain ⟨v, ts, rfl, hV, hlen, k⟩ := h
    obtain ⟨a, vs, rfl, hs, hty⟩ := id hV
    refine ⟨_, (pss_cons (ps_set (i := 1) scNumbersOut.nd rfl (Or.inl rfl) pe_dnewK)
      (pss_cons (ps_for PassesOwn.never rfl (pi_rangeD rfl B.range (pa_cons (pe_op op_sub (pe_callB call_len rfl B.len b_len (pa_cons (pv 0) pa_nil)) pe_int) (pa_cons (pe_un un_neg pe_int) (pa_cons (pe_un un_neg pe_int) pa_nil)))) (pg_name (i := 2) scNumbersOut.nd rfl (Or.inl rfl))
        (pss_one (ps_expr (pe_bm F.plainAttrs_list F.slot_list_append F.type_list_append mt_appendR (pe_dset (pv 1) (pe_ix ix_tup (pe_ix (ix_seqK K) (pv 0) (pv 2) (fun _ _ => rfl)) pe_int (fun _ _ => rfl)) (pe_lst pa_nil) ⟨rfl, rfl, rfl, rfl⟩) (pa_cons (pv 2) pa_nil)))))
      (pss_one (ps_ret (pv 1))))), ?_⟩
    intro d hd
    have s1 := same_upd_new (o := .dK []) hd
    have hvl := hty.1
    refine ⟨_, rfl, .ref a, _, rfl, len_seq (hs.same s1), _, _, rfl, rfl, _, rfl, _, rfl, _, _, rfl, ⟨by omega, by omega, by decide, by decide⟩, ?_⟩
    rw [show ((vs.length : Int) - 1 - (-1)).toNat = ts.length by omega]
    refine for_rangeD (fun j σ H2 => NoR H (.ref a) d ts j σ H2) ⟨⟨none, rfl⟩, [], fun _ => d, fun _ => [], ⟨s1, hd, upd_same, List.nodup_nil, (fun P h => by cases h), (fun P h => by cases h), (fun P h => by cases h), fun _ _ => rfl⟩, Nat.le_refl _, fun P => by simp⟩ ?_ ?_
    · rintro j σ H2 hj ⟨⟨z2, rfl⟩, ks, adr, r, J, hkl, hr2⟩
      have hi : ts.length - 1 - j < ts.length := by omega
      obtain ⟨b, sg, e1, e2⟩ := hty.at hi
      have ej : ((vs.length : Int) - 1 - (j : Int)) = ((ts.length - 1 - j : Nat) : Int) := by omega
      have hrl : ∀ P, (r P).length ≤ j := fun P => by
        rw [hr2, List.length_reverse]
        have := List.length_filter_le (fun i => decide (frm ts i = P)) (List.range' (ts.length - j) j)
        rw [List.length_range'] at this
        exact this
      have eR : List.range' (ts.length - (j + 1)) (j + 1) = (ts.length - 1 - j) :: List.range' (ts.length - j) j := by
        rw [List.range'_succ, show ts.length - (j + 1) = ts.length - 1 - j by omega, show ts.length - 1 - j + 1 = ts.length - j by omega]
      have fin : ∀ H4 adr4, NJ H H4 d (addK ks (frm ts (ts.length - 1 - j))) adr4 (addR r (frm ts (ts.length - 1 - j)) (ts.length - 1 - j)) → NoR H (.ref a) d ts (j + 1) [some (.ref a), some (.ref d), some (.int ((vs.length : Int) - 1 - (j : Int)))] H4 := fun H4 adr4 J4 => by
        refine ⟨⟨_, rfl⟩, _, adr4, _, J4, ?_, fun P => ?_⟩
        · have := addK_len ks (frm ts (ts.length - 1 - j))
          omega
        · rw [eR, List.filter_cons]
          unfold addR
          by_cases c : P = frm ts (ts.length - 1 - j)
          · rw [if_pos c, if_pos (decide_eq_true c.symm), List.reverse_cons, ← c, hr2]
          · rw [if_neg c, if_neg (fun z => c (of_decide_eq_true z).symm), hr2]
      refine ⟨_, rfl, d, rfl, .inl ⟨_, .inl J.dd⟩, _, rfl, _, rfl, ?_⟩
      rw [ej]
      refine seq_ix ((hs.same J.sm)) e1 ⟨b, _, 0, .str (frm ts (ts.length - 1 - j)), rfl, rfl, SqT.of (J.sm _ _ e2), rfl, few_size (show 0 ≤ 1000 by decide), fun p hp => ?_⟩
      rw [← ej]
      refine ⟨_, Sum.inr (frm ts (ts.length - 1 - j)), same_upd_new hp _ _ J.dd, rfl, by rw [rD_len]; exact small1000 (by omega), fun v hv => ?_, fun hv => ?_⟩
      · rw [rD_val] at hv
        by_cases c : frm ts (ts.length - 1 - j) ∈ ks
        · rw [if_pos c] at hv
          cases hv
          have hrow := same_upd_new (o := .lst []) hp _ _ (J.row _ c)
          refine ⟨.inl ⟨rfl, _, SqL.of hrow⟩, _, rfl, adr _, _, .int ((vs.length : Int) - 1 - (j : Int)), rfl, rfl, hrow, ?_, ?_⟩
          · rw [List.length_map]
            have := hrl (frm ts (ts.length - 1 - j))
            exact small1000 (by omega)
          · have := fin _ _ (J.old (y := ts.length - 1 - j) c hp)
            rw [ej] at this ⊢
            exact this
        · rw [if_neg c] at hv
          cases hv
      · rw [rD_val] at hv
        by_cases c : frm ts (ts.length - 1 - j) ∈ ks
        · rw [if_pos c] at hv
          cases hv
        · have hpd : p ≠ d := fun e => by rw [e, J.dd] at hp; cases hp
          rw [rD_new c]
          have hl : (upd (upd H2 p (.lst [])) d (.dK (rD (ks ++ [frm ts (ts.length - 1 - j)]) fun x => if x = frm ts (ts.length - 1 - j) then p else adr x))) p = some (.lst []) := by rw [upd_ne hpd, upd_same]
          refine ⟨.inl ⟨rfl, _, SqL.of hl⟩, _, rfl, p, [], .int ((vs.length : Int) - 1 - (j : Int)), rfl, rfl, hl, small1000 (by decide), ?_⟩
          have := fin _ _ (J.new (y := ts.length - 1 - j) c hp)
          rw [ej] at this ⊢
          exact this
    · rintro σ H2 ⟨⟨z2, rfl⟩, ks, adr, r, J, hkl, hr2⟩
      have er : r = rows ts := funext fun P => by
        rw [hr2, Nat.sub_self]
        unfold rows
        rw [List.range_eq_range']
      rw [er] at J
      exact ⟨_, rfl, k d H2 ks adr J⟩

/-- a tuple of numbers -/
def TupN (H : Hp) (v : V) (X : List Nat) : Prop := ∃ q, v = .ref q ∧ H q = some (.tup (X.map nV))
theorem ch_pre {ts : Ts} {u : Str} : ∀ {Y X : List Nat}, (∃ v, Ch ts u (X ++ Y) v) → ∃ v, Ch ts u X v
  | [], X, h => by rw [List.append_nil] at h; exact h
  | y :: Y, X, h => by
    rw [show X ++ y :: Y = (X ++ [y]) ++ Y by simp] at h
    obtain ⟨v, h⟩ := ch_pre (Y := Y) h
    exact ⟨_, h.pop.1⟩
theorem Ch.det {ts : Ts} {u v w : Str} {X : List Nat} (h : Ch ts u X v) (h' : Ch ts u X w) : v = w := by
  induction h with
  | nil u => cases h'; rfl
  | cons e h ih => cases h' with | cons e' h' => exact ih h'
abbrev sIsWay : Stmt := top 2
abbrev nIsWay : List Str := ["ties", "begin", "numbers", "point", "number"]
theorem scIsWay : FnScope nIsWay ["ties", "begin", "numbers"] (defScope sIsWay) := ⟨rfl, rfl, rfl, by decide +kernel, rfl, by decide +kernel, by decide +kernel⟩
def spIsWay : Sp := fun vs H Q _ => ∃ (v x : V) (b : Str) (ts : Ts) (X : List Nat), vs = [v, .str b, x] ∧ TiesV H v ts ∧ TupN H x X ∧ (∀ i ∈ X, i < ts.length) ∧ ∀ c : Bool, (c = true ↔ X.length = ts.length ∧ ∃ f, Ch ts b X f) → Q (.bl c) H
set_option maxHeartbeats 8000000 in
theorem ok_is_way (D : HasDef K mg "is_way" sIsWay ["ties", "begin", "numbers"]) (B : Blt mg) : FOk P w K mg base 1 "is_way" ["ties", "begin", "numbers"] spIsWay := by
  refine D.ok scIsWay (fun vs H Q E h => ?_) (fun f cdv A outer s H vs Q E hr h => ?_)
  · obtain ⟨v, x, b, ts, X, rfl, _⟩ := h
    rfl
  · obtain ⟨v, x, b, ts, X, rfl, ⟨a, vs, rfl, hs, hty⟩, ⟨q, rfl, hq⟩, hX, k⟩ := h
    refine ⟨_, (pss_cons (ps_if (pt_cmpR op_ne (pe_callB call_len rfl B.len b_len (pa_cons (pv 2) pa_nil)) (pe_callB call_len rfl B.len b_len (pa_cons (pv 0) pa_nil)) (nomark _)) (pss_one (ps_ret pe_bl)) pss_nil)
      (pss_cons (ps_set (i := 3) scIsWay.nd rfl (Or.inl rfl) (pv 1))
      (pss_cons (ps_for PassesOwn.never rfl (pi_tup (pv 2)) (pg_name (i := 4) scIsWay.nd rfl (Or.inl rfl))
        (pss_cons (ps_if (pt_cmpR op_ne (pe_ix ix_tup (pe_ix (ix_seqK K) (pv 0) (pv 4) (fun _ _ => rfl)) pe_int (fun _ _ => rfl)) (pv 3) (nomark _)) (pss_one (ps_ret pe_bl)) pss_nil)
      (pss_one (ps_set (i := 3) scIsWay.nd rfl (Or.inl rfl) (pe_ix ix_tup (pe_ix (ix_seqK K) (pv 0) (pv 4) (fun _ _ => rfl)) pe_int (fun _ _ => rfl))))))
      (pss_one (ps_ret pe_bl))))), ?_⟩
    refine ⟨_, rfl, .ref q, _, rfl, .inr ⟨_, SqT.of hq, rfl⟩, _, rfl, .ref a, _, rfl, len_seq hs, rfl, _, rfl, ?_⟩
    rw [List.length_map, hty.1]
    by_cases cl : X.length = ts.length
    · refine iteM (by rw [int_is (by rw [cl])]; rfl) ?_
      refine ⟨_, rfl, _, rfl, q, rfl, ⟨_, SqT.of hq⟩, for_tup (K := K) (a := q) (xs := X.map nV) (fun i σ H2 => (∃ (pt : Str) (z : Option V), σ = [some (.ref a), some (.str b), some (.ref q), some (.str pt), z] ∧ Ch ts b (X.take i) pt) ∧ H2 = H)
        ⟨⟨b, none, rfl, .nil _⟩, rfl⟩ (fun i σ H2 _ ⟨_, e⟩ => by rw [e]; exact SqT.of hq) ?_ ?_⟩
      · rintro i x σ H2 hi ⟨⟨pt, z, rfl, hc⟩, rfl⟩
        obtain ⟨hi', rfl⟩ := step_mapV hi
        have hin := hX X[i] (List.getElem_mem hi')
        obtain ⟨b0, sg, e1, e2⟩ := hty.at hin
        have etk : X.take (i + 1) = X.take i ++ [X[i]] := List.take_succ_eq_append_getElem hi'
        refine ⟨_, rfl, _, rfl, seq_ix hs e1 ⟨b0, _, 0, .str (frm ts X[i]), rfl, rfl, SqT.of e2, rfl, _, rfl, rfl, _, rfl, ?_⟩⟩
        by_cases cf : frm ts X[i] = pt
        · refine iteM (by rw [cf]; simp) ?_
          refine ⟨_, rfl, _, rfl, seq_ix hs e1 ⟨b0, _, 2, .str (tow ts X[i]), rfl, rfl, SqT.of e2, rfl, ?_⟩⟩
          exact ⟨⟨tow ts X[i], _, rfl, by rw [etk]; exact hc.snoc cf⟩, rfl⟩
        · refine iteP (by simp [cf]) (k false ⟨fun z => (by cases z), fun z => ?_⟩)
          obtain ⟨_, f, hf⟩ := z
          have := ch_pre (ts := ts) (u := b) (X := X.take (i + 1)) (Y := X.drop (i + 1)) ⟨f, by rw [List.take_append_drop]; exact hf⟩
          obtain ⟨f', hf'⟩ := this
          rw [etk] at hf'
          exact absurd (hf'.pop.1.det hc) cf
      · rintro σ H2 ⟨⟨pt, z, rfl, hc⟩, rfl⟩
        rw [List.length_map, List.take_length] at hc
        exact k true ⟨fun _ => ⟨cl, pt, hc⟩, fun _ => rfl⟩
    · refine iteP (by rw [int_ne (by omega)]; rfl) (k false ⟨fun z => (by cases z), fun z => absurd z.1 cl⟩)
end
end Sh

set_option Elab.async false
set_option linter.all false
set_option maxRecDepth 100000
namespace Sh
open PySem L2 PyProof.Rows
seal L2.PE L2.PS L2.PSs L2.PT L2.PW L2.PA L2.PI L2.PG L2.PGs L2.PO L2.PC L2.PCs L2.OpR L2.UnR L2.CallR L2.MtR L2.IxR L2.SlR
/-- while the way is sought -/
structure WJ (H : Hp) (d g bk : Addr) (ks : List Str) (adr : Str → Addr) (H4 : Hp) (r : Str → List Nat) (G B : List Nat) : Prop where
  sm : Same H H4
  dd : H4 d = some (.dK (rD ks adr))
  row : ∀ P ∈ ks, H4 (adr P) = some (.lst ((r P).map nV))
  gg : H4 g = some (.lst (G.map nV))
  bb : H4 bk = some (.lst (B.map nV))
  gn : H g = none
  bn : H bk = none
  fresh : ∀ P ∈ ks, H (adr P) = none
  inj : ∀ P ∈ ks, ∀ P' ∈ ks, adr P = adr P' → P = P'
  ag : ∀ P ∈ ks, adr P ≠ g
  ab : ∀ P ∈ ks, adr P ≠ bk
  gb : g ≠ bk
  out : ∀ P, P ∉ ks → r P = []
theorem WJ.same {H H4 H5 : Hp} {d g bk : Addr} {ks : List Str} {adr : Str → Addr} {r : Str → List Nat} {G B : List Nat} (J : WJ H d g bk ks adr H4 r G B) (s : Same H4 H5) : WJ H d g bk ks adr H5 r G B where
  sm := J.sm.trans s
  dd := s _ _ J.dd
  row := fun P hP => s _ _ (J.row P hP)
  gg := s _ _ J.gg
  bb := s _ _ J.bb
  gn := J.gn
  bn := J.bn
  fresh := J.fresh
  inj := J.inj
  ag := J.ag
  ab := J.ab
  gb := J.gb
  out := J.out
theorem WJ.setRow {H H4 : Hp} {d g bk : Addr} {ks : List Str} {adr : Str → Addr} {r : Str → List Nat} {G B X : List Nat} {pt : Str} (J : WJ H d g bk ks adr H4 r G B) (hp : pt ∈ ks) : WJ H d g bk ks adr (upd H4 (adr pt) (.lst (X.map nV))) (setR r pt X) G B where
  sm := fun b u hb => by
    rw [upd_ne (ne_of_none hb (J.fresh pt hp))]
    exact J.sm b u hb
  dd := by
    rw [upd_ne (ne_of J.dd (J.row pt hp) (by simp))]
    exact J.dd
  row := fun P hP => by
    unfold setR
    by_cases c : P = pt
    · subst c
      rw [if_pos rfl, upd_same]
    · rw [if_neg c, upd_ne (fun e => c (J.inj P hP pt hp e))]
      exact J.row P hP
  gg := by
    rw [upd_ne (Ne.symm (J.ag pt hp))]
    exact J.gg
  bb := by
    rw [upd_ne (Ne.symm (J.ab pt hp))]
    exact J.bb
  gn := J.gn
  bn := J.bn
  fresh := J.fresh
  inj := J.inj
  ag := J.ag
  ab := J.ab
  gb := J.gb
  out := fun P hP => by
    unfold setR
    rw [if_neg (fun e : P = pt => hP (e ▸ hp))]
    exact J.out P hP
theorem WJ.setG {H H4 : Hp} {d g bk : Addr} {ks : List Str} {adr : Str → Addr} {r : Str → List Nat} {G B X : List Nat} (J : WJ H d g bk ks adr H4 r G B) : WJ H d g bk ks adr (upd H4 g (.lst (X.map nV))) r X B where
  sm := fun b u hb => by
    rw [upd_ne (ne_of_none hb J.gn)]
    exact J.sm b u hb
  dd := by
    rw [upd_ne (ne_of J.dd J.gg (by simp))]
    exact J.dd
  row := fun P hP => by
    rw [upd_ne (J.ag P hP)]
    exact J.row P hP
  gg := upd_same
  bb := by
    rw [upd_ne (Ne.symm J.gb)]
    exact J.bb
  gn := J.gn
  bn := J.bn
  fresh := J.fresh
  inj := J.inj
  ag := J.ag
  ab := J.ab
  gb := J.gb
  out := J.out
theorem WJ.setB {H H4 : Hp} {d g bk : Addr} {ks : List Str} {adr : Str → Addr} {r : Str → List Nat} {G B X : List Nat} (J : WJ H d g bk ks adr H4 r G B) : WJ H d g bk ks adr (upd H4 bk (.lst (X.map nV))) r G X where
  sm := fun b u hb => by
    rw [upd_ne (ne_of_none hb J.bn)]
    exact J.sm b u hb
  dd := by
    rw [upd_ne (ne_of J.dd J.bb (by simp))]
    exact J.dd
  row := fun P hP => by
    rw [upd_ne (J.ab P hP)]
    exact J.row P hP
  gg := by
    rw [upd_ne J.gb]
    exact J.gg
  bb := upd_same
  gn := J.gn
  bn := J.bn
  fresh := J.fresh
  inj := J.inj
  ag := J.ag
  ab := J.ab
  gb := J.gb
  out := J.out
theorem WJ.got {H H4 : Hp} {d g bk p : Addr} {ks : List Str} {adr : Str → Addr} {r : Str → List Nat} {G B : List Nat} (J : WJ H d g bk ks adr H4 r G B) (pt : Str) (hp : H4 p = none) : ∃ l, (valV (rD ks adr) (Sum.inr pt : Key)).getD (.ref p) = .ref l ∧ (upd H4 p (.lst [])) l = some (.lst ((r pt).map nV)) := by
  rw [rD_val]
  by_cases c : pt ∈ ks
  · rw [if_pos c]
    exact ⟨_, rfl, same_upd_new hp _ _ (J.row pt c)⟩
  · rw [if_neg c]
    exact ⟨p, rfl, by rw [upd_same, J.out pt c]; rfl⟩
section
variable {P : Program} {w : World} {K : PySem.W.Frag} {mg : Str → Option Value} {base : Heap}
abbrev sWayOf : Stmt := top 3
abbrev nWayOf : List Str := ["ties", "begin", "left", "gone", "backwards", "point", "numbers"]
theorem scWayOf : FnScope nWayOf ["ties", "begin"] (defScope sWayOf) := ⟨rfl, rfl, rfl, by decide +kernel, rfl, by decide +kernel, by decide +kernel⟩
def spWay : Sp := fun vs H Q _ => ∃ (v : V) (b : Str) (ts : Ts), vs = [v, .str b] ∧ TiesV H v ts ∧ ts.length ≤ 400 ∧ (Eul ts b (wayX ts b) → ∀ x H', Same H H' → TupN H' x (wayX ts b) → Q x H') ∧ (¬ Good ts b → ∀ H', Same H H' → Q .non H')
set_option maxHeartbeats 16000000 in
theorem ok_way_of (D : HasDef K mg "way_of" sWayOf ["ties", "begin"]) (B : Blt mg) (G_numbers_out : FOk P w K mg base 1 "numbers_out" ["ties"] spOut) (G_is_way : FOk P w K mg base 1 "is_way" ["ties", "begin", "numbers"] spIsWay) : FOk P w K mg base 2 "way_of" ["ties", "begin"] spWay := by
  refine D.ok scWayOf (fun vs H Q E h => ?_) (fun f cdv A outer s H vs Q E hr h => ?_)
  · obtain ⟨v, b, ts, rfl, _⟩ := h
    rfl
  · obtain ⟨v, b, ts, rfl, hV, hlen, k1, k2⟩ := h
    have hu := hu_of hr
    obtain ⟨a, vs, rfl, hs, hty⟩ := id hV
    refine ⟨_, (pss_cons (ps_set (i := 2) scWayOf.nd rfl (Or.inl rfl) (pe_fn G_numbers_out hr (pa_cons (pv 0) pa_nil)))
      (pss_cons (ps_set (i := 3) scWayOf.nd rfl (Or.inl rfl) (pe_lst pa_nil))
      (pss_cons (ps_set (i := 4) scWayOf.nd rfl (Or.inl rfl) (pe_lst pa_nil))
      (pss_cons (ps_set (i := 5) scWayOf.nd rfl (Or.inl rfl) (pv 1))
      (pss_cons (ps_while PassesOwn.never (PW.pt (pw_or (pt_cmpR op_gt (pe_callB call_len rfl B.len b_len (pa_cons (pe_dget2 hu (pv 2) (pv 5) (pe_lst pa_nil) ⟨rfl, rfl, rfl, rfl⟩) pa_nil)) pe_int (nomark _)) (pw_or1 (pt_cmpR op_gt (pe_callB call_len rfl B.len b_len (pa_cons (pv 3) pa_nil)) pe_int (nomark _)))))
        (pss_one (ps_if (pt_cmpR op_gt (pe_callB call_len rfl B.len b_len (pa_cons (pe_dget2 hu (pv 2) (pv 5) (pe_lst pa_nil) ⟨rfl, rfl, rfl, rfl⟩) pa_nil)) pe_int (nomark _)) (pss_cons (ps_expr (pe_bm F.plainAttrs_list F.slot_list_append F.type_list_append mt_appendR (pv 3) (pa_cons (pe_bm0 F.plainAttrs_list F.slot_list_pop F.type_list_pop mt_popR (pe_dget hu (pv 2) (pv 5) (fun _ _ => rfl))) pa_nil)))
      (pss_one (ps_set (i := 5) scWayOf.nd rfl (Or.inl rfl) (pe_ix ix_tup (pe_ix (ix_seqK K) (pv 0) (pe_ix ix_list (pv 3) (pe_un un_neg pe_int) (fun _ _ => rfl)) (fun _ _ => rfl)) pe_int (fun _ _ => rfl))))) (pss_cons (ps_expr (pe_bm F.plainAttrs_list F.slot_list_append F.type_list_append mt_appendR (pv 4) (pa_cons (pe_bm0 F.plainAttrs_list F.slot_list_pop F.type_list_pop mt_popR (pv 3)) pa_nil)))
      (pss_one (ps_set (i := 5) scWayOf.nd rfl (Or.inl rfl) (pe_ix ix_tup (pe_ix (ix_seqK K) (pv 0) (pe_ix ix_list (pv 4) (pe_un un_neg pe_int) (fun _ _ => rfl)) (fun _ _ => rfl)) pe_int (fun _ _ => rfl))))))))
      (pss_cons (ps_set (i := 6) scWayOf.nd rfl (Or.inl rfl) (pe_callTy call_tuple_of rfl B.tuple b_tuple (pa_cons (pe_rev (pv 4) (pe_un un_neg pe_int)) pa_nil)))
      (pss_cons (ps_if (pt_val (pe_fn G_is_way hr (pa_cons (pv 0) (pa_cons (pv 1) (pa_cons (pv 6) pa_nil))))) (pss_one (ps_ret (pv 6))) pss_nil)
      (pss_one (ps_ret pe_non))))))))), ?_⟩
    refine ⟨_, rfl, .ref a, ts, rfl, hV, hlen, fun d H1 ks adr J => ?_⟩
    refine ⟨few_size (show 0 ≤ 1000 by decide), fun g hg => ?_⟩
    refine ⟨few_size (show 0 ≤ 1000 by decide), fun bk hbk => ?_⟩
    have hgb : g ≠ bk := fun e => by rw [← e, upd_same] at hbk; cases hbk
    have hbk1 : H1 bk = none := by rw [upd_ne (Ne.symm hgb)] at hbk; exact hbk
    have W0 : WJ H d g bk ks adr (upd (upd H1 g (.lst [])) bk (.lst [])) (rows ts) [] [] := by
      have ss := (same_upd_new (o := .lst []) hg).trans (same_upd_new (o := .lst []) hbk)
      exact ⟨J.sm.trans ss, ss _ _ J.dd, fun P hP => ss _ _ (J.row P hP), by rw [upd_ne hgb, upd_same]; rfl, upd_same, J.sm.free hg, J.sm.free hbk1, J.fresh, J.inj, (fun P hP e => by have := J.row P hP; rw [e, hg] at this; cases this), (fun P hP e => by have := J.row P hP; rw [e, hbk1] at this; cases this), hgb, J.out⟩
    generalize upd (upd H1 g (.lst [])) bk (.lst []) = H3 at W0
    refine ⟨_, rfl, ?_⟩
    try dsimp only [gName]
    show tSeq (tWhile _ _) _ _ _ _
    refine seq_any (fun σ H4 => ∃ (pt : Str) (r : Str → List Nat) (BB : List Nat), σ = [some (.ref a), some (.str b), some (.ref d), some (.ref g), some (.ref bk), some (.str pt), none] ∧ WJ H d g bk ks adr H4 r [] BB ∧ WI ts b pt r [] BB ∧ r pt = [] ∧ BB.reverse = wayX ts b) (fun R hR => ?_) ?_
    · refine ⟨fun m σ H4 => ∃ (pt : Str) (r : Str → List Nat) (G BB : List Nat), σ = [some (.ref a), some (.str b), some (.ref d), some (.ref g), some (.ref bk), some (.str pt), none] ∧ WJ H d g bk ks adr H4 r G BB ∧ WI ts b pt r G BB ∧ m = 2 * (ts.length - (G.length + BB.length)) + G.length ∧ wlk ts m r pt G BB = wlk ts (2 * ts.length) (rows ts) b [] [],
        ⟨_, b, rows ts, [], [], rfl, W0, WI.start (rows_nd ts) (rows_mem ts), rfl, by simp⟩, ?_⟩
      rintro m σ H4 ⟨pt, r, G, BB, rfl, J4, hW, hm, hw⟩
      have hl4 := hW.len
      have hrl := hW.in_len pt
      refine ⟨_, rfl, d, rfl, .inl ⟨_, .inl J4.dd⟩, _, rfl, few_size (show 0 ≤ 1000 by decide), fun p hp => ?_⟩
      have s5 := same_upd_new (o := .lst []) hp
      obtain ⟨l, el, hl⟩ := J4.got pt hp
      have J5 := J4.same s5
      refine ⟨_, .inl ⟨_, Sum.inr pt, .inl J5.dd, rfl, rfl⟩, ?_⟩
      rw [el]
      generalize upd H4 p (.lst []) = H5 at J5 hl
      clear hp s5 el J4 H4
      refine ⟨.ref l, _, rfl, .inl ⟨_, SqL.of hl, rfl⟩, _, _, rfl, rfl, _, rfl, ?_⟩
      rw [List.length_map]
      rcases List.eq_nil_or_concat (r pt) with e0 | ⟨X, i, e0⟩
      · refine iteM (by rw [e0]; simp) ?_
        refine ⟨_, rfl, .ref g, _, rfl, .inl ⟨_, SqL.of J5.gg, rfl⟩, _, _, rfl, rfl, _, rfl, ?_⟩
        rw [List.length_map]
        rcases List.eq_nil_or_concat G with rfl | ⟨X, i, rfl⟩
        · refine iteM (by simp) (hR _ _ ⟨pt, r, BB, rfl, J5, hW, e0, ?_⟩)
          rw [walk_end e0] at hw
          unfold wayX
          rw [← hw]
        · rw [List.concat_eq_append] at *
          refine iteP (by simp) ?_
          have hi : i < ts.length := hW.lt i (by simp)
          obtain ⟨b0, sg, f1, f2⟩ := hty.at hi
          rw [List.length_append, List.length_singleton] at hm hl4
          refine ⟨fun σ' H' => ∃ m', m' < m ∧ ∃ (pt : Str) (r : Str → List Nat) (G BB : List Nat), σ' = [some (.ref a), some (.str b), some (.ref d), some (.ref g), some (.ref bk), some (.str pt), none] ∧ WJ H d g bk ks adr H' r G BB ∧ WI ts b pt r G BB ∧ m' = 2 * (ts.length - (G.length + BB.length)) + G.length ∧ wlk ts m' r pt G BB = wlk ts (2 * ts.length) (rows ts) b [] [], fun _ _ z => z, ?_⟩
          refine ⟨_, rfl, d, rfl, .inl ⟨_, .inl J5.dd⟩, _, rfl, few_size (show 0 ≤ 1000 by decide), fun p hp => ?_⟩
          have s5 := same_upd_new (o := .lst []) hp
          obtain ⟨l', el, hl'⟩ := J5.got pt hp
          have J6 := J5.same s5
          refine ⟨_, .inl ⟨_, Sum.inr pt, .inl J6.dd, rfl, rfl⟩, ?_⟩
          rw [el]
          generalize upd H5 p (.lst []) = H6 at J6 hl'
          refine ⟨.ref l', _, rfl, .inl ⟨_, SqL.of hl', rfl⟩, _, _, rfl, rfl, _, rfl, ?_⟩
          rw [List.length_map]
          refine iteM (by rw [e0]; simp) ?_
          refine ⟨_, rfl, .inl ⟨rfl, _, SqL.of J6.bb⟩, _, rfl, .inl ⟨rfl, _, SqL.of J6.gg⟩, g, _, nV i, rfl, rfl, J6.gg, by simp, ?_⟩
          rw [show ((X ++ [i]).map nV).dropLast = X.map nV by rw [List.map_append, List.map_singleton, List.dropLast_concat]]
          have J7 := J6.setG (X := X)
          refine ⟨bk, _, nV i, rfl, rfl, J7.bb, by rw [List.length_map]; exact small1000 (by omega), ?_⟩
          rw [show BB.map nV ++ [nV i] = (BB ++ [i]).map nV by rw [List.map_append, List.map_singleton]]
          have J8 := J7.setB (X := BB ++ [i])
          refine ⟨_, rfl, _, rfl, _, rfl, bk, _, -1, nV i, rfl, rfl, SqL.of J8.bb, by rw [List.map_append, List.map_singleton]; exact at_last, ?_⟩
          refine seq_ix (hs.same J8.sm) f1 ⟨b0, _, 0, .str (frm ts i), rfl, rfl, SqT.of (J8.sm _ _ f2), rfl, ?_⟩
          refine ⟨2 * (ts.length - (X.length + (BB ++ [i]).length)) + X.length, ?_, frm ts i, r, X, BB ++ [i], rfl, J8, hW.pop e0, rfl, ?_⟩
          · rw [List.length_append, List.length_singleton]
            omega
          · rw [← hw, show m = 2 * (ts.length - (X.length + (BB ++ [i]).length)) + X.length + 1 by rw [List.length_append, List.length_singleton]; omega, walk_pop e0]
      · rw [List.concat_eq_append] at e0
        refine iteP (by rw [e0]; simp) ?_
        refine iteP rfl ?_
        have hik : i ∈ r pt := by rw [e0]; simp
        have hpk : pt ∈ ks := Classical.byContradiction fun c => by rw [J5.out pt c] at hik; cases hik
        have hi : i < ts.length := ((hW.row pt i).mp hik).1
        obtain ⟨b0, sg, f1, f2⟩ := hty.at hi
        have hW2 := hW.push e0
        have hl5 := hW2.len
        rw [List.length_append, List.length_singleton] at hl5
        refine ⟨fun σ' H' => ∃ m', m' < m ∧ ∃ (pt : Str) (r : Str → List Nat) (G BB : List Nat), σ' = [some (.ref a), some (.str b), some (.ref d), some (.ref g), some (.ref bk), some (.str pt), none] ∧ WJ H d g bk ks adr H' r G BB ∧ WI ts b pt r G BB ∧ m' = 2 * (ts.length - (G.length + BB.length)) + G.length ∧ wlk ts m' r pt G BB = wlk ts (2 * ts.length) (rows ts) b [] [], fun _ _ z => z, ?_⟩
        refine ⟨_, rfl, d, rfl, .inl ⟨_, .inl J5.dd⟩, _, rfl, few_size (show 0 ≤ 1000 by decide), fun p hp => ?_⟩
        have s5 := same_upd_new (o := .lst []) hp
        obtain ⟨l', el, hl'⟩ := J5.got pt hp
        have J6 := J5.same s5
        refine ⟨_, .inl ⟨_, Sum.inr pt, .inl J6.dd, rfl, rfl⟩, ?_⟩
        rw [el]
        generalize upd H5 p (.lst []) = H6 at J6 hl'
        refine ⟨.ref l', _, rfl, .inl ⟨_, SqL.of hl', rfl⟩, _, _, rfl, rfl, _, rfl, ?_⟩
        rw [List.length_map]
        refine iteP (by rw [e0]; simp) ?_
        have hrow := J6.row pt hpk
        rw [e0] at hrow
        refine ⟨_, rfl, .inl ⟨rfl, _, SqL.of J6.gg⟩, _, rfl, _, rfl, d, .ref (adr pt), rfl, .inl ⟨_, Sum.inr pt, .inl J6.dd, rfl, by rw [rD_val, if_pos hpk]⟩, .inl ⟨rfl, _, SqL.of hrow⟩, adr pt, _, nV i, rfl, rfl, hrow, by simp, ?_⟩
        rw [show ((X ++ [i]).map nV).dropLast = X.map nV by rw [List.map_append, List.map_singleton, List.dropLast_concat]]
        have J7 := J6.setRow (X := X) hpk
        refine ⟨g, _, nV i, rfl, rfl, J7.gg, by rw [List.length_map]; exact small1000 (by omega), ?_⟩
        rw [show G.map nV ++ [nV i] = (G ++ [i]).map nV by rw [List.map_append, List.map_singleton]]
        have J8 := J7.setG (X := G ++ [i])
        refine ⟨_, rfl, _, rfl, _, rfl, g, _, -1, nV i, rfl, rfl, SqL.of J8.gg, by rw [List.map_append, List.map_singleton]; exact at_last, ?_⟩
        refine seq_ix (hs.same J8.sm) f1 ⟨b0, _, 2, .str (tow ts i), rfl, rfl, SqT.of (J8.sm _ _ f2), rfl, ?_⟩
        refine ⟨2 * (ts.length - ((G ++ [i]).length + BB.length)) + (G ++ [i]).length, ?_, tow ts i, setR r pt X, G ++ [i], BB, rfl, J8, hW2, rfl, ?_⟩
        · rw [List.length_append, List.length_singleton]
          omega
        · rw [← hw, show m = 2 * (ts.length - ((G ++ [i]).length + BB.length)) + (G ++ [i]).length + 1 by rw [List.length_append, List.length_singleton]; omega, walk_push e0]
    · rintro σ H4 ⟨pt, r, BB, rfl, J4, hW, e0, ew⟩
      refine ⟨_, rfl, _, rfl, bk, _, rfl, SqL.of J4.bb, rfl, fun p hp => ?_⟩
      refine ⟨p, _, rfl, .inl ⟨SqL.of upd_same, fun l hl => ?_⟩⟩
      have s5 := (J4.sm.trans (same_upd_new (o := .lst (BB.map nV).reverse) hp)).trans (same_upd_new (o := .tup (BB.map nV).reverse) hl)
      have hT : TupN (upd (upd H4 p (.lst (BB.map nV).reverse)) l (.tup (BB.map nV).reverse)) (.ref l) (wayX ts b) := ⟨l, rfl, by rw [upd_same, ← ew, List.map_reverse]⟩
      refine ⟨_, rfl, _, rfl, _, rfl, .ref a, .ref l, b, ts, wayX ts b, rfl, hV.same s5, hT, fun i hi => ?_, fun c hc => ?_⟩
      · rw [← ew, List.mem_reverse] at hi
        exact hW.lt i (by simpa using hi)
      · refine ⟨_, rfl, ?_⟩
        cases c with
        | true =>
          obtain ⟨h1, f, h2⟩ := hc.mp rfl
          rw [← ew] at h1 h2
          rw [List.length_reverse] at h1
          have hE := hW.eul h1 h2
          rw [ew] at hE
          exact iteP rfl ⟨_, rfl, k1 hE _ _ s5 hT⟩
        | false =>
          refine iteM rfl (k2 (fun hg => ?_) _ s5)
          have hE := hW.done e0 hg
          rw [ew] at hE
          have := hc.mpr ⟨by rw [hE.1.length_eq, List.length_range], hE.2⟩
          cases this
end
end Sh

set_option Elab.async false
set_option linter.all false
set_option maxRecDepth 100000
namespace Sh
open PySem L2 PyProof.Rows
seal L2.PE L2.PS L2.PSs L2.PT L2.PW L2.PA L2.PI L2.PG L2.PGs L2.PO L2.PC L2.PCs L2.OpR L2.UnR L2.CallR L2.MtR L2.IxR L2.SlR
/-! ### texts of the law -/
def TOk (x : Str) : Prop := x.length ≤ 400 ∧ ∀ c ∈ x.cps.toList, c < 1000
theorem tok_tx {l : List Nat} (h : l.length ≤ 400) (hc : ∀ c ∈ l, c < 1000) : TOk (tx l) := ⟨by rw [tx_len]; exact h, by rw [tx_list]; exact hc⟩
theorem mulS {c : Nat} {n : Int} (h : 0 ≤ n) : Txt.mul (tx [c]) n = tx (List.replicate n.toNat c) := by
  by_cases h1 : 1 ≤ n
  · apply codes_inj
    rw [mul_codes h1 (by rw [tx_len]; simp), tx_list, tx_list]
    generalize n.toNat = m
    induction m with
    | zero => rfl
    | succ m ih => rw [List.replicate_succ, List.flatten_cons, ih, List.replicate_succ]; rfl
  · have : n = 0 := by omega
    subst this
    rfl
section
variable {P : Program} {w : World} {K : PySem.W.Frag} {mg : Str → Option Value} {base : Heap}
abbrev sLSeed : Stmt := top 5
abbrev nLSeed : List Str := ["_law_cells", "_law_seed_here", "_law_cell"]
theorem scLSeed : FnScope nLSeed ["_law_cells"] (defScope sLSeed) := ⟨rfl, rfl, rfl, by decide +kernel, rfl, by decide +kernel, by decide +kernel⟩
def spSeed (K : PySem.W.Frag) : Sp := fun vs H Q _ => ∃ (a : Addr) (ns : List Int), vs = [.ref a] ∧ SqL K H a (ns.map V.int) ∧ ns.length ≤ 63 ∧ ∀ sd : Int, 0 ≤ sd → sd < 999999937 → Q (.int sd) H
theorem ok_l_seed (D : HasDef K mg "_law_seed" sLSeed ["_law_cells"]) (B : Blt mg) : FOk P w K mg base 1 "_law_seed" ["_law_cells"] (spSeed K) := by
  refine D.ok scLSeed (fun vs H Q E h => ?_) (fun f cdv A outer s H vs Q E hr h => ?_)
  · obtain ⟨a, ns, rfl, _⟩ := h
    rfl
  · obtain ⟨a, ns, rfl, ha, hl, k⟩ := h
    refine ⟨_, (pss_cons (ps_set (i := 1) scLSeed.nd rfl (Or.inl rfl) (pe_op op_add pe_int (pe_callB call_len rfl B.len b_len (pa_cons (pv 0) pa_nil))))
      (pss_cons (ps_for PassesOwn.never rfl (pi_list (pv 0)) (pg_name (i := 2) scLSeed.nd rfl (Or.inl rfl))
        (pss_one (ps_set (i := 1) scLSeed.nd rfl (Or.inl rfl) (pe_op op_mod (pe_op op_add (pe_op op_mul (pv 1) pe_int) (pv 2)) pe_int))))
      (pss_one (ps_ret (pv 1))))), ?_⟩
    refine ⟨_, rfl, .ref a, ns.length, rfl, (.inl ⟨_, ha, by rw [List.length_map]⟩), _, _, rfl, rfl, ?_⟩
    refine ⟨_, rfl, a, rfl, ⟨_, ha⟩, for_list (K := K) (a := a) (xs := ns.map V.int) (fun i σ H2 => (∃ (z : Option V) (sd : Int), σ = [some (.ref a), some (.int sd), z] ∧ 0 ≤ sd ∧ sd < 999999937) ∧ H2 = H)
      ⟨⟨none, _, rfl, by omega, by omega⟩, rfl⟩ (fun i σ H2 _ ⟨_, e⟩ => by rw [e]; exact ha) ?_ ?_⟩
    · rintro i x σ H2 hi ⟨⟨z, sd, rfl, b1, b2⟩, rfl⟩
      obtain ⟨hi', rfl⟩ := step_mapV hi
      have bd := emod_bd (sd * 613 + ns[i]) (show (0 : Int) < 999999937 by decide)
      refine ⟨_, rfl, _, _, rfl, rfl, .inr ⟨by decide, by decide⟩, _, rfl, _, _, rfl, rfl, _, _, rfl, rfl, (by show (0 : Int) < 999999937; decide), ?_⟩
      exact ⟨⟨some (.int ns[i]), _, rfl, bd.1, bd.2⟩, rfl⟩
    rintro σ H2 ⟨⟨z, sd, rfl, b1, b2⟩, rfl⟩
    exact ⟨_, rfl, k sd b1 b2⟩

abbrev sLNames : Stmt := top 6
abbrev nLNames : List Str := ["_law_seed_here", "_law_letters", "_law_long", "_law_at", "_law_fill", "_law_found", "_law_k", "_law_sign"]
theorem scLNames : FnScope nLNames ["_law_seed_here"] (defScope sLNames) := ⟨rfl, rfl, rfl, by decide +kernel, rfl, by decide +kernel, by decide +kernel⟩
def Nms (ss : List Str) : Prop := 3 ≤ ss.length ∧ ss.length ≤ 8 ∧ ∀ x ∈ ss, TOk x
def spNames : Sp := fun vs H Q _ => ∃ sd : Int, vs = [.int sd] ∧ 0 ≤ sd ∧ sd < 999999937 ∧ ∀ a H' ss, Same H H' → H' a = some (.lst (ss.map V.str)) → Nms ss → Q (.ref a) H'
set_option maxHeartbeats 8000000 in
theorem ok_l_names (D : HasDef K mg "_law_names" sLNames ["_law_seed_here"]) (B : Blt mg) : FOk P w K mg base 1 "_law_names" ["_law_seed_here"] spNames := by
  refine D.ok scLNames (fun vs H Q E h => ?_) (fun f cdv A outer s H vs Q E hr h => ?_)
  · obtain ⟨sd, rfl, _⟩ := h
    rfl
  · obtain ⟨sd, rfl, h0, h1, k⟩ := h
    refine ⟨_, (pss_cons (ps_set (i := 1) scLNames.nd rfl (Or.inl rfl) pe_str)
      (pss_cons (ps_set (i := 2) scLNames.nd rfl (Or.inl rfl) (pe_op op_add pe_int (pe_op op_mod (pv 0) pe_int)))
      (pss_cons (ps_set (i := 3) scLNames.nd rfl (Or.inl rfl) (pe_op op_mod (pe_op op_fdiv (pv 0) pe_int) (pv 2)))
      (pss_cons (ps_set (i := 4) scLNames.nd rfl (Or.inl rfl) (pe_ix ix_str (pv 1) (pe_op op_mod (pe_op op_fdiv (pv 0) pe_int) pe_int) (fun _ _ => rfl)))
      (pss_cons (ps_set (i := 5) scLNames.nd rfl (Or.inl rfl) (pe_lst pa_nil))
      (pss_cons (ps_for PassesOwn.never rfl (pi_range1 rfl B.range (pa_cons (pe_op op_add pe_int (pe_op op_mod (pe_op op_fdiv (pv 0) pe_int) pe_int)) pa_nil)) (pg_name (i := 6) scLNames.nd rfl (Or.inl rfl))
        (pss_cons (ps_set (i := 7) scLNames.nd rfl (Or.inl rfl) (pe_ix ix_str (pv 1) (pe_op op_mod (pe_op op_add (pe_op op_fdiv (pv 0) pe_int) (pv 6)) pe_int) (fun _ _ => rfl)))
      (pss_one (ps_expr (pe_bm F.plainAttrs_list F.slot_list_append F.type_list_append mt_appendR (pv 5) (pa_cons (pe_op op_add_str (pe_op op_add_str (pe_op op_mulS (pv 4) (pv 3)) (pv 7)) (pe_op op_mulS (pv 4) (pe_op op_sub (pe_op op_sub (pv 2) (pv 3)) pe_int))) pa_nil))))))
      (pss_cons (ps_if (pt_cmpR op_eq (pe_op op_mod (pv 0) pe_int) pe_int (nomark _)) (pss_one (ps_asg pe_str (pg_sub (pv 5) pe_int set_list))) pss_nil)
      (pss_cons (ps_if (pt_cmpR op_eq (pe_op op_mod (pv 0) pe_int) pe_int (nomark _)) (pss_one (ps_lcomp (i := 5) (defScope sLNames) nLNames ["_law_name"] [] scLNames.nd rfl (Or.inl rfl) rfl (pi_list (pv 5)) (fun _ _ _ _ _ => pg_lc 0) (fun _ _ _ _ _ => pcs_nil) (fun _ _ _ _ _ => (pe_op op_add_str (pe_op op_mulS pe_str pe_int) (pv 0))))) pss_nil)
      (pss_one (ps_ret (pv 5))))))))))), ?_⟩
    have m8 := emod_bd sd (show (0 : Int) < 8 by decide)
    have m26 := emod_bd (sd / 64) (show (0 : Int) < 26 by decide)
    have m6 := emod_bd (sd / 5) (show (0 : Int) < 6 by decide)
    refine ⟨_, rfl, _, _, rfl, rfl, (by show (0 : Int) < 8; decide), _, _, rfl, rfl, ?_⟩
    have hlong : (0 : Int) < 1 + sd % 8 := by omega
    have mat := emod_bd (sd / 8) hlong
    refine ⟨_, rfl, _, _, rfl, rfl, ⟨by decide, by decide⟩, _, rfl, _, _, rfl, rfl, hlong, ?_⟩
    refine ⟨_, rfl, _, rfl, _, _, rfl, rfl, ⟨by decide, by decide⟩, _, _, rfl, rfl, (by show (0 : Int) < 26; decide), _, _, _, rfl, rfl, size_small (by decide), letter_at m26.1 m26.2, ?_⟩
    refine ⟨few_size (show 0 ≤ 1000 by decide), fun l hl => ?_⟩
    have s1 := same_upd_new (o := .lst []) hl
    refine ⟨_, rfl, _, _, rfl, rfl, ⟨by decide, by decide⟩, _, _, rfl, rfl, (by show (0 : Int) < 6; decide), _, _, rfl, rfl, _, rfl, by omega, by omega, ?_⟩
    generalize hlo : 1 + sd % 8 = lo at *
    generalize hat : sd / 8 % lo = at_ at *
    generalize hfc : (sd / 64 % 26).toNat + 97 = fc at *
    have hfc2 : fc < 1000 := by omega
    have hN : (3 + sd / 5 % 6).toNat ≤ 8 ∧ 3 ≤ (3 + sd / 5 % 6).toNat := by omega
    generalize (3 + sd / 5 % 6).toNat = N at hN
    refine for_range (fun i σ H2 => ∃ (ss : List Str) (z6 z7 : Option V), σ = [some (.int sd), some (.str "abcdefghijklmnopqrstuvwxyz"), some (.int lo), some (.int at_), some (.str (tx [fc])), some (.ref l), z6, z7] ∧ Same H H2 ∧ H2 l = some (.lst (ss.map V.str)) ∧ ss.length = i ∧ ∀ x ∈ ss, x.length ≤ 8 ∧ TOk x)
      ⟨[], none, none, (by subst hat hlo hfc; rfl), s1, upd_same, rfl, fun x hx => by cases hx⟩ ?_ ?_
    · rintro i σ H2 hi ⟨ss, z6, z7, rfl, s2, hl2, hss, hok⟩
      have mb := emod_bd (sd / 1664 + (0 + (i : Int))) (show (0 : Int) < 26 by decide)
      refine ⟨_, rfl, _, rfl, _, _, rfl, rfl, ⟨by decide, by decide⟩, _, rfl, _, _, rfl, rfl, _, _, rfl, rfl, (by show (0 : Int) < 26; decide), _, _, _, rfl, rfl, size_small (by decide), letter_at mb.1 mb.2, ?_⟩
      generalize hsc : ((sd / 1664 + (0 + (i : Int))) % 26).toNat + 97 = sc
      have hsc2 : sc < 1000 := by omega
      refine ⟨_, rfl, .inl ⟨rfl, _, SqL.of hl2⟩, _, rfl, _, rfl, _, _, rfl, rfl, mulOk_nat mat.1 (by omega) (by rw [tx_len]; simp), ?_⟩
      rw [mulS mat.1]
      refine ⟨_, rfl, _, _, rfl, rfl, ?_, _, rfl, _, rfl, _, rfl, _, _, rfl, rfl, _, _, rfl, rfl, _, _, rfl, rfl, mulOk_nat (by omega) (by omega) (by rw [tx_len]; simp), ?_⟩
      · rw [tx_len, List.length_replicate]
        refine few_size ?_
        show at_.toNat + 1 ≤ 1000
        omega
      rw [mulS (by omega), show ({ cps := #[sc] } : Str) = tx [sc] from rfl, tx_app]
      refine ⟨_, _, rfl, rfl, ?_, ?_⟩
      · rw [tx_len, tx_len, List.length_append, List.length_replicate, List.length_replicate]
        refine few_size ?_
        simp only [List.length_singleton]
        omega
      rw [tx_app]
      refine ⟨l, _, _, rfl, rfl, hl2, by rw [List.length_map]; exact small1000 (by omega), ?_⟩
      refine ⟨ss ++ [tx (List.replicate at_.toNat fc ++ [sc] ++ List.replicate (lo - at_ - 1).toNat fc)], _, _, rfl, fun b u hb => by rw [upd_ne (ne_of_none hb hl)]; exact s2 b u hb, by rw [upd_same, List.map_append]; rfl, by rw [List.length_append, hss]; rfl, fun x hx => ?_⟩
      rcases List.mem_append.mp hx with z | z
      · exact hok x z
      · rw [List.mem_singleton.mp z]
        have hll : (List.replicate at_.toNat fc ++ [sc] ++ List.replicate (lo - at_ - 1).toNat fc).length ≤ 8 := by
          simp only [List.length_append, List.length_replicate, List.length_singleton]
          omega
        refine ⟨by rw [tx_len]; exact hll, tok_tx (by omega) fun c hc => ?_⟩
        simp only [List.mem_append, List.mem_replicate, List.mem_singleton] at hc
        omega
    · rintro σ H2 ⟨ss, z6, z7, rfl, s2, hl2, hss, hok⟩
      dsimp only
      refine seq_any (fun σ H3 => ∃ (ss : List Str), σ = [some (.int sd), some (.str "abcdefghijklmnopqrstuvwxyz"), some (.int lo), some (.int at_), some (.str (tx [fc])), some (.ref l), z6, z7] ∧ Same H H3 ∧ H3 l = some (.lst (ss.map V.str)) ∧ ss.length = N ∧ ∀ x ∈ ss, x.length ≤ 8 ∧ TOk x) (fun R hR => ?_) ?_
      · refine ⟨_, rfl, _, _, rfl, rfl, (by show (0 : Int) < 7; decide), rfl, _, rfl, ?_⟩
        by_cases c : sd % 7 = 0
        · refine iteP (int_is c) ⟨_, rfl, l, _, 0, 0, rfl, rfl, hl2, by rw [List.length_map, hss]; unfold ixN; rw [if_pos (by decide), if_pos (by omega)]; rfl, ?_⟩
          refine hR _ _ ⟨ss.set 0 "", rfl, fun b u hb => by rw [upd_ne (ne_of_none hb hl)]; exact s2 b u hb, by rw [upd_same, List.map_set], by rw [List.length_set, hss], fun x hx => ?_⟩
          rcases List.mem_or_eq_of_mem_set hx with z | z
          · exact hok x z
          · rw [z]
            exact ⟨by decide, by decide, fun c hc => by cases hc⟩
        · exact iteM (int_ne c) (hR _ _ ⟨ss, rfl, s2, hl2, hss, hok⟩)
      rintro σ H3 ⟨ss, rfl, s3, hl3, hss, hok⟩
      refine ⟨_, rfl, _, _, rfl, rfl, (by show (0 : Int) < 11; decide), rfl, _, rfl, ?_⟩
      by_cases c : sd % 11 = 0
      · refine iteP (int_is c) ?_
        refine ⟨_, rfl, l, rfl, ⟨_, SqL.of hl3⟩, lc_map ss.length (fun i => (ss.map V.str).getD i .non) (fun i v _ => v = .str (tx (List.replicate 392 113) ++ ss.getD i "")) (few_size (by omega)) (fun _ _ _ _ _ r => r) (by have := jt_list (SqL.of (K := K) hl3); rw [List.length_map] at this; exact this) ?_ ?_⟩
        · intro i H4 Qe hi hs kq
          rw [getD_mapV hi]
          refine ⟨_, _, rfl, rfl, mulOk_of (by decide) (by decide) (by decide), _, rfl, ?_⟩
          rw [show ("q" : Str) = tx [113] from rfl, mulS (by decide)]
          obtain ⟨g1, g2⟩ := hok ss[i] (List.getElem_mem hi)
          refine ⟨_, _, rfl, rfl, ?_, kq _ _ (Same.refl _) ?_⟩
          · rw [tx_len, List.length_replicate]
            refine few_size ?_
            show (392 : Int).toNat + _ ≤ 1000
            have : (392 : Int).toNat = 392 := rfl
            omega
          · rw [List.getD_eq_getElem?_getD, List.getElem?_eq_getElem hi]
            rfl
        intro D1 vs H4 hvl hvr s4 hD1 hD2
        have ev : vs = (ss.map fun x => tx (List.replicate 392 113) ++ x).map V.str := by
          rw [List.map_map]
          refine vs_ints hvl fun i v hv c hc => ?_
          rw [hvr i v hv, List.getD_eq_getElem?_getD, hc]
          rfl
        rw [ev] at hD2
        refine ⟨_, rfl, k D1 H4 _ (s3.trans s4) hD2 ⟨by rw [List.length_map]; omega, by rw [List.length_map]; omega, fun x hx => ?_⟩⟩
        obtain ⟨y, hy, rfl⟩ := List.mem_map.mp hx
        obtain ⟨g1, g2, g3⟩ := hok y hy
        rw [← tx_eta y, tx_app]
        refine tok_tx ?_ fun c hc => ?_
        · rw [List.length_append, List.length_replicate, len_codes]
          omega
        · rcases List.mem_append.mp hc with z | z
          · have := (List.mem_replicate.mp z).2
            omega
          · exact g3 c z
      · exact iteM (int_ne c) ⟨_, rfl, k l H3 ss s3 hl3 ⟨by omega, by omega, fun x hx => (hok x hx).2⟩⟩
end
end Sh

set_option Elab.async false
set_option linter.all false
set_option maxRecDepth 100000
namespace Sh
open PySem L2 PyProof.Rows
seal L2.PE L2.PS L2.PSs L2.PT L2.PW L2.PA L2.PI L2.PG L2.PGs L2.PO L2.PC L2.PCs L2.OpR L2.UnR L2.CallR L2.MtR L2.IxR L2.SlR
/-- a tie of the law -/
def Tie3 (H : Hp) (v : V) : Prop := ∃ b p s q, v = .ref b ∧ H b = some (.tup [.str p, .str s, .str q]) ∧ TOk p ∧ TOk s ∧ TOk q
theorem Tie3.tsame {H H' : Hp} {v : V} (h : Tie3 H v) (s : TSame H H') : Tie3 H' v := by
  obtain ⟨b, p, x, q, e, h1, h2⟩ := h
  exact ⟨b, p, x, q, e, s _ _ h1, h2⟩
def AllT (H : Hp) (vs : List V) : Prop := ∀ v ∈ vs, Tie3 H v
theorem AllT.tsame {H H' : Hp} {vs : List V} (h : AllT H vs) (s : TSame H H') : AllT H' vs := fun v hv => (h v hv).tsame s
theorem cutV_mem {xs : List V} {lo hi : Option Int} {v : V} (h : v ∈ cutV xs lo hi) : v ∈ xs := List.mem_of_mem_drop (List.mem_of_mem_take h)
theorem tok_lit {x : Str} (h1 : x.length ≤ 400) (h2 : (x.cps.toList.all fun c => decide (c < 1000)) = true) : TOk x := ⟨h1, fun c hc => of_decide_eq_true (List.all_eq_true.mp h2 c hc)⟩
theorem tok_mul {c n : Nat} (h1 : n ≤ 400) (h2 : c < 1000) : TOk (Txt.mul (tx [c]) (n : Int)) := by
  rw [mulS (by omega)]
  refine tok_tx (by rw [List.length_replicate]; omega) fun x hx => ?_
  rw [(List.mem_replicate.mp hx).2]
  exact h2
theorem pairs_of {H : Hp} {n : Int} : ∀ vs : List V, (∀ v ∈ vs, ∃ b x y, v = .ref b ∧ H b = some (.tup [.int x, .int y]) ∧ 0 ≤ y ∧ y < n) → ∃ rs : List (Addr × Int × Int), vs = rs.map (fun r => V.ref r.1) ∧ ∀ r ∈ rs, H r.1 = some (.tup [.int r.2.1, .int r.2.2]) ∧ 0 ≤ r.2.2 ∧ r.2.2 < n
  | [], _ => ⟨[], rfl, fun r hr => by cases hr⟩
  | v :: vs, h => by
    obtain ⟨b, x, y, rfl, h1, h2⟩ := h v (List.mem_cons_self ..)
    obtain ⟨rs, e, h3⟩ := pairs_of vs fun u hu => h u (List.mem_cons_of_mem _ hu)
    refine ⟨(b, x, y) :: rs, by rw [List.map_cons, ← e], fun r hr => ?_⟩
    rcases List.mem_cons.mp hr with z | z
    · rw [z]; exact ⟨h1, h2⟩
    · exact h3 r z
section
variable {P : Program} {w : World} {K : PySem.W.Frag} {mg : Str → Option Value} {base : Heap}
abbrev sLWalked : Stmt := top 7
abbrev nLWalked : List Str := ["_law_cells", "_law_names_here", "_law_ties", "_law_here", "_law_cell", "_law_there"]
theorem scLWalked : FnScope nLWalked ["_law_cells", "_law_names_here"] (defScope sLWalked) := ⟨rfl, rfl, rfl, by decide +kernel, rfl, by decide +kernel, by decide +kernel⟩
def spWalked (K : PySem.W.Frag) : Sp := fun vs H Q _ => ∃ (a nm : Addr) (ns : List Int) (ss : List Str), vs = [.ref a, .ref nm] ∧ SqL K H a (ns.map V.int) ∧ ns.length ≤ 63 ∧ H nm = some (.lst (ss.map V.str)) ∧ Nms ss ∧ ∀ l H' vs, Same H H' → H' l = some (.lst vs) → vs.length ≤ 63 → AllT H' vs → Q (.ref l) H'
set_option maxHeartbeats 8000000 in
theorem ok_l_walked (D : HasDef K mg "_law_walked" sLWalked ["_law_cells", "_law_names_here"]) (B : Blt mg) : FOk P w K mg base 1 "_law_walked" ["_law_cells", "_law_names_here"] (spWalked K) := by
  refine D.ok scLWalked (fun vs H Q E h => ?_) (fun f cdv A outer s H vs Q E hr h => ?_)
  · obtain ⟨a, nm, ns, ss, rfl, _⟩ := h
    rfl
  · obtain ⟨a, nm, ns, ss, rfl, ha, hnl, hnm, hN, k⟩ := h
    refine ⟨_, (pss_cons (ps_set (i := 2) scLWalked.nd rfl (Or.inl rfl) (pe_lst pa_nil))
      (pss_cons (ps_set (i := 3) scLWalked.nd rfl (Or.inl rfl) (pe_ix ix_list (pv 1) pe_int (fun _ _ => rfl)))
      (pss_cons (ps_for PassesOwn.never rfl (pi_list (pv 0)) (pg_name (i := 4) scLWalked.nd rfl (Or.inl rfl))
        (pss_cons (ps_set (i := 5) scLWalked.nd rfl (Or.inl rfl) (pe_ix ix_list (pv 1) (pe_op op_mod (pv 4) (pe_callB call_len rfl B.len b_len (pa_cons (pv 1) pa_nil))) (fun _ _ => rfl)))
      (pss_cons (ps_expr (pe_bm F.plainAttrs_list F.slot_list_append F.type_list_append mt_appendR (pv 2) (pa_cons (pe_tup (pa_cons (pv 3) (pa_cons (pe_ix ix_list (pe_lst (pa_cons pe_str (pa_cons pe_str (pa_cons pe_str (pa_cons (pe_op op_mulS pe_str pe_int) (pa_cons (pv 3) pa_nil)))))) (pe_op op_mod (pe_op op_fdiv (pv 4) pe_int) pe_int) (fun _ _ => rfl)) (pa_cons (pv 5) pa_nil)))) pa_nil)))
      (pss_one (ps_set (i := 3) scLWalked.nd rfl (Or.inl rfl) (pv 5))))))
      (pss_one (ps_ret (pv 2)))))), ?_⟩
    obtain ⟨n3, n8, nok⟩ := id hN
    refine ⟨few_size (show 0 ≤ 1000 by decide), fun l hl => ?_⟩
    have s1 := same_upd_new (o := .lst []) hl
    obtain ⟨h0, hm0, e0⟩ := menuS (ts := ss) (i := 0) (by decide) (by omega)
    refine ⟨_, rfl, nm, _, 0, _, rfl, rfl, SqL.of (s1 _ _ hnm), e0, ?_⟩
    refine ⟨_, rfl, a, rfl, ⟨_, Same.seq s1 ha⟩, for_list (K := K) (a := a) (xs := ns.map V.int) (fun i σ H2 => ∃ (vs : List V) (here : Str) (z4 z5 : Option V), σ = [some (.ref a), some (.ref nm), some (.ref l), some (.str here), z4, z5] ∧ Same H H2 ∧ H2 l = some (.lst vs) ∧ vs.length = i ∧ AllT H2 vs ∧ TOk here)
      ⟨[], h0, none, none, rfl, s1, upd_same, rfl, (fun v hv => by cases hv), nok h0 hm0⟩ (fun i σ H2 _ ⟨_, _, _, _, _, s2, _⟩ => Same.seq s2 ha) ?_ ?_⟩
    · rintro i x σ H2 hi ⟨vs, here, z4, z5, rfl, s2, hl2, hvl, hall, hok⟩
      obtain ⟨hi', rfl⟩ := step_mapV hi
      generalize ns[i] = cell
      have hlp : (0 : Int) < ((ss.map V.str).length : Int) := by rw [List.length_map]; omega
      have mb := emod_bd cell hlp
      obtain ⟨h1, hm1, e1⟩ := menuS (ts := ss) (i := cell % ((ss.map V.str).length : Int)) mb.1 (by have := mb.2; rw [List.length_map] at this ⊢; exact this)
      refine ⟨_, rfl, _, rfl, _, rfl, .ref nm, _, rfl, .inl ⟨_, SqL.of (s2 _ _ hnm), rfl⟩, _, _, rfl, rfl, hlp, nm, _, _, _, rfl, rfl, SqL.of (s2 _ _ hnm), e1, ?_⟩
      have m5 := emod_bd (cell / 8) (show (0 : Int) < 5 by decide)
      have eb : (Txt.mul ("b" : Str) 400) = Txt.mul (tx [98]) ((400 : Nat) : Int) := rfl
      obtain ⟨sg, hsg, e2⟩ := menuS (ts := ["", "a", "xyz", Txt.mul "b" 400, here]) (i := cell / 8 % 5) m5.1 m5.2
      have hsok : TOk sg := by
        simp only [List.mem_cons, List.not_mem_nil, or_false] at hsg
        rcases hsg with z | z | z | z | z
        · rw [z]; exact tok_lit (by decide) (by decide +kernel)
        · rw [z]; exact tok_lit (by decide) (by decide +kernel)
        · rw [z]; exact tok_lit (by decide) (by decide +kernel)
        · rw [z, eb]; exact tok_mul (by decide) (by decide)
        · rw [z]; exact hok
      refine ⟨_, rfl, .inl ⟨rfl, _, SqL.of hl2⟩, _, rfl, _, _, rfl, rfl, mulOk_of (by decide) (by decide) (by decide), _, rfl, few_size (show 5 ≤ 1000 by decide), fun p hp => ?_⟩
      have s3 := same_upd_new (o := .lst [.str "", .str "a", .str "xyz", .str (Txt.mul "b" 400), .str here]) hp
      refine ⟨_, rfl, _, _, rfl, rfl, ⟨by decide, by decide⟩, _, _, rfl, rfl, (by show (0 : Int) < 5; decide), p, _, _, _, rfl, rfl, SqL.of upd_same, e2, _, rfl, few_size (show 3 ≤ 1000 by decide), fun q hq => ?_⟩
      have s4 := same_upd_new (o := .tup [.str here, .str sg, .str h1]) hq
      have hl4 := s4 _ _ (s3 _ _ hl2)
      refine ⟨l, _, _, rfl, rfl, hl4, small1000 (by omega), ?_⟩
      have ts5 := tsame_upd_lst (ys := vs ++ [.ref q]) hl4
      refine ⟨_, rfl, vs ++ [.ref q], h1, _, _, rfl, fun b u hb => by rw [upd_ne (ne_of_none hb hl)]; exact s4 _ _ (s3 _ _ (s2 b u hb)), upd_same, by rw [List.length_append, hvl]; rfl, fun v hv => ?_, nok h1 hm1⟩
      rcases List.mem_append.mp hv with z | z
      · exact (hall v z).tsame (((s3.trans s4).tup).trans ts5)
      · rw [List.mem_singleton.mp z]
        exact ⟨q, here, sg, h1, rfl, ts5 _ _ upd_same, hok, hsok, nok h1 hm1⟩
    · rintro σ H2 ⟨vs, here, z4, z5, rfl, s2, hl2, hvl, hall, hok⟩
      rw [List.length_map] at hvl
      exact ⟨_, rfl, k l H2 vs s2 hl2 (by omega) hall⟩
abbrev sLMixed : Stmt := top 8
abbrev nLMixed : List Str := ["_law_ties", "_law_seed_here", "_law_keys"]
theorem scLMixed : FnScope nLMixed ["_law_ties", "_law_seed_here"] (defScope sLMixed) := ⟨rfl, rfl, rfl, by decide +kernel, rfl, by decide +kernel, by decide +kernel⟩
def spMixed : Sp := fun vs H Q _ => ∃ (l : Addr) (us : List V) (sd : Int), vs = [.ref l, .int sd] ∧ H l = some (.lst us) ∧ us.length ≤ 63 ∧ AllT H us ∧ 0 ≤ sd ∧ sd < 999999937 ∧ ∀ q H' vs, Same H H' → H' q = some (.lst vs) → vs.length ≤ 63 → AllT H' vs → Q (.ref q) H'
set_option maxHeartbeats 8000000 in
theorem ok_l_mixed (D : HasDef K mg "_law_mixed" sLMixed ["_law_ties", "_law_seed_here"]) (B : Blt mg) : FOk P w K mg base 1 "_law_mixed" ["_law_ties", "_law_seed_here"] spMixed := by
  refine D.ok scLMixed (fun vs H Q E h => ?_) (fun f cdv A outer s H vs Q E hr h => ?_)
  · obtain ⟨l, us, sd, rfl, _⟩ := h
    rfl
  · obtain ⟨l, us, sd, rfl, hl, hul, hall, h0, h1, k⟩ := h
    refine ⟨_, (pss_cons (ps_set (i := 2) scLMixed.nd rfl (Or.inl rfl) (pe_callB call_sortedPL rfl B.sorted b_sorted (pa_cons (pe_lcomp (defScope sLMixed) nLMixed ["_law_k"] [1] rfl (pi_range1 rfl B.range (pa_cons (pe_callB call_len rfl B.len b_len (pa_cons (pv 0) pa_nil)) pa_nil)) (fun _ _ _ _ _ => pg_lc 0) (fun _ _ _ _ _ => pcs_nil) (fun _ _ _ _ _ => (pe_tup (pa_cons (pe_op op_mod (pe_op op_mul (pe_op op_add (pv 0) pe_int) (pe_op op_add (pv 1) pe_int)) pe_int) (pa_cons (pv 0) pa_nil))))) pa_nil)))
      (pss_one (ps_ret (pe_lcomp (defScope sLMixed) nLMixed ["_law_key", "_law_k"] [0] rfl (pi_list (pv 2)) (fun _ _ _ _ _ => pg_tupK 2 K rfl (pgs_cons (pg_lc 0) (pgs_cons (pg_lc 1) pgs_nil))) (fun _ _ _ _ _ => pcs_nil) (fun _ _ _ _ _ => (pe_ix (ix_listK K) (pv 2) (pv 1) (fun _ _ => rfl))))))), ?_⟩
    refine ⟨_, rfl, .ref l, _, rfl, .inl ⟨_, SqL.of hl, rfl⟩, _, rfl, by omega, by omega, ?_⟩
    refine lc_map ((us.length : Int).toNat) (fun i => .int (0 + (i : Int))) (fun i v H => ∃ b x, v = .ref b ∧ H b = some (.tup [.int x, .int (0 + (i : Int))])) (few_size (by omega)) (fun i v H H' s ⟨b, x, e, h⟩ => ⟨b, x, e, s _ _ h⟩) jt_range ?_ ?_
    · intro i H3 Qe hi hs kq
      refine ⟨_, rfl, _, _, rfl, rfl, _, rfl, _, _, rfl, rfl, _, _, rfl, rfl, .inl ⟨by omega, by omega⟩, _, _, rfl, rfl, (by show (0 : Int) < 1000003; decide), _, rfl, few_size (show 2 ≤ 1000 by decide), fun p hp => ?_⟩
      exact kq _ _ (same_upd_new hp) ⟨p, _, rfl, upd_same⟩
    intro D1 vs H3 hvl hvr s3 hD1 hD2
    obtain ⟨rs, ers, hrs⟩ := pairs_of (H := H3) (n := us.length) vs fun v hv => by
      obtain ⟨i, hi, e⟩ := List.getElem_of_mem hv
      obtain ⟨b, x, e1, e2⟩ := hvr i v (by rw [List.getElem?_eq_getElem hi, e])
      exact ⟨b, x, _, e1, e2, by omega, by omega⟩
    rw [ers] at hD2 hvl
    rw [List.length_map] at hvl
    refine ⟨D1, rs, rfl, SqL.of hD2, fun r hr => (hrs r hr).1, by omega, fun p rs' hp hpm => ?_⟩
    have s4 := same_upd_new (o := .lst (rs'.map fun r => V.ref r.1)) hp
    have hl4 := s4 _ _ (s3 _ _ hl)
    have hp4 : (upd H3 p (.lst (rs'.map fun r => V.ref r.1))) p = some (.lst (rs'.map fun r => V.ref r.1)) := upd_same
    have hlen := hpm.length_eq
    have hrs' : ∀ r ∈ rs', (upd H3 p (.lst (rs'.map fun r => V.ref r.1))) r.1 = some (.tup [.int r.2.1, .int r.2.2]) ∧ 0 ≤ r.2.2 ∧ r.2.2 < us.length := fun r hr => by
      obtain ⟨g1, g2⟩ := hrs r (hpm.mem_iff.mp hr)
      exact ⟨s4 _ _ g1, g2⟩
    have hall4 : AllT (upd H3 p (.lst (rs'.map fun r => V.ref r.1))) us := hall.tsame (s3.trans s4).tup
    have ss4 := s3.trans s4
    generalize upd H3 p (.lst (rs'.map fun r => V.ref r.1)) = H4 at *
    refine ⟨_, rfl, p, rfl, ⟨_, SqL.of hp4⟩, lc_map rs'.length (fun i => (rs'.map fun r => V.ref r.1).getD i .non) (fun i v H => Tie3 H v) (few_size (by omega)) (fun i v H H' s r => r.tsame s) (by have := jt_list (SqL.of (K := K) hp4); rw [List.length_map] at this; exact this) ?_ ?_⟩
    · intro i H5 Qe hi hs kq
      rw [getD_mapV hi]
      obtain ⟨g1, g2, g3⟩ := hrs' rs'[i] (List.getElem_mem hi)
      have hx : rs'[i].2.2.toNat < us.length := by omega
      refine ⟨_, _, rfl, SqT.of (hs _ _ g1), rfl, _, _, rfl, _, _, rfl, rfl, _, rfl, _, rfl, l, us, rs'[i].2.2, us[rs'[i].2.2.toNat], rfl, rfl, SqL.of (hs _ _ hl4), item_at g2 (List.getElem?_eq_getElem hx), kq _ _ (Same.refl _) ?_⟩
      exact (hall4 _ (List.getElem_mem hx)).tsame hs.tup
    intro D2 vs2 H5 hvl2 hvr2 s5 hD3 hD4
    refine k D2 H5 vs2 (ss4.trans s5) hD4 (by omega) fun v hv => ?_
    obtain ⟨i, hi, e⟩ := List.getElem_of_mem hv
    exact hvr2 i v (by rw [List.getElem?_eq_getElem hi, e])
end
end Sh

set_option Elab.async false
set_option linter.all false
set_option maxRecDepth 100000
namespace Sh
open PySem L2 PyProof.Rows
seal L2.PE L2.PS L2.PSs L2.PT L2.PW L2.PA L2.PI L2.PG L2.PGs L2.PO L2.PC L2.PCs L2.OpR L2.UnR L2.CallR L2.MtR L2.IxR L2.SlR
section
variable {P : Program} {w : World} {K : PySem.W.Frag} {mg : Str → Option Value} {base : Heap}
abbrev sLCase : Stmt := top 9
abbrev nLCase : List Str := ["_law_cells", "_law_seed_here", "_law_names_here", "_law_ties", "_law_begin", "_law_way", "_law_at", "_law_one"]
theorem scLCase : FnScope nLCase ["_law_cells", "_law_seed_here"] (defScope sLCase) := ⟨rfl, rfl, rfl, by decide +kernel, rfl, by decide +kernel, by decide +kernel⟩
def spCase (K : PySem.W.Frag) : Sp := fun vs H Q _ => ∃ (a : Addr) (ns : List Int) (sd : Int), vs = [.ref a, .int sd] ∧ SqL K H a (ns.map V.int) ∧ ns.length ≤ 63 ∧ 0 ≤ sd ∧ sd < 999999937 ∧ ∀ p q H' vs b, Same H H' → H' p = some (.lst [.ref q, .str b]) → H' q = some (.lst vs) → vs.length ≤ 130 → AllT H' vs → TOk b → Q (.ref p) H'
set_option maxHeartbeats 16000000 in
theorem ok_l_case (D : HasDef K mg "_law_case" sLCase ["_law_cells", "_law_seed_here"]) (B : Blt mg) (G__law_names : FOk P w K mg base 1 "_law_names" ["_law_seed_here"] spNames) (G__law_walked : FOk P w K mg base 1 "_law_walked" ["_law_cells", "_law_names_here"] (spWalked K)) (G__law_mixed : FOk P w K mg base 1 "_law_mixed" ["_law_ties", "_law_seed_here"] spMixed) : FOk P w K mg base 2 "_law_case" ["_law_cells", "_law_seed_here"] (spCase K) := by
  refine D.ok scLCase (fun vs H Q E h => ?_) (fun f cdv A outer s H vs Q E hr h => ?_)
  · obtain ⟨a, ns, sd, rfl, _⟩ := h
    rfl
  · obtain ⟨a, ns, sd, rfl, ha, hnl, h0, h1, k⟩ := h
    refine ⟨_, (pss_cons (ps_set (i := 2) scLCase.nd rfl (Or.inl rfl) (pe_fn G__law_names hr (pa_cons (pv 1) pa_nil)))
      (pss_cons (ps_set (i := 3) scLCase.nd rfl (Or.inl rfl) (pe_fn G__law_mixed hr (pa_cons (pe_fn G__law_walked hr (pa_cons (pv 0) (pa_cons (pv 2) pa_nil))) (pa_cons (pv 1) pa_nil))))
      (pss_cons (ps_set (i := 4) scLCase.nd rfl (Or.inl rfl) (pe_ix ix_list (pv 2) pe_int (fun _ _ => rfl)))
      (pss_cons (ps_set (i := 5) scLCase.nd rfl (Or.inl rfl) (pe_op op_mod (pe_op op_fdiv (pv 1) pe_int) pe_int))
      (pss_cons (ps_set (i := 6) scLCase.nd rfl (Or.inl rfl) (pe_op op_mod (pe_op op_fdiv (pv 1) pe_int) (pe_op op_add (pe_callB call_len rfl B.len b_len (pa_cons (pv 3) pa_nil)) pe_int)))
      (pss_cons (ps_set (i := 7) scLCase.nd rfl (Or.inl rfl) (pe_ix ix_list (pv 2) (pe_op op_mod (pe_op op_fdiv (pv 1) pe_int) (pe_callB call_len rfl B.len b_len (pa_cons (pv 2) pa_nil))) (fun _ _ => rfl)))
      (pss_cons (ps_if (pt_cmpR op_eq (pv 5) pe_int (nomark _)) (pss_one (ps_set (i := 3) scLCase.nd rfl (Or.inl rfl) (pe_op op_cat (pe_slice sl_list (pv 3) po_none (po_some (pv 6))) (pe_slice sl_list (pv 3) (po_some (pe_op op_add (pv 6) pe_int)) po_none)))) pss_nil)
      (pss_cons (ps_if (pt_cmpR op_eq (pv 5) pe_int (nomark _)) (pss_one (ps_set (i := 3) scLCase.nd rfl (Or.inl rfl) (pe_op op_cat (pe_op op_cat (pe_slice sl_list (pv 3) po_none (po_some (pv 6))) (pe_lst (pa_cons (pe_tup (pa_cons (pv 7) (pa_cons pe_str (pa_cons (pe_ix ix_list (pv 2) (pe_op op_mod (pe_op op_fdiv (pv 1) pe_int) (pe_callB call_len rfl B.len b_len (pa_cons (pv 2) pa_nil))) (fun _ _ => rfl)) pa_nil)))) pa_nil))) (pe_slice sl_list (pv 3) (po_some (pv 6)) po_none)))) pss_nil)
      (pss_cons (ps_if (pt_cmpR op_eq (pv 5) pe_int (nomark _)) (pss_one (ps_set (i := 4) scLCase.nd rfl (Or.inl rfl) (pv 7))) pss_nil)
      (pss_cons (ps_if (pt_cmpR op_eq (pv 5) pe_int (nomark _)) (pss_one (ps_set (i := 3) scLCase.nd rfl (Or.inl rfl) (pe_op op_cat (pe_op op_cat (pe_slice sl_list (pv 3) po_none (po_some (pv 6))) (pe_lst (pa_cons (pe_tup (pa_cons pe_str (pa_cons pe_str (pa_cons pe_str pa_nil)))) (pa_cons (pe_tup (pa_cons pe_str (pa_cons pe_str (pa_cons pe_str pa_nil)))) (pa_cons (pe_tup (pa_cons pe_str (pa_cons pe_str (pa_cons pe_str pa_nil)))) pa_nil))))) (pe_slice sl_list (pv 3) (po_some (pv 6)) po_none)))) pss_nil)
      (pss_one (ps_ret (pe_lst (pa_cons (pv 3) (pa_cons (pv 4) pa_nil))))))))))))))), ?_⟩
    refine ⟨_, rfl, sd, rfl, h0, h1, fun nm H1 ss s1 hnm hN => ?_⟩
    obtain ⟨n3, n8, nok⟩ := id hN
    refine ⟨_, rfl, _, rfl, a, nm, ns, ss, rfl, Same.seq s1 ha, hnl, hnm, hN, fun l1 H2 us s2 hl1 hul hall => ?_⟩
    refine ⟨_, rfl, l1, us, sd, rfl, hl1, hul, hall, h0, h1, fun q0 H3 vs s3 hq0 hvl hall3 => ?_⟩
    have hnm3 := s3 _ _ (s2 _ _ hnm)
    obtain ⟨b0, hb0, e0⟩ := menuS (ts := ss) (i := 0) (by decide) (by omega)
    refine ⟨_, rfl, nm, _, 0, _, rfl, rfl, SqL.of hnm3, e0, ?_⟩
    refine ⟨_, rfl, _, _, rfl, rfl, ⟨by decide, by decide⟩, _, _, rfl, rfl, (by show (0 : Int) < 8; decide), ?_⟩
    refine ⟨_, rfl, _, _, rfl, rfl, ⟨by decide, by decide⟩, _, rfl, .ref q0, _, rfl, .inl ⟨_, SqL.of hq0, rfl⟩, _, _, rfl, rfl, _, _, rfl, rfl, (by show (0 : Int) < (vs.length : Int) + 1; omega), ?_⟩
    have hlp : (0 : Int) < ((ss.map V.str).length : Int) := by rw [List.length_map]; omega
    have mb := emod_bd (sd / 17) hlp
    obtain ⟨on, hon, e1⟩ := menuS (ts := ss) (i := sd / 17 % ((ss.map V.str).length : Int)) mb.1 (by have := mb.2; rw [List.length_map] at this ⊢; exact this)
    refine ⟨_, rfl, _, rfl, _, _, rfl, rfl, ⟨by decide, by decide⟩, _, rfl, .ref nm, _, rfl, .inl ⟨_, SqL.of hnm3, rfl⟩, _, _, rfl, rfl, hlp, nm, _, _, _, rfl, rfl, SqL.of hnm3, e1, ?_⟩
    generalize hwy : sd / 3 % 8 = wy
    generalize hat : sd / 13 % ((vs.length : Int) + 1) = at_
    have sA := s1.trans (s2.trans s3)
    dsimp only
    have hok0 := nok b0 hb0
    have hok1 := nok on hon
    -- four choices
    refine seq_any (fun σ H4 => ∃ (q : Addr) (vs : List V), σ = [some (.ref a), some (.int sd), some (.ref nm), some (.ref q), some (.str b0), some (.int wy), some (.int at_), some (.str on)] ∧ Same H3 H4 ∧ H4 q = some (.lst vs) ∧ (vs.length ≤ 63 ∨ (wy = 4 ∧ vs.length ≤ 126)) ∧ AllT H4 vs) (fun R hR => ?_) ?_
    · refine ⟨_, rfl, rfl, _, rfl, ?_⟩
      by_cases c : wy = 4
      · refine iteP (by rw [← c, ← hwy]; exact int_is rfl) ?_
        refine ⟨_, rfl, _, rfl, _, rfl, q0, _, rfl, SqL.of hq0, fun p1 hp1 => ?_⟩
        have t1 := same_upd_new (o := .lst (cutV vs none (some (sd / 13 % ((vs.length : Int) + 1))))) hp1
        refine ⟨_, rfl, _, rfl, _, _, rfl, rfl, _, rfl, q0, _, rfl, SqL.of (t1 _ _ hq0), fun p2 hp2 => ?_⟩
        have t2 := same_upd_new (o := .lst (cutV vs (some (sd / 13 % ((vs.length : Int) + 1) + 1)) none)) hp2
        have z1 := cutV_length vs none (some (sd / 13 % ((vs.length : Int) + 1)))
        have z2 := cutV_length vs (some (sd / 13 % ((vs.length : Int) + 1) + 1)) none
        refine ⟨p1, p2, _, _, rfl, rfl, t2 _ _ upd_same, upd_same, few_size (by omega), fun p3 hp3 => ?_⟩
        have t3 := same_upd_new (o := .lst (cutV vs none (some (sd / 13 % ((vs.length : Int) + 1))) ++ cutV vs (some (sd / 13 % ((vs.length : Int) + 1) + 1)) none)) hp3
        refine hR _ _ ⟨p3, _, by rw [← hwy, ← hat]; rfl, (t1.trans t2).trans t3, upd_same, .inr ⟨c, by rw [List.length_append]; omega⟩, fun v hv => ?_⟩
        rcases List.mem_append.mp hv with z | z
        · exact (hall3 v (cutV_mem z)).tsame ((t1.trans t2).trans t3).tup
        · exact (hall3 v (cutV_mem z)).tsame ((t1.trans t2).trans t3).tup
      · exact iteM (by rw [← hwy] at c; exact int_ne c) (hR _ _ ⟨q0, vs, by rw [← hwy, ← hat]; rfl, Same.refl _, hq0, .inl hvl, hall3⟩)
    clear hat hq0 hall3 hvl
    clear vs q0
    rintro σ H4 ⟨q0, vs, rfl, s4, hq0, hvl, hall3⟩
    have hnm4 := s4 _ _ hnm3
    refine seq_any (fun σ H4 => ∃ (q : Addr) (vs : List V), σ = [some (.ref a), some (.int sd), some (.ref nm), some (.ref q), some (.str b0), some (.int wy), some (.int at_), some (.str on)] ∧ Same H3 H4 ∧ H4 q = some (.lst vs) ∧ (vs.length ≤ 63 ∨ (wy = 4 ∧ vs.length ≤ 126) ∨ (wy = 5 ∧ vs.length ≤ 127)) ∧ AllT H4 vs) (fun R hR => ?_) ?_
    · refine ⟨_, rfl, rfl, _, rfl, ?_⟩
      by_cases c : wy = 5
      · have hvl' : vs.length ≤ 63 := by omega
        refine iteP (by rw [← c]; exact int_is rfl) ?_
        refine ⟨_, rfl, _, rfl, _, rfl, q0, _, rfl, SqL.of hq0, fun p1 hp1 => ?_⟩
        have t1 := same_upd_new (o := .lst (cutV vs none (some at_))) hp1
        have mb2 := emod_bd (sd / 31) hlp
        obtain ⟨o2, ho2, e2⟩ := menuS (ts := ss) (i := sd / 31 % ((ss.map V.str).length : Int)) mb2.1 (by have := mb2.2; rw [List.length_map] at this ⊢; exact this)
        refine ⟨_, rfl, _, rfl, _, rfl, _, _, rfl, rfl, ⟨by decide, by decide⟩, _, rfl, .ref nm, _, rfl, .inl ⟨_, SqL.of (t1 _ _ hnm4), rfl⟩, _, _, rfl, rfl, hlp, nm, _, _, _, rfl, rfl, SqL.of (t1 _ _ hnm4), e2, few_size (show 3 ≤ 1000 by decide), fun p2 hp2 => ?_⟩
        have t2 := same_upd_new (o := .tup [.str on, .str "m", .str o2]) hp2
        refine ⟨few_size (show 1 ≤ 1000 by decide), fun p3 hp3 => ?_⟩
        have t3 := same_upd_new (o := .lst [.ref p2]) hp3
        have z1 := cutV_length vs none (some at_)
        have z2 := cutV_length vs (some at_) none
        refine ⟨p1, p3, _, _, rfl, rfl, t3 _ _ (t2 _ _ upd_same), upd_same, few_size (by show _ + 1 ≤ _; omega), fun p4 hp4 => ?_⟩
        have t4 := same_upd_new (o := .lst (cutV vs none (some at_) ++ [.ref p2])) hp4
        refine ⟨_, rfl, _, rfl, _, rfl, q0, _, rfl, SqL.of (t4 _ _ (t3 _ _ (t2 _ _ (t1 _ _ hq0)))), fun p5 hp5 => ?_⟩
        have t5 := same_upd_new (o := .lst (cutV vs (some at_) none)) hp5
        refine ⟨p4, p5, _, _, rfl, rfl, t5 _ _ upd_same, upd_same, few_size (by rw [List.length_append, List.length_singleton]; omega), fun p6 hp6 => ?_⟩
        have t6 := same_upd_new (o := .lst ((cutV vs none (some at_) ++ [.ref p2]) ++ cutV vs (some at_) none)) hp6
        have tt := ((((t1.trans t2).trans t3).trans t4).trans t5).trans t6
        have ht2 := t6 _ _ (t5 _ _ (t4 _ _ (t3 _ _ (upd_same (H := upd H4 p1 (.lst (cutV vs none (some at_)))) (a := p2) (o := .tup [.str on, .str "m", .str o2])))))
        refine hR _ _ ⟨p6, _, rfl, s4.trans tt, upd_same, .inr (.inr ⟨c, by rw [List.length_append, List.length_append, List.length_singleton]; omega⟩), fun v hv => ?_⟩
        rcases List.mem_append.mp hv with z | z
        · rcases List.mem_append.mp z with z | z
          · exact (hall3 v (cutV_mem z)).tsame tt.tup
          · rw [List.mem_singleton.mp z]
            exact ⟨p2, on, "m", o2, rfl, ht2, hok1, tok_lit (by decide) (by decide +kernel), nok o2 ho2⟩
        · exact (hall3 v (cutV_mem z)).tsame tt.tup
      · exact iteM (int_ne c) (hR _ _ ⟨q0, vs, rfl, s4, hq0, by omega, hall3⟩)
    clear hnm4 hall3 hq0 hvl s4
    clear vs q0 H4
    rintro σ H4 ⟨q0, vs, rfl, s4, hq0, hvl, hall3⟩
    refine seq_any (fun σ H4 => ∃ (q : Addr) (vs : List V) (b : Str), σ = [some (.ref a), some (.int sd), some (.ref nm), some (.ref q), some (.str b), some (.int wy), some (.int at_), some (.str on)] ∧ Same H3 H4 ∧ H4 q = some (.lst vs) ∧ (vs.length ≤ 63 ∨ (wy = 4 ∧ vs.length ≤ 126) ∨ (wy = 5 ∧ vs.length ≤ 127)) ∧ AllT H4 vs ∧ TOk b) (fun R hR => ?_) ?_
    · refine ⟨_, rfl, rfl, _, rfl, ?_⟩
      by_cases c : wy = 6
      · exact iteP (by rw [← c]; exact int_is rfl) ⟨_, rfl, hR _ _ ⟨q0, vs, on, rfl, s4, hq0, hvl, hall3, hok1⟩⟩
      · exact iteM (int_ne c) (hR _ _ ⟨q0, vs, b0, rfl, s4, hq0, hvl, hall3, hok0⟩)
    clear hall3 hq0 hvl s4
    clear vs q0 H4
    rintro σ H4 ⟨q0, vs, bb, rfl, s4, hq0, hvl, hall3, hbok⟩
    have fin : ∀ (H5 : Hp) (q : Addr) (us : List V), Same H3 H5 → H5 q = some (.lst us) → us.length ≤ 130 → AllT H5 us → ∀ l, H5 l = none → Q (.ref l) (upd H5 l (.lst [.ref q, .str bb])) := fun H5 q us s5 hq hul hal l hl => by
      have t := same_upd_new (o := .lst [.ref q, .str bb]) hl
      exact k l q _ us bb ((sA.trans s5).trans t) upd_same (t _ _ hq) hul (hal.tsame t.tup) hbok
    refine ⟨_, rfl, rfl, _, rfl, ?_⟩
    by_cases c : wy = 7
    · have hvl' : vs.length ≤ 63 := by omega
      refine iteP (by rw [← c]; exact int_is rfl) ?_
      refine ⟨_, rfl, _, rfl, _, rfl, q0, _, rfl, SqL.of hq0, fun p1 hp1 => ?_⟩
      have t1 := same_upd_new (o := .lst (cutV vs none (some at_))) hp1
      refine ⟨few_size (show 3 ≤ 1000 by decide), fun p2 hp2 => ⟨few_size (show 3 ≤ 1000 by decide), fun p3 hp3 => ⟨few_size (show 3 ≤ 1000 by decide), fun p4 hp4 => ⟨few_size (show 3 ≤ 1000 by decide), fun p5 hp5 => ?_⟩⟩⟩⟩
      have t2 := same_upd_new (o := .tup [.str "round", .str "", .str "about"]) hp2
      have t3 := same_upd_new (o := .tup [.str "about", .str "", .str "further"]) hp3
      have t4 := same_upd_new (o := .tup [.str "further", .str "z", .str "round"]) hp4
      have t5 := same_upd_new (o := .lst [.ref p2, .ref p3, .ref p4]) hp5
      have z1 := cutV_length vs none (some at_)
      have z2 := cutV_length vs (some at_) none
      refine ⟨p1, p5, _, _, rfl, rfl, t5 _ _ (t4 _ _ (t3 _ _ (t2 _ _ upd_same))), upd_same, few_size (by show _ + 3 ≤ _; omega), fun p6 hp6 => ?_⟩
      have t6 := same_upd_new (o := .lst (cutV vs none (some at_) ++ [.ref p2, .ref p3, .ref p4])) hp6
      have t16 := ((((t1.trans t2).trans t3).trans t4).trans t5).trans t6
      refine ⟨_, rfl, _, rfl, _, rfl, q0, _, rfl, SqL.of (t16 _ _ hq0), fun p7 hp7 => ?_⟩
      have t7 := same_upd_new (o := .lst (cutV vs (some at_) none)) hp7
      refine ⟨p6, p7, _, _, rfl, rfl, t7 _ _ upd_same, upd_same, few_size (by rw [List.length_append]; show _ + 3 + _ ≤ _; omega), fun p8 hp8 => ?_⟩
      have t8 := same_upd_new (o := .lst ((cutV vs none (some at_) ++ [.ref p2, .ref p3, .ref p4]) ++ cutV vs (some at_) none)) hp8
      have tt := (t16.trans t7).trans t8
      have u5 : Same _ _ := (t5.trans t6).trans (t7.trans t8)
      have g4 := u5 _ _ (upd_same (a := p4))
      have g3 := u5 _ _ (t4 _ _ (upd_same (a := p3)))
      have g2 := u5 _ _ (t4 _ _ (t3 _ _ (upd_same (a := p2))))
      refine ⟨_, rfl, _, rfl, few_size (show 2 ≤ 1000 by decide), fin _ p8 _ (s4.trans tt) upd_same (by rw [List.length_append, List.length_append]; show _ + 3 + _ ≤ _; omega) fun v hv => ?_⟩
      rcases List.mem_append.mp hv with z | z
      · rcases List.mem_append.mp z with z | z
        · exact (hall3 v (cutV_mem z)).tsame tt.tup
        · simp only [List.mem_cons, List.not_mem_nil, or_false] at z
          rcases z with z | z | z
          · rw [z]; exact ⟨p2, _, _, _, rfl, g2, tok_lit (by decide) (by decide +kernel), tok_lit (by decide) (by decide +kernel), tok_lit (by decide) (by decide +kernel)⟩
          · rw [z]; exact ⟨p3, _, _, _, rfl, g3, tok_lit (by decide) (by decide +kernel), tok_lit (by decide) (by decide +kernel), tok_lit (by decide) (by decide +kernel)⟩
          · rw [z]; exact ⟨p4, _, _, _, rfl, g4, tok_lit (by decide) (by decide +kernel), tok_lit (by decide) (by decide +kernel), tok_lit (by decide) (by decide +kernel)⟩
      · exact (hall3 v (cutV_mem z)).tsame tt.tup
    · exact iteM (int_ne c) ⟨_, rfl, _, rfl, few_size (show 2 ≤ 1000 by decide), fin H4 q0 vs s4 hq0 (by omega) hall3⟩
end
end Sh

set_option Elab.async false
set_option linter.all false
set_option maxRecDepth 100000
namespace Sh
open PySem L2 PyProof.Rows
seal L2.PE L2.PS L2.PSs L2.PT L2.PW L2.PA L2.PI L2.PG L2.PGs L2.PO L2.PC L2.PCs L2.OpR L2.UnR L2.CallR L2.MtR L2.IxR L2.SlR
theorem nd_le {F : List Str} : ∀ {ks : List Str}, F.Nodup → (∀ x ∈ F, x ∈ ks) → F.length ≤ ks.length := by
  induction F with
  | nil => exact fun _ _ => Nat.zero_le _
  | cons x F ih =>
    intro ks h1 h2
    have nd' := List.nodup_cons.mp h1
    have hx := h2 x (List.mem_cons_self ..)
    have := ih (ks := ks.erase x) nd'.2 fun y hy => (List.mem_erase_of_ne (fun (q : y = x) => nd'.1 (q ▸ hy))).mpr (h2 y (List.mem_cons_of_mem _ hy))
    rw [List.length_erase_of_mem hx] at this
    have hpos : 0 < ks.length := List.length_pos_of_mem hx
    rw [List.length_cons]
    omega
theorem addK_nd {ks : List Str} {x : Str} (h : ks.Nodup) : (addK ks x).Nodup := by
  unfold addK
  split
  · exact h
  · rename_i c
    exact List.nodup_append.mpr ⟨h, by simp, fun a ha b hb e => by rw [List.mem_singleton.mp hb] at e; subst e; exact c ha⟩
theorem addK_or (F : List Str) (x : Str) : addK F x = F ∨ F.length < (addK F x).length := by
  unfold addK
  split
  · exact .inl rfl
  · right
    rw [List.length_append, List.length_singleton]
    omega
theorem addK_in {F : List Str} {x y : Str} : y ∈ addK F x ↔ y ∈ F ∨ y = x := by
  unfold addK
  split
  · next h => exact ⟨.inl, fun z => z.elim id fun e => e ▸ h⟩
  · simp
/-- a dict of texts that are there -/
def bD (ks : List Str) : List (Key × V) := ks.map fun x => ((Sum.inr x : Key), V.bl true)
theorem bD_len (ks : List Str) : (bD ks).length = ks.length := by unfold bD; rw [List.length_map]
theorem bD_val (ks : List Str) (y : Str) : valV (bD ks) (Sum.inr y) = if y ∈ ks then some (.bl true) else none := valV_ks (fun _ => V.bl true) y ks
theorem bD_put (ks : List Str) (y : Str) : putK (bD ks) (Sum.inr y) (.bl true) = bD (addK ks y) := by
  unfold addK
  by_cases m : y ∈ ks
  · rw [if_pos m]
    unfold bD
    rw [put_ks_old _ _ _ _ m]
    refine List.map_congr_left fun x _ => ?_
    simp
  · rw [if_neg m, putK_new _ (by rw [bD_val, if_neg m])]
    unfold bD
    rw [List.map_append, List.map_singleton]

/-- all points -/
def allP (ts : Ts) : List Str := ts.map (·.1) ++ ts.map (·.2)
theorem allP_len (ts : Ts) : (allP ts).length = 2 * ts.length := by
  unfold allP
  rw [List.length_append, List.length_map, List.length_map]
  omega
theorem frm_in {ts : Ts} {i : Nat} (h : i < ts.length) : frm ts i ∈ allP ts := by
  unfold allP frm
  rw [List.getD_eq_getElem?_getD, List.getElem?_eq_getElem h]
  exact List.mem_append_left _ (List.mem_map_of_mem (List.getElem_mem h))
theorem tow_in {ts : Ts} {i : Nat} (h : i < ts.length) : tow ts i ∈ allP ts := by
  unfold allP tow
  rw [List.getD_eq_getElem?_getD, List.getElem?_eq_getElem h]
  exact List.mem_append_right _ (List.mem_map_of_mem (List.getElem_mem h))
structure Cm (ts : Ts) (b : Str) (F : List Str) : Prop where
  nd : F.Nodup
  fst : b ∈ F
  rch : ∀ x ∈ F, RchT ts b x
  inn : ∀ x ∈ F, x ∈ b :: allP ts
theorem Cm.le {ts : Ts} {b : Str} {F : List Str} (h : Cm ts b F) : F.length ≤ 2 * ts.length + 1 := by
  have := nd_le h.nd h.inn
  rw [List.length_cons, allP_len] at this
  exact this
theorem Cm.add {ts : Ts} {b : Str} {F : List Str} (h : Cm ts b F) {i : Nat} (hi : i < ts.length) (hh : frm ts i ∈ F ∨ tow ts i ∈ F) : Cm ts b (addK (addK F (frm ts i)) (tow ts i)) := by
  have r1 : RchT ts b (frm ts i) ∧ RchT ts b (tow ts i) := by
    rcases hh with z | z
    · exact ⟨h.rch _ z, .step (h.rch _ z) ⟨i, hi, .inl ⟨rfl, rfl⟩⟩⟩
    · exact ⟨.step (h.rch _ z) ⟨i, hi, .inr ⟨rfl, rfl⟩⟩, h.rch _ z⟩
  refine ⟨addK_nd (addK_nd h.nd), by simp [addK_in, h.fst], fun x hx => ?_, fun x hx => ?_⟩
  · rcases addK_in.mp hx with z | z
    · rcases addK_in.mp z with z | z
      · exact h.rch _ z
      · rw [z]; exact r1.1
    · rw [z]; exact r1.2
  · rcases addK_in.mp hx with z | z
    · rcases addK_in.mp z with z | z
      · exact h.inn _ z
      · rw [z]; exact List.mem_cons_of_mem _ (frm_in hi)
    · rw [z]; exact List.mem_cons_of_mem _ (tow_in hi)
def Cls (ts : Ts) (n : Nat) (F F' : List Str) : Prop := ∀ i, i < n → i < ts.length → (frm ts i ∈ F ∨ tow ts i ∈ F) → frm ts i ∈ F' ∧ tow ts i ∈ F'
section
variable {P : Program} {w : World} {K : PySem.W.Frag} {mg : Str → Option Value} {base : Heap}
abbrev sLCome : Stmt := top 10
abbrev nLCome : List Str := ["_law_ties", "_law_begin", "_law_come_here", "_law_many", "_law_here", "_law_signs", "_law_there"]
theorem scLCome : FnScope nLCome ["_law_ties", "_law_begin"] (defScope sLCome) := ⟨rfl, rfl, rfl, by decide +kernel, rfl, by decide +kernel, by decide +kernel⟩
def spCome : Sp := fun vs H Q _ => ∃ (q : Addr) (b : Str) (us : List V) (ts : Ts), vs = [.ref q, .str b] ∧ H q = some (.lst us) ∧ TyA H us ts ∧ ts.length ≤ 400 ∧ ∀ d H' F, Same H H' → H' d = some (.dK (bD F)) → F.Nodup → F.length ≤ 900 → (∀ x, x ∈ F ↔ RchT ts b x) → Q (.ref d) H'
set_option maxHeartbeats 16000000 in
theorem ok_l_come (D : HasDef K mg "_law_come" sLCome ["_law_ties", "_law_begin"]) (B : Blt mg) : FOk P w K mg base 1 "_law_come" ["_law_ties", "_law_begin"] spCome := by
  refine D.ok scLCome (fun vs H Q E h => ?_) (fun f cdv A outer s H vs Q E hr h => ?_)
  · obtain ⟨q, b, us, ts, rfl, _⟩ := h
    rfl
  · obtain ⟨q, b, vs, ts, rfl, hq, hty, hlen, k⟩ := h
    have hu := hu_of hr
    refine ⟨_, (pss_cons (ps_set (i := 2) scLCome.nd rfl (Or.inl rfl) (pe_disp (pps_cons (pv 1) pe_bl pps_nil) rfl rfl (List.cons_ne_nil _ _) (by decide)))
      (pss_cons (ps_set (i := 3) scLCome.nd rfl (Or.inl rfl) pe_int)
      (pss_cons (ps_while PassesOwn.never (pt_cmpR op_lt (pv 3) (pe_callB call_lenD rfl B.len b_len (pa_cons (pv 2) pa_nil)) (nomark _))
        (pss_cons (ps_set (i := 3) scLCome.nd rfl (Or.inl rfl) (pe_callB call_lenD rfl B.len b_len (pa_cons (pv 2) pa_nil)))
      (pss_one (ps_for PassesOwn.never rfl (pi_list (pv 0)) (pg_tupK 3 K rfl (pgs_cons (pg_name (i := 4) scLCome.nd rfl (Or.inl rfl)) (pgs_cons (pg_name (i := 5) scLCome.nd rfl (Or.inl rfl)) (pgs_cons (pg_name (i := 6) scLCome.nd rfl (Or.inl rfl)) pgs_nil))))
        (pss_one (ps_if (PW.pt (pw_or (pt_cmp (pc_din hu (pv 4) (pv 2))) (pw_or1 (pt_cmp (pc_din hu (pv 6) (pv 2)))))) (pss_cons (ps_dput hu (pv 2) (pv 4) pe_bl rfl)
      (pss_one (ps_dput hu (pv 2) (pv 6) pe_bl rfl))) pss_nil))))))
      (pss_one (ps_ret (pv 2)))))), ?_⟩
    have hvl := hty.1
    intro d hd
    refine ⟨_, rfl, upd_same, [((Sum.inr b : Key), V.bl true)], rfl, by simp, ?_⟩
    rw [upd_upd]
    have s2 : Same H (upd H d (.dK (mergeK [] [((Sum.inr b : Key), V.bl true)]))) := same_upd_new hd
    have hd2 : (upd H d (.dK (mergeK [] [((Sum.inr b : Key), V.bl true)]))) d = some (.dK (bD [b])) := upd_same
    generalize upd H d (.dK (mergeK [] [((Sum.inr b : Key), V.bl true)])) = H2 at s2 hd2
    have sh : ∀ {H4 : Hp} (o : HO), Same H H4 → Same H (upd H4 d o) := fun o s b u hb => by
      rw [upd_ne (ne_of_none hb hd)]
      exact s b u hb
    try dsimp only [gName]
    show tSeq (tWhile _ _) _ _ _ _
    refine seq_any (fun σ H4 => ∃ (F : List Str) (z3 z4 z5 z6 : Option V), σ = [some (.ref q), some (.str b), some (.ref d), z3, z4, z5, z6] ∧ Same H H4 ∧ H4 d = some (.dK (bD F)) ∧ Cm ts b F ∧ Cls ts ts.length F F) (fun R hR => ?_) ?_
    · refine ⟨fun m σ H4 => ∃ (F : List Str) (n : Nat) (z4 z5 z6 : Option V), σ = [some (.ref q), some (.str b), some (.ref d), some (.int (n : Int)), z4, z5, z6] ∧ Same H H4 ∧ H4 d = some (.dK (bD F)) ∧ Cm ts b F ∧ (n < F.length ∨ Cls ts ts.length F F) ∧ m = 1000 - n,
        ⟨_, [b], 0, none, none, none, rfl, s2, hd2, ⟨by simp, by simp, (fun x hx => by rw [List.mem_singleton.mp hx]; exact .here), fun x hx => by rw [List.mem_singleton.mp hx]; exact List.mem_cons_self ..⟩, .inl (by simp), rfl⟩, ?_⟩
      rintro m σ H4 ⟨F, n, z4, z5, z6, rfl, s4, hd4, hW, hor, hm⟩
      have hle := hW.le
      refine ⟨_, rfl, _, rfl, d, _, rfl, hd4, _, _, rfl, rfl, _, rfl, ?_⟩
      rw [bD_len]
      by_cases c : ¬ n < F.length
      · refine iteM (decide_eq_false (by omega)) (hR _ _ ⟨F, _, z4, z5, z6, rfl, s4, hd4, hW, hor.resolve_left c⟩)
      have c := Classical.not_not.mp c
      refine iteP (decide_eq_true (by omega)) ?_
      refine ⟨fun σ' H' => ∃ m', m' < m ∧ ∃ (F : List Str) (n : Nat) (z4 z5 z6 : Option V), σ' = [some (.ref q), some (.str b), some (.ref d), some (.int (n : Int)), z4, z5, z6] ∧ Same H H' ∧ H' d = some (.dK (bD F)) ∧ Cm ts b F ∧ (n < F.length ∨ Cls ts ts.length F F) ∧ m' = 1000 - n, fun _ _ z => z, ?_⟩
      refine ⟨_, rfl, d, _, rfl, hd4, ?_⟩
      rw [bD_len]
      refine ⟨_, rfl, q, rfl, ⟨_, SqL.of (s4 _ _ hq)⟩, ?_⟩
      refine for_list (K := K) (a := q) (xs := vs) (fun j σ' H' => ∃ (F' : List Str) (z4 z5 z6 : Option V), σ' = [some (.ref q), some (.str b), some (.ref d), some (.int (F.length : Int)), z4, z5, z6] ∧ Same H H' ∧ H' d = some (.dK (bD F')) ∧ Cm ts b F' ∧ (F' = F ∨ F.length < F'.length) ∧ (∀ x ∈ F, x ∈ F') ∧ Cls ts j F F')
        ⟨F, z4, z5, z6, rfl, s4, hd4, hW, .inl rfl, fun x hx => hx, fun i hi => absurd hi (Nat.not_lt_zero _)⟩
        (fun i σ' H' _ ⟨_, _, _, _, _, s6, _⟩ => SqL.of (s6 _ _ hq)) ?_ ?_
      · rintro i x σ' H6 hi ⟨F6, z4', z5', z6', rfl, s6, hd6, hW6, hor6, hsub6, hcl6⟩
        have hiv : i < vs.length := (List.getElem?_eq_some_iff.mp hi).1
        have hie : i < ts.length := by omega
        obtain ⟨b0, sg, e1, e2⟩ := hty.at hie
        have e1' : x = .ref b0 := by
          rw [atI_nat' hi] at e1
          exact Option.some.inj e1
        subst e1'
        have hle6 := hW6.le
        refine ⟨b0, _, rfl, SqT.of (s6 _ _ e2), rfl, _, _, rfl, _, _, rfl, _, _, rfl, rfl, ?_⟩
        have fin : (frm ts i ∈ F6 ∨ tow ts i ∈ F6) → ∃ (F' : List Str) (z4 z5 z6 : Option V), [some (.ref q), some (.str b), some (.ref d), some (.int (F.length : Int)), some (V.str (frm ts i)), some (V.str sg), some (V.str (tow ts i))] = [some (.ref q), some (.str b), some (.ref d), some (.int (F.length : Int)), z4, z5, z6] ∧ Same H (upd H6 d (.dK (bD (addK (addK F6 (frm ts i)) (tow ts i))))) ∧ (upd H6 d (.dK (bD (addK (addK F6 (frm ts i)) (tow ts i))))) d = some (.dK (bD F')) ∧ Cm ts b F' ∧ (F' = F ∨ F.length < F'.length) ∧ (∀ x ∈ F, x ∈ F') ∧ Cls ts (i + 1) F F' := fun hh => by
          refine ⟨_, _, _, _, rfl, sh _ s6, upd_same, hW6.add hie hh, ?_, fun x hx => by simp [addK_in, hsub6 x hx], fun j hj hj2 hx2 => ?_⟩
          · have h1 := addK_or F6 (frm ts i)
            have h2 := addK_or (addK F6 (frm ts i)) (tow ts i)
            rcases h1 with h1 | h1 <;> rcases h2 with h2 | h2
            · rw [h2, h1]
              exact hor6
            · right
              rw [h1] at h2 ⊢
              rcases hor6 with z | z
              · rw [z] at h2 ⊢
                exact h2
              · omega
            · right
              rw [h2]
              rcases hor6 with z | z
              · rw [z] at h1 ⊢
                exact h1
              · omega
            · right
              rcases hor6 with z | z
              · rw [← z]
                omega
              · omega
          · by_cases cj : j = i
            · subst cj
              simp [addK_in]
            · have := hcl6 j (by omega) hj2 hx2
              simp [addK_in, this.1, this.2]
        refine ⟨_, rfl, _, rfl, d, valV (bD F6) (Sum.inr (frm ts i)), rfl, .inl ⟨_, Sum.inr (frm ts i), .inl hd6, rfl, rfl⟩, ?_⟩
        rw [bD_val]
        have hal := addK_len F6 (frm ts i)
        by_cases c1 : frm ts i ∈ F6
        · rw [if_pos c1]
          refine ⟨_, rfl, iteP rfl (iteP rfl ?_)⟩
          refine ⟨_, rfl, _, rfl, d, _, rfl, DPut.k (k := Sum.inr (frm ts i)) hd6 (by rw [bD_len]; exact small1000 (by omega)), ?_⟩
          rw [bD_put]
          have hd7 : (upd H6 d (.dK (bD (addK F6 (frm ts i))))) d = some (.dK (bD (addK F6 (frm ts i)))) := upd_same
          refine ⟨_, rfl, _, rfl, d, _, rfl, DPut.k (k := Sum.inr (tow ts i)) hd7 (by rw [bD_len]; exact small1000 (by omega)), ?_⟩
          rw [bD_put, upd_upd]
          exact fin (.inl c1)
        rw [if_neg c1]
        refine ⟨_, rfl, iteM rfl ⟨_, rfl, _, rfl, d, valV (bD F6) (Sum.inr (tow ts i)), rfl, .inl ⟨_, Sum.inr (tow ts i), .inl hd6, rfl, rfl⟩, ?_⟩⟩
        rw [bD_val]
        by_cases c2 : tow ts i ∈ F6
        · rw [if_pos c2]
          refine ⟨_, rfl, iteP rfl ?_⟩
          refine ⟨_, rfl, _, rfl, d, _, rfl, DPut.k (k := Sum.inr (frm ts i)) hd6 (by rw [bD_len]; exact small1000 (by omega)), ?_⟩
          rw [bD_put]
          have hd7 : (upd H6 d (.dK (bD (addK F6 (frm ts i))))) d = some (.dK (bD (addK F6 (frm ts i)))) := upd_same
          refine ⟨_, rfl, _, rfl, d, _, rfl, DPut.k (k := Sum.inr (tow ts i)) hd7 (by rw [bD_len]; exact small1000 (by omega)), ?_⟩
          rw [bD_put, upd_upd]
          exact fin (.inr c2)
        rw [if_neg c2]
        refine ⟨_, rfl, iteM rfl ⟨F6, _, _, _, rfl, s6, hd6, hW6, hor6, hsub6, fun j hj hj2 hx2 => ?_⟩⟩
        by_cases cj : j = i
        · subst cj
          rcases hx2 with w | w
          · exact absurd (hsub6 _ w) c1
          · exact absurd (hsub6 _ w) c2
        · exact hcl6 j (by omega) hj2 hx2
      · rintro σ' H6 ⟨F6, z4', z5', z6', rfl, s6, hd6, hW6, hor6, hsub6, hcl6⟩
        rw [hvl] at hcl6
        refine ⟨_, ?_, F6, F.length, _, _, _, rfl, s6, hd6, hW6, ?_, rfl⟩
        · omega
        · rcases hor6 with z | z
          · subst z
            exact .inr hcl6
          · exact .inl z
    · rintro σ H4 ⟨F, z3, z4, z5, z6, rfl, s4, hd4, hW, hcl⟩
      have hle := hW.le
      refine ⟨_, rfl, k d H4 F s4 hd4 hW.nd (by omega) fun x => ⟨hW.rch x, fun z => ?_⟩⟩
      refine RchT.closed (F := fun x => x ∈ F) hW.fst (fun P' hP y hy => ?_) z
      obtain ⟨i, hi, ⟨q1, q2⟩ | ⟨q1, q2⟩⟩ := hy
      · rw [← q2]
        exact (hcl i hi hi (.inl (q1 ▸ hP))).2
      · rw [← q2]
        exact (hcl i hi hi (.inr (q1 ▸ hP))).1
end
end Sh

set_option Elab.async false
set_option linter.all false
set_option maxRecDepth 100000
namespace Sh
open PySem L2 PyProof.Rows
seal L2.PE L2.PS L2.PSs L2.PT L2.PW L2.PA L2.PI L2.PG L2.PGs L2.PO L2.PC L2.PCs L2.OpR L2.UnR L2.CallR L2.MtR L2.IxR L2.SlR
theorem strOk_tok {x : Str} (h : TOk x) : PyData.strOk x = true := by
  unfold PyData.strOk
  rw [← Array.all_toList, List.all_eq_true]
  intro c hc
  have := h.2 c hc
  exact decide_eq_true (by omega)
theorem rep_ties {H : Hp} : ∀ us : List V, AllT H us → ∃ ds, RepA H ds us ∧ PyData.canLayAll0 ds = true ∧ PyData.depthAll ds ≤ 1 ∧ ds.length = us.length
  | [], _ => ⟨[], by rw [RepA], by simp [PyData.canLayAll0], by simp [PyData.depthAll], rfl⟩
  | u :: us, h => by
    obtain ⟨ds, h1, h2, h3, h4⟩ := rep_ties us fun v hv => h v (List.mem_cons_of_mem _ hv)
    obtain ⟨b, p, s, q, rfl, hb, ok1, ok2, ok3⟩ := h u (List.mem_cons_self ..)
    refine ⟨.tuple [.str p, .str s, .str q] :: ds, ?_, ?_, ?_, by rw [List.length_cons, List.length_cons, h4]⟩
    · rw [RepA]
      refine ⟨_, _, rfl, ?_, h1⟩
      rw [RepD]
      refine ⟨b, _, rfl, hb, ?_⟩
      rw [RepA]
      refine ⟨_, _, rfl, by rw [RepD], ?_⟩
      rw [RepA]
      refine ⟨_, _, rfl, by rw [RepD], ?_⟩
      rw [RepA]
      refine ⟨_, _, rfl, by rw [RepD], ?_⟩
      rw [RepA]
    · rw [PyData.canLayAll0, h2]
      simp [PyData.canLay0, PyData.canLayAll0, strOk_tok ok1, strOk_tok ok2, strOk_tok ok3]
    · rw [PyData.depthAll]
      simp [PyData.depth, PyData.depthAll]
      exact Nat.max_le.mpr ⟨Nat.le_refl _, h3⟩
theorem shaped_list {ds : List PyData} (h1 : PyData.canLayAll0 ds = true) (h2 : PyData.depthAll ds ≤ 1) : SeqAt.shaped (.list ds) = true := by
  unfold SeqAt.shaped
  rw [Bool.and_eq_true]
  constructor
  · rw [PyData.canLay0]
    exact h1
  · refine decide_eq_true ?_
    rw [PyData.depth]
    omega
theorem eqv_nil (ds : List PyData) : PyData.eqv (.list ds) (.list []) = ds.isEmpty := by
  cases ds with
  | nil => simp [PyData.eqv, PyData.eqvAll]
  | cons n r => simp [PyData.eqv, PyData.eqvAll]
theorem rep_nil {H : Hp} {a : Addr} (h : H a = some (.lst [])) : RepD H (.list []) (.ref a) := by
  rw [RepD]
  exact ⟨a, [], rfl, h, by rw [RepA]⟩
theorem rep_strs {H : Hp} : ∀ ps : List Str, RepA H (ps.map PyData.str) (ps.map V.str)
  | [] => by rw [List.map_nil, RepA]; rfl
  | p :: ps => by
    rw [List.map_cons, RepA]
    exact ⟨.str p, ps.map V.str, rfl, by rw [RepD], rep_strs ps⟩
theorem lay_strs : ∀ ps : List Str, (∀ p ∈ ps, TOk p) → PyData.canLayAll0 (ps.map PyData.str) = true
  | [], _ => by simp [PyData.canLayAll0]
  | p :: ps, h => by
    rw [List.map_cons, PyData.canLayAll0, lay_strs ps fun q hq => h q (List.mem_cons_of_mem _ hq)]
    simp [PyData.canLay0, strOk_tok (h p List.mem_cons_self)]
theorem depth_strs : ∀ ps : List Str, PyData.depthAll (ps.map PyData.str) ≤ 1
  | [] => by simp [PyData.depthAll]
  | p :: ps => by
    rw [List.map_cons, PyData.depthAll]
    have := depth_strs ps
    simp [PyData.depth]
    exact this
theorem bal_bd {ts : Ts} (p : Str) : ∀ X : List Nat, -(X.length : Int) ≤ bal ts X p ∧ bal ts X p ≤ X.length
  | [] => by rw [bal_nil]; simp
  | i :: X => by
    have ih := bal_bd (ts := ts) p X
    rw [bal_cons, List.length_cons]
    have h1 := dl_nn (frm ts i) p
    have h2 := dl_le (frm ts i) p
    have h3 := dl_nn (tow ts i) p
    have h4 := dl_le (tow ts i) p
    omega
theorem sum_bd {M : Nat} : ∀ l : List Int, (∀ x ∈ l, 0 ≤ x ∧ x ≤ M) → 0 ≤ l.sum ∧ l.sum ≤ ((l.length * M : Nat) : Int)
  | [], _ => by simp
  | x :: l, h => by
    have h1 := h x (List.mem_cons_self ..)
    have h2 := sum_bd l fun y hy => h y (List.mem_cons_of_mem _ hy)
    rw [List.sum_cons, List.length_cons, Nat.add_mul, Nat.one_mul]
    omega
theorem frz_same {H2 H3 : Hp} {d : Addr} {o : Obj} {kvs : List (Key × V)} (hdd : H2 d = some (.dK kvs)) (hs : Same (upd H2 d (.frz o (.dK kvs))) H3) : Same H2 (upd H3 d (.dK kvs)) := fun b u hb => by
  by_cases c : b = d
  · subst c
    rw [hdd] at hb
    cases hb
    exact upd_same
  · rw [upd_ne c]
    exact hs b u (by rw [upd_ne c]; exact hb)
theorem gD_key {ks : List Str} {g : Str → Int} {i : Nat} (hi : i < ks.length) : ((gD ks g).map fun p => kV p.1).getD i .non = .str ks[i] := by
  unfold gD
  rw [List.map_map, List.getD_eq_getElem?_getD, List.getElem?_map, List.getElem?_eq_getElem hi]
  rfl
theorem gD_get {ks : List Str} {g : Str → Int} {y : Str} (h0 : y ∉ ks → g y = 0) : (valV (gD ks g) (Sum.inr y : Key)).getD (.int 0) = .int (g y) := by
  rw [gD_val]
  by_cases c : y ∈ ks
  · rw [if_pos c]; rfl
  · rw [if_neg c, h0 c]; rfl
theorem gD_bD {ks F : List Str} {g : Str → Int} {b : Str} (h : b ∈ ks) : gD ks g ≠ bD F := fun e => by
  cases ks with
  | nil => cases h
  | cons k ks =>
    cases F with
    | nil =>
      unfold gD bD at e
      cases e
    | cons x F =>
      unfold gD bD at e
      rw [List.map_cons, List.map_cons] at e
      injection e with e1 _
      injection e1 with _ e2
      cases e2
/-- the points of the first n ties -/
structure Kn (ts : Ts) (n : Nat) (ks : List Str) : Prop where
  nd : ks.Nodup
  mem : ∀ p, p ∈ ks ↔ ∃ i, i < n ∧ (frm ts i = p ∨ tow ts i = p)
  len : ks.length ≤ 2 * n
theorem Kn.out {ts : Ts} {n : Nat} {ks : List Str} (h : Kn ts n ks) {p : Str} (hp : p ∉ ks) : bal ts (List.range n) p = 0 :=
  bal_out _ fun i hi => ⟨fun e => hp ((h.mem p).mpr ⟨i, List.mem_range.mp hi, .inl e⟩), fun e => hp ((h.mem p).mpr ⟨i, List.mem_range.mp hi, .inr e⟩)⟩
theorem Kn.step {ts : Ts} {n : Nat} {ks : List Str} (h : Kn ts n ks) : Kn ts (n + 1) (addK (addK ks (frm ts n)) (tow ts n)) where
  nd := addK_nd (addK_nd h.nd)
  mem := fun p => by
    rw [addK_in, addK_in, h.mem]
    constructor
    · rintro ((⟨i, hi, q⟩ | z) | z)
      · exact ⟨i, by omega, q⟩
      · exact ⟨n, by omega, .inl z.symm⟩
      · exact ⟨n, by omega, .inr z.symm⟩
    · rintro ⟨i, hi, q⟩
      by_cases c : i = n
      · subst c
        rcases q with q | q
        · exact .inl (.inr q.symm)
        · exact .inr q.symm
      · exact .inl (.inl ⟨i, by omega, q⟩)
  len := by
    have h1 := addK_len ks (frm ts n)
    have h2 := addK_len (addK ks (frm ts n)) (tow ts n)
    have h3 := h.len
    omega
section
variable {P : Program} {w : World} {K : PySem.W.Frag} {mg : Str → Option Value} {base : Heap}
abbrev sLHasWay : Stmt := top 11
abbrev nLHasWay : List Str := ["_law_ties", "_law_begin", "_law_more", "_law_here", "_law_signs", "_law_there", "_law_come_here"]
theorem scLHasWay : FnScope nLHasWay ["_law_ties", "_law_begin"] (defScope sLHasWay) := ⟨rfl, rfl, rfl, by decide +kernel, rfl, by decide +kernel, by decide +kernel⟩
def spHas : Sp := fun vs H Q _ => ∃ (q : Addr) (b : Str) (us : List V) (ts : Ts), vs = [.ref q, .str b] ∧ H q = some (.lst us) ∧ AllT H us ∧ TyA H us ts ∧ ts.length ≤ 400 ∧ (∀ p ∈ allP ts, TOk p) ∧ ∀ H' (c : Bool), Same H H' → (c = true ↔ Good ts b) → Q (.bl c) H'
set_option maxHeartbeats 16000000 in
theorem ok_l_has (D : HasDef K mg "_law_has_way" sLHasWay ["_law_ties", "_law_begin"]) (B : Blt mg) (G__law_come : FOk P w K mg base 1 "_law_come" ["_law_ties", "_law_begin"] spCome) : FOk P w K mg base 2 "_law_has_way" ["_law_ties", "_law_begin"] spHas := by
  refine D.ok scLHasWay (fun vs H Q E h => ?_) (fun f cdv A outer s H vs Q E hr h => ?_)
  · obtain ⟨q, b, us, ts, rfl, _⟩ := h
    rfl
  · obtain ⟨q, b, us, ts, rfl, hq, hall, hty, hlen, hpok, k⟩ := h
    have hu := hu_of hr
    refine ⟨_, (pss_cons (ps_set (i := 2) scLHasWay.nd rfl (Or.inr rfl) pe_dnewK)
      (pss_cons (ps_for PassesOwn.never rfl (pi_list (pv 0)) (pg_tupK 3 K rfl (pgs_cons (pg_name (i := 3) scLHasWay.nd rfl (Or.inl rfl)) (pgs_cons (pg_name (i := 4) scLHasWay.nd rfl (Or.inl rfl)) (pgs_cons (pg_name (i := 5) scLHasWay.nd rfl (Or.inl rfl)) pgs_nil))))
        (pss_cons (ps_dput hu (pv 2) (pv 3) (pe_op op_add (pe_dget2 hu (pv 2) (pv 3) pe_int ⟨rfl, rfl, rfl, rfl⟩) pe_int) rfl)
      (pss_one (ps_dput hu (pv 2) (pv 5) (pe_op op_sub (pe_dget2 hu (pv 2) (pv 5) pe_int ⟨rfl, rfl, rfl, rfl⟩) pe_int) rfl))))
      (pss_cons (ps_if (pt_cmpR (op_eqD hr.units) (pv 0) (pe_lst pa_nil) (nomark _)) (pss_one (ps_ret pe_bl)) pss_nil)
      (pss_cons (ps_if (PW.pt (pw_or (pt_cmp (pc_dnotin hu (pv 1) (pv 2))) (pw_or1 (pt_cmpR op_gt (pe_callB (call_sumL rfl) rfl B.sum b_sum (pa_cons (pe_frz (pe_lcomp (defScope sLHasWay) nLHasWay ["_law_point"] [2] rfl (pi_keys (pv 2)) (fun _ _ _ _ _ => pg_lc 0) (fun _ _ _ _ _ => pcs_nil) (fun _ _ _ _ _ => (pe_callB (call_max2 rfl) rfl B.max b_max (pa_cons pe_int (pa_cons (pe_dget hu (pv 1) (pv 0) (fun _ _ => rfl)) pa_nil)))))) pa_nil)) pe_int (nomark _))))) (pss_one (ps_ret pe_bl)) pss_nil)
      (pss_cons (ps_if (PW.pt (pw_and (pt_cmpR op_eq (pe_callB (call_maxL rfl) rfl B.max b_max (pa_cons (pe_frz (pe_lcomp (defScope sLHasWay) nLHasWay ["_law_point"] [2] rfl (pi_keys (pv 2)) (fun _ _ _ _ _ => pg_lc 0) (fun _ _ _ _ _ => pcs_nil) (fun _ _ _ _ _ => (pe_dget hu (pv 1) (pv 0) (fun _ _ => rfl))))) pa_nil)) pe_int (nomark _)) (pw_and1 (pt_cmpR op_ne (pe_dget hu (pv 2) (pv 1) (fun _ _ => rfl)) pe_int (nomark _))))) (pss_one (ps_ret pe_bl)) pss_nil)
      (pss_cons (ps_set (i := 6) scLHasWay.nd rfl (Or.inr rfl) (pe_fn G__law_come hr (pa_cons (pv 0) (pa_cons (pv 1) pa_nil))))
      (pss_one (ps_ret (pe_cmpR (op_eqD hr.units) (pe_frz (pe_lcomp (defScope sLHasWay) nLHasWay ["_law_point"] [6] rfl (pi_keys (pv 2)) (fun _ _ _ _ _ => pg_lc 0) (fun _ _ _ _ _ => pcs_one (pt_cmp (pc_dnotin hu (pv 0) (pv 1)))) (fun _ _ _ _ _ => (pv 0)))) (pe_lst pa_nil) (nomark _)))))))))), ?_⟩
    have hvl := hty.1
    intro d hd
    have s1 := same_upd_new (o := .dK []) hd
    refine ⟨_, rfl, q, rfl, ⟨_, SqL.of (s1 _ _ hq)⟩, ?_⟩
    refine for_list (K := K) (a := q) (xs := us) (fun i σ H2 => (∃ z3 z4 z5 : Option V, σ = [some (.ref q), some (.str b), some (.ref d), z3, z4, z5, none]) ∧ Same H H2 ∧ ∃ ks, Kn ts i ks ∧ H2 d = some (.dK (gD ks (bal ts (List.range i)))))
      ⟨⟨none, none, none, rfl⟩, s1, [], ⟨List.nodup_nil, fun p => by simp, Nat.le_refl _⟩, upd_same⟩ (fun i σ H2 _ ⟨_, s2, _⟩ => SqL.of (s2 _ _ hq)) ?_ ?_
    · rintro i x σ H2 hi ⟨⟨z3, z4, z5, rfl⟩, s2, ks, hk, hdd⟩
      have hiv : i < us.length := (List.getElem?_eq_some_iff.mp hi).1
      have hie : i < ts.length := by omega
      obtain ⟨b0, sg, e1, e2⟩ := hty.at hie
      have e1' : x = .ref b0 := by
        rw [atI_nat' hi] at e1
        exact Option.some.inj e1
      subst e1'
      have hkl := hk.len
      refine ⟨b0, _, rfl, SqT.of (s2 _ _ e2), rfl, _, _, rfl, _, _, rfl, _, _, rfl, rfl, ?_⟩
      have hg := gD_get (ks := ks) (g := bal ts (List.range i)) (y := frm ts i) fun hP => hk.out hP
      have hstep := hk.step
      have hal := addK_len ks (frm ts i)
      have hm := mo_snoc (ts := ts) (n := i)
      have hout : ∀ p, p ∉ ks → bal ts (List.range i) p = 0 := fun p hp => hk.out hp
      generalize bal ts (List.range i) = g at *
      generalize frm ts i = y1 at *
      generalize tow ts i = y2 at *
      refine ⟨_, rfl, d, rfl, .inl ⟨_, .inl hdd⟩, _, rfl, _, DGet.k (k := Sum.inr y1) hdd, _, _, hg, rfl, _, rfl, _, rfl, d, _, rfl, DPut.k (k := Sum.inr y1) hdd (by rw [gD_len]; exact small1000 (by omega)), ?_⟩
      rw [gD_put]
      have hdd2 : (upd H2 d (.dK (gD (addK ks y1) fun x => if x = y1 then g y1 + 1 else g x))) d = some (.dK (gD (addK ks y1) fun x => if x = y1 then g y1 + 1 else g x)) := upd_same
      have hg2 := gD_get (ks := addK ks y1) (g := fun x => if x = y1 then g y1 + 1 else g x) (y := y2) fun hP => by
        rw [addK_mem, not_or] at hP
        rw [if_neg hP.2, hout _ hP.1]
      refine ⟨_, rfl, d, rfl, .inl ⟨_, .inl hdd2⟩, _, rfl, _, DGet.k (k := Sum.inr y2) hdd2, _, _, hg2, rfl, _, rfl, _, rfl, d, _, rfl, DPut.k (k := Sum.inr y2) hdd2 (by rw [gD_len]; exact small1000 (by omega)), ?_⟩
      refine ⟨⟨_, _, _, rfl⟩, fun c u hc => ?_, _, hstep, ?_⟩
      · rw [upd_upd, upd_ne (ne_of_none hc hd)]
        exact s2 c u hc
      · rw [upd_same, gD_put]
        refine congrArg (fun l => some (HO.dK l)) (gD_congr fun x _ => ?_)
        rw [hm]
        by_cases c1 : x = y2
        · subst c1
          rw [if_pos rfl, dl_self]
          by_cases c2 : x = y1
          · subst c2
            rw [if_pos rfl, dl_self]
          · rw [if_neg c2, dl_out c2]
            omega
        · rw [if_neg c1, dl_out c1]
          by_cases c2 : x = y1
          · subst c2
            rw [if_pos rfl, dl_self]
            omega
          · rw [if_neg c2, dl_out c2]
            omega
    rintro σ H2 ⟨⟨z3, z4, z5, rfl⟩, s2, ks, hk, hdd⟩
    rw [hvl] at hk hdd
    have hkl := hk.len
    have hK : Kp ts ks := ⟨hk.nd, hk.mem⟩
    have hks : ∀ p ∈ ks, TOk p := fun p hp => by
      obtain ⟨i, hi, e⟩ := (hk.mem p).mp hp
      rcases e with e | e
      · rw [← e]; exact hpok _ (frm_in hi)
      · rw [← e]; exact hpok _ (tow_in hi)
    have hall2 := hall.tsame s2.tup
    obtain ⟨ds, r1, r2, r3, r4⟩ := rep_ties us hall2
    refine ⟨_, rfl, few_size (show 0 ≤ 1000 by decide), fun p0 hp0 => ?_⟩
    have s3 := same_upd_new (o := .lst []) hp0
    refine ⟨.list ds, .list [], by rw [RepD]; exact ⟨q, us, rfl, s3 _ _ (s2 _ _ hq), RepA.same s3 _ _ r1⟩, rep_nil upd_same, shaped_list r2 r3, shaped_list (by simp [PyData.canLayAll0]) (by simp [PyData.depthAll]), _, rfl, ?_⟩
    rw [eqv_nil]
    have s23 := s2.trans s3
    have hdd3 := s3 _ _ hdd
    generalize upd H2 p0 (.lst []) = H3 at s23 hdd3
    clear s3 hp0 r1 hall2 s2 hdd H2
    by_cases c0 : ts.length = 0
    · have : ds = [] := List.length_eq_zero_iff.mp (by omega)
      rw [this]
      exact iteP rfl (k _ true s23 ⟨fun _ => good_nil c0, fun _ => rfl⟩)
    have hpos : 0 < ts.length := by omega
    refine iteM (by cases ds with | nil => rw [List.length_nil] at r4; omega | cons _ _ => rfl) ?_
    refine ⟨_, rfl, _, rfl, d, valV (gD ks (mo ts)) (Sum.inr b), rfl, .inl ⟨_, Sum.inr b, .inl hdd3, rfl, rfl⟩, ?_⟩
    rw [gD_val]
    by_cases cb : ¬ b ∈ ks
    · rw [if_neg cb]
      exact ⟨_, rfl, iteP rfl (iteP rfl (k _ false s23 ⟨fun z => (by cases z), fun z => absurd (good_begin hK hpos z) cb⟩))⟩
    have cb := Classical.not_not.mp cb
    rw [if_pos cb]
    have hmb : ∀ p, -400 ≤ mo ts p ∧ mo ts p ≤ 400 := fun p => by
      have := bal_bd (ts := ts) p (List.range ts.length)
      rw [List.length_range] at this
      show -400 ≤ bal ts (List.range ts.length) p ∧ bal ts (List.range ts.length) p ≤ 400
      exact ⟨by omega, by omega⟩
    refine ⟨_, rfl, iteM rfl ⟨d, _, hdd3, fun o => ?_⟩⟩
    have hfz : (upd H3 d (.frz o (.dK (gD ks (mo ts))))) d = some (.frz o (.dK (gD ks (mo ts)))) := upd_same
    refine ⟨_, rfl, d, o, _, rfl, hfz, lc_map (gD ks (mo ts)).length (fun i => ((gD ks (mo ts)).map fun p => kV p.1).getD i .non) (fun i v _ => v = .int (posZ (mo ts (ks.getD i "")))) (few_size (by rw [gD_len]; omega)) (fun _ _ _ _ _ r => r) (jt_keys hfz) ?_ ?_⟩
    · intro i H4 Qe hi hs kq
      rw [gD_len] at hi
      rw [gD_key hi]
      refine ⟨_, rfl, _, rfl, d, _, rfl, .inl ⟨_, Sum.inr ks[i], .inr ⟨o, hs _ _ hfz⟩, rfl, by rw [gD_val, if_pos (List.getElem_mem hi)]⟩, _, _, rfl, kq _ _ (Same.refl _) ?_⟩
      rw [List.getD_eq_getElem?_getD, List.getElem?_eq_getElem hi]
      rfl
    intro D1 vs1 H4 hl1 hR1 s4 hD1 hDl1
    refine ⟨s4 _ _ hfz, ?_⟩
    have ev1 : vs1 = (ks.map fun p => posZ (mo ts p)).map V.int := by
      rw [List.map_map]
      rw [gD_len] at hl1
      refine vs_ints hl1 fun i v hv c hc => ?_
      rw [hR1 i v hv, List.getD_eq_getElem?_getD, hc]
      rfl
    rw [ev1] at hDl1
    have hne1 : D1 ≠ d := fun z => by rw [z, hfz] at hD1; cases hD1
    have sA := frz_same hdd3 s4
    have hDl1' : (upd H4 d (.dK (gD ks (mo ts)))) D1 = some (.lst ((ks.map fun p => posZ (mo ts p)).map V.int)) := by rw [upd_ne hne1]; exact hDl1
    have s24 := s23.trans sA
    have hdd4 := sA _ _ hdd3
    generalize upd H4 d (.dK (gD ks (mo ts))) = H5 at hDl1' s24 hdd4
    clear sA hDl1 hD1 s4 hfz hdd3 s23 H3 H4
    have hbd : ∀ x ∈ ks.map (fun p => posZ (mo ts p)), 0 ≤ x ∧ x ≤ ((400 : Nat) : Int) := fun x hx => by
      obtain ⟨p, _, rfl⟩ := List.mem_map.mp hx
      have := hmb p
      show 0 ≤ posZ (mo ts p) ∧ posZ (mo ts p) ≤ _
      unfold posZ
      split <;> omega
    refine ⟨D1, _, rfl, SqL.of hDl1', fun n hn => ?_, fun j => ?_, _, _, rfl, rfl, _, rfl, ?_⟩
    · have := hbd n hn
      exact ⟨by omega, by omega⟩
    · have h1 := sum_bd (M := 400) ((ks.map fun p => posZ (mo ts p)).take j) fun x hx => hbd x (List.mem_of_mem_take hx)
      have h2 : ((ks.map fun p => posZ (mo ts p)).take j).length ≤ 800 := by
        rw [List.length_take, List.length_map]
        omega
      exact ⟨by omega, by omega⟩
    show if decide (1 < (sumZ ks fun p => posZ (mo ts p))) = true then _ else _
    by_cases cs : 1 < sumZ ks fun p => posZ (mo ts p)
    · exact iteP (decide_eq_true cs) (k _ false s24 ⟨fun z => (by cases z), fun z => absurd (good_sum hK hpos z) (by omega)⟩)
    refine iteM (decide_eq_false cs) ?_
    -- the greatest
    dsimp only [tNext]
    refine seq_any (fun σ H7 => σ = [some (.ref q), some (.str b), some (.ref d), z3, z4, z5, none] ∧ Same H H7 ∧ H7 d = some (.dK (gD ks (mo ts))) ∧ ∃ M, M ∈ ks.map (mo ts) ∧ (∀ x ∈ ks.map (mo ts), x ≤ M) ∧ (M = 1 → mo ts b = 1)) (fun R hR => ?_) ?_
    · refine ⟨d, _, hdd4, fun o => ?_⟩
      have hfz : (upd H5 d (.frz o (.dK (gD ks (mo ts))))) d = some (.frz o (.dK (gD ks (mo ts)))) := upd_same
      refine ⟨_, rfl, d, o, _, rfl, hfz, lc_map (gD ks (mo ts)).length (fun i => ((gD ks (mo ts)).map fun p => kV p.1).getD i .non) (fun i v _ => v = .int (mo ts (ks.getD i ""))) (few_size (by rw [gD_len]; omega)) (fun _ _ _ _ _ r => r) (jt_keys hfz) ?_ ?_⟩
      · intro i H4 Qe hi hs kq
        rw [gD_len] at hi
        rw [gD_key hi]
        refine ⟨_, rfl, _, rfl, d, _, rfl, .inl ⟨_, Sum.inr ks[i], .inr ⟨o, hs _ _ hfz⟩, rfl, by rw [gD_val, if_pos (List.getElem_mem hi)]⟩, kq _ _ (Same.refl _) ?_⟩
        rw [List.getD_eq_getElem?_getD, List.getElem?_eq_getElem hi]
        rfl
      intro D2 vs2 H6 hl2 hR2 s6 hD2 hDl2
      refine ⟨s6 _ _ hfz, ?_⟩
      have ev2 : vs2 = (ks.map (mo ts)).map V.int := by
        rw [List.map_map]
        rw [gD_len] at hl2
        refine vs_ints hl2 fun i v hv c hc => ?_
        rw [hR2 i v hv, List.getD_eq_getElem?_getD, hc]
        rfl
      rw [ev2] at hDl2
      have hne2 : D2 ≠ d := fun z => by rw [z, hfz] at hD2; cases hD2
      have sB := frz_same hdd4 s6
      have hDl2' : (upd H6 d (.dK (gD ks (mo ts)))) D2 = some (.lst ((ks.map (mo ts)).map V.int)) := by rw [upd_ne hne2]; exact hDl2
      have s26 := s24.trans sB
      have hdd6 := sB _ _ hdd4
      generalize upd H6 d (.dK (gD ks (mo ts))) = H7 at hDl2' s26 hdd6
      refine ⟨D2, _, rfl, SqL.of hDl2', fun z => (by rw [List.map_eq_nil_iff] at z; rw [z] at cb; cases cb), fun M hM hMx => ?_⟩
      refine ⟨rfl, _, rfl, ?_⟩
      by_cases cM : M = 1
      · refine iteP (int_is cM) ⟨_, rfl, _, rfl, d, _, rfl, .inl ⟨_, Sum.inr b, .inl hdd6, rfl, by rw [gD_val, if_pos cb]⟩, rfl, _, rfl, ?_⟩
        by_cases c1 : mo ts b = 1
        · exact iteM (by rw [int_is c1]; rfl) (hR _ _ ⟨rfl, s26, hdd6, M, hM, hMx, fun _ => c1⟩)
        · refine iteP (by rw [int_ne c1]; rfl) (k _ false s26 ⟨fun z => (by cases z), fun z => ?_⟩)
          obtain ⟨p, _, e⟩ := List.mem_map.mp hM
          exact absurd (good_max z (e.trans cM)) c1
      · exact iteM (int_ne cM) (iteM rfl (hR _ _ ⟨rfl, s26, hdd6, M, hM, hMx, fun z => absurd z cM⟩))
    clear hdd4 s24 hDl1' H5
    rintro σ H7 ⟨rfl, s7, hdd7, M, hM, hMx, hM1⟩
    refine ⟨_, rfl, _, rfl, q, b, us, ts, rfl, s7 _ _ hq, hty.same s7, hlen, fun dc H8 F s8 hdc hFn hFl hFm => ?_⟩
    have s78 := s7.trans s8
    have hdd8 := s8 _ _ hdd7
    refine ⟨d, _, hdd8, fun o => ?_⟩
    have hfz : (upd H8 d (.frz o (.dK (gD ks (mo ts))))) d = some (.frz o (.dK (gD ks (mo ts)))) := upd_same
    have hdcd : dc ≠ d := fun z => by rw [z, hdd8] at hdc; injection hdc with hdc; injection hdc with hdc; exact absurd hdc (gD_bD cb)
    have hdc9 : (upd H8 d (.frz o (.dK (gD ks (mo ts))))) dc = some (.dK (bD F)) := by rw [upd_ne hdcd]; exact hdc
    refine ⟨_, rfl, d, o, _, rfl, hfz, lc_fmap (gD ks (mo ts)).length (fun i => ((gD ks (mo ts)).map fun p => kV p.1).getD i .non) (fun i => !decide (ks.getD i "" ∈ F)) (fun i v _ => v = .str (ks.getD i "")) (few_size (by rw [gD_len]; omega)) (fun _ _ _ _ _ r => r) (jt_keys hfz) ?_ ?_⟩
    · intro i H4 Qt Qf hi hs ht hf
      rw [gD_len] at hi
      have es1 : ks.getD i "" = ks[i] := by rw [List.getD_eq_getElem?_getD, List.getElem?_eq_getElem hi]; rfl
      rw [es1] at ht hf
      rw [gD_key hi]
      refine ⟨_, rfl, _, rfl, dc, valV (bD F) (Sum.inr ks[i]), rfl, .inl ⟨_, Sum.inr ks[i], .inl (hs _ _ hdc9), rfl, rfl⟩, ?_⟩
      rw [bD_val]
      by_cases c : ks[i] ∈ F
      · rw [if_pos c]
        exact ⟨_, rfl, iteM rfl (hf (by rw [decide_eq_true c]; rfl) _ (Same.refl _))⟩
      · rw [if_neg c]
        exact ⟨_, rfl, iteP rfl ⟨_, rfl, ht (by rw [decide_eq_false c]; rfl) _ _ (Same.refl _) rfl⟩⟩
    intro D3 vs3 H9 hl3 hR3 s9 hD3 hDl3
    refine ⟨s9 _ _ hfz, ?_⟩
    have hne3 : D3 ≠ d := fun z => by rw [z, hfz] at hD3; cases hD3
    have sC := frz_same hdd8 s9
    have hDl3' : (upd H9 d (.dK (gD ks (mo ts)))) D3 = some (.lst vs3) := by rw [upd_ne hne3]; exact hDl3
    have s10 := s78.trans sC
    generalize upd H9 d (.dK (gD ks (mo ts))) = H10 at hDl3' s10
    rw [gD_len] at hl3 hR3
    have ev3 : vs3 = (((List.range ks.length).filter fun i => !decide (ks.getD i "" ∈ F)).map fun i => ks.getD i "").map V.str := by
      rw [List.map_map]
      refine vs_ints hl3 fun j v hv i hi => ?_
      exact hR3 j i v hi hv
    rw [ev3] at hDl3'
    generalize hps : ((List.range ks.length).filter fun i => !decide (ks.getD i "" ∈ F)).map (fun i => ks.getD i "") = ps at hDl3'
    have hpm : ∀ p, p ∈ ps ↔ p ∈ ks ∧ p ∉ F := fun p => by
      rw [← hps, List.mem_map]
      constructor
      · rintro ⟨i, hi, rfl⟩
        obtain ⟨h1, h2⟩ := List.mem_filter.mp hi
        have hi' := List.mem_range.mp h1
        refine ⟨?_, fun z => ?_⟩
        · rw [List.getD_eq_getElem?_getD, List.getElem?_eq_getElem hi']
          exact List.getElem_mem hi'
        · skip
          rw [decide_eq_true z] at h2
          cases h2
      · rintro ⟨h1, h2⟩
        obtain ⟨i, hi, e⟩ := List.getElem_of_mem h1
        have e' : ks.getD i "" = p := by rw [List.getD_eq_getElem?_getD, List.getElem?_eq_getElem hi]; exact e
        refine ⟨i, List.mem_filter.mpr ⟨List.mem_range.mpr hi, ?_⟩, e'⟩
        skip
        rw [e', decide_eq_false h2]
        rfl
    refine ⟨few_size (show 0 ≤ 1000 by decide), fun p1 hp1 => ?_⟩
    have s11 := same_upd_new (o := .lst []) hp1
    refine ⟨.list (ps.map PyData.str), .list [], by rw [RepD]; exact ⟨D3, _, rfl, s11 _ _ hDl3', rep_strs ps⟩, rep_nil upd_same, shaped_list (lay_strs ps fun p hp => hks p ((hpm p).mp hp).1) (depth_strs ps), shaped_list (by simp [PyData.canLayAll0]) (by simp [PyData.depthAll]), ?_⟩
    rw [eqv_nil]
    refine k _ _ (s10.trans s11) ?_
    rw [List.isEmpty_iff, List.map_eq_nil_iff]
    constructor
    · intro e
      refine good_of hK cb (by omega) hM hMx hM1 fun p hp => (hFm p).mp (Classical.byContradiction fun z => ?_)
      have := (hpm p).mpr ⟨hp, z⟩
      rw [e] at this
      cases this
    · intro g
      apply List.eq_nil_iff_forall_not_mem.mpr
      intro p hp
      obtain ⟨h1, h2⟩ := (hpm p).mp hp
      exact h2 ((hFm p).mpr (good_all hK g p h1))
end
end Sh

set_option Elab.async false
set_option linter.all false
set_option maxRecDepth 100000
namespace L2
open PySem PySem.Spec PyProof.Rows
theorem b_range : bootBuiltins "range" = some (.type "range") := by decide +kernel
end L2
namespace Sh
open PySem L2 PyProof.Rows
seal L2.PE L2.PS L2.PSs L2.PT L2.PW L2.PA L2.PI L2.PG L2.PGs L2.PO L2.PC L2.PCs L2.OpR L2.UnR L2.CallR L2.MtR L2.IxR L2.SlR
theorem srtI : ∀ {l m : List Int}, l.Pairwise (· ≤ ·) → m.Pairwise (· ≤ ·) → l.Perm m → l = m
  | [], m, _, _, p => (List.nil_perm.mp p).symm
  | x :: l, [], _, _, p => absurd p.length_eq (by simp)
  | x :: l, y :: m, hl, hm, p => by
    have h1 := List.pairwise_cons.mp hl
    have h2 := List.pairwise_cons.mp hm
    have e : x = y := by
      have hx : x ∈ y :: m := p.mem_iff.mp (List.mem_cons_self ..)
      have hy : y ∈ x :: l := p.mem_iff.mpr (List.mem_cons_self ..)
      rcases List.mem_cons.mp hx with z | z
      · exact z
      · rcases List.mem_cons.mp hy with z' | z'
        · exact z'.symm
        · have a1 := h2.1 x z
          have a2 := h1.1 y z'
          omega
    subst e
    rw [srtI h1.2 h2.2 (List.perm_cons x |>.mp p)]
theorem range_srt (n : Nat) : ((List.range n).map fun (i : Nat) => (i : Int)).Pairwise (· ≤ ·) := by
  rw [List.pairwise_map]
  refine List.Pairwise.imp (fun {a b} h => ?_) List.pairwise_lt_range
  omega
theorem rep_ints {H : Hp} : ∀ ns : List Int, RepA H (ns.map PyData.int) (ns.map V.int)
  | [] => by rw [List.map_nil, RepA]; rfl
  | p :: ps => by
    rw [List.map_cons, RepA]
    exact ⟨.int p, ps.map V.int, rfl, by rw [RepD], rep_ints ps⟩
theorem lay_ints : ∀ ns : List Int, PyData.canLayAll0 (ns.map PyData.int) = true
  | [] => by simp [PyData.canLayAll0]
  | p :: ps => by
    rw [List.map_cons, PyData.canLayAll0, lay_ints ps]
    simp [PyData.canLay0]
theorem depth_ints : ∀ ns : List Int, PyData.depthAll (ns.map PyData.int) ≤ 1
  | [] => by simp [PyData.depthAll]
  | p :: ps => by
    rw [List.map_cons, PyData.depthAll]
    have := depth_ints ps
    simp [PyData.depth]
    exact this
theorem shaped_tup {ds : List PyData} (h1 : PyData.canLayAll0 ds = true) (h2 : PyData.depthAll ds ≤ 1) : SeqAt.shaped (.tuple ds) = true := by
  unfold SeqAt.shaped
  rw [Bool.and_eq_true]
  constructor
  · rw [PyData.canLay0]
    exact h1
  · refine decide_eq_true ?_
    rw [PyData.depth]
    omega
theorem nV_ints (X : List Nat) : X.map nV = (X.map fun (i : Nat) => (i : Int)).map V.int := by rw [List.map_map]; rfl
theorem eqv_sh {d : PyData} (h : SeqAt.shaped d = true) : PyData.eqv d d = true := SeqAt.eqv_refl d (SeqAt.canLay_of_shaped h)
theorem ts_of {H : Hp} : ∀ us : List V, AllT H us → ∃ ts : Ts, TyA H us ts ∧ ∀ t ∈ ts, TOk t.1 ∧ TOk t.2
  | [], _ => ⟨[], ⟨rfl, fun i t e => by simp at e⟩, fun t ht => by cases ht⟩
  | u :: us, h => by
    obtain ⟨ts, h1, h2⟩ := ts_of us fun v hv => h v (List.mem_cons_of_mem _ hv)
    obtain ⟨b, p, s, q, rfl, hb, ok1, ok2, ok3⟩ := h u (List.mem_cons_self ..)
    refine ⟨(p, q) :: ts, ⟨by rw [List.length_cons, List.length_cons, h1.1], fun i t e => ?_⟩, fun t ht => ?_⟩
    · cases i with
      | zero =>
        simp at e
        subst e
        exact ⟨b, rfl, s, hb⟩
      | succ i => exact h1.2 i t (by simpa using e)
    · rcases List.mem_cons.mp ht with z | z
      · rw [z]; exact ⟨ok1, ok3⟩
      · exact h2 t z
theorem allP_ok {ts : Ts} (h : ∀ t ∈ ts, TOk t.1 ∧ TOk t.2) : ∀ p ∈ allP ts, TOk p := fun p hp => by
  unfold allP at hp
  rcases List.mem_append.mp hp with z | z
  · obtain ⟨t, ht, rfl⟩ := List.mem_map.mp z
    exact (h t ht).1
  · obtain ⟨t, ht, rfl⟩ := List.mem_map.mp z
    exact (h t ht).2
/-- what way_of answers -/
def WayV (H : Hp) (x : V) (ts : Ts) (b : Str) : Prop := (Eul ts b (wayX ts b) ∧ TupN H x (wayX ts b)) ∨ (¬ Good ts b ∧ x = .non)
theorem way_both {ts : Ts} {b : Str} {H : Hp} {Q : V → Hp → Prop} (h : ∀ x H', Same H H' → WayV H' x ts b → Q x H') : (Eul ts b (wayX ts b) → ∀ x H', Same H H' → TupN H' x (wayX ts b) → Q x H') ∧ (¬ Good ts b → ∀ H', Same H H' → Q .non H') :=
  ⟨fun e x H' s t => h x H' s (.inl ⟨e, t⟩), fun g H' s => h .non H' s (.inr ⟨g, rfl⟩)⟩
theorem WayV.same {H H' : Hp} {x : V} {ts : Ts} {b : Str} (h : WayV H x ts b) (s : Same H H') : WayV H' x ts b := by
  rcases h with ⟨e, q, e1, e2⟩ | h
  · exact .inl ⟨e, q, e1, s _ _ e2⟩
  · exact .inr h
open Classical in
noncomputable def wayD (ts : Ts) (b : Str) : PyData := if Good ts b then .tuple ((wayX ts b).map fun (i : Nat) => PyData.int (i : Int)) else .none
theorem wayD_sh (ts : Ts) (b : Str) : SeqAt.shaped (wayD ts b) = true := by
  unfold wayD
  split
  · rw [show (wayX ts b).map (fun (i : Nat) => PyData.int (i : Int)) = ((wayX ts b).map fun (i : Nat) => (i : Int)).map PyData.int by rw [List.map_map]; rfl]
    exact shaped_tup (lay_ints _) (depth_ints _)
  · decide
theorem WayV.rep {H : Hp} {x : V} {ts : Ts} {b : Str} (h : WayV H x ts b) : RepD H (wayD ts b) x := by
  unfold wayD
  rcases h with ⟨e, q, e1, e2⟩ | ⟨g, e⟩
  · rw [if_pos e.good, RepD]
    refine ⟨q, _, e1, e2, ?_⟩
    rw [nV_ints, show (wayX ts b).map (fun (i : Nat) => PyData.int (i : Int)) = ((wayX ts b).map fun (i : Nat) => (i : Int)).map PyData.int by rw [List.map_map]; rfl]
    exact rep_ints _
  · rw [if_neg g, RepD]
    exact e
section
variable {P : Program} {w : World} {K : PySem.W.Frag} {mg : Str → Option Value} {base : Heap}
abbrev sLIsWay : Stmt := top 12
abbrev nLIsWay : List Str := ["_law_ties", "_law_begin", "_law_found", "_law_here", "_law_number"]
theorem scLIsWay : FnScope nLIsWay ["_law_ties", "_law_begin", "_law_found"] (defScope sLIsWay) := ⟨rfl, rfl, rfl, by decide +kernel, rfl, by decide +kernel, by decide +kernel⟩
def spLIsWay : Sp := fun vs H Q _ => ∃ (q : Addr) (x : V) (b : Str) (us : List V) (ts : Ts) (X : List Nat), vs = [.ref q, .str b, x] ∧ H q = some (.lst us) ∧ TyA H us ts ∧ ts.length ≤ 400 ∧ TupN H x X ∧ Eul ts b X ∧ ∀ H', Q (.bl true) H'
set_option maxHeartbeats 8000000 in
theorem ok_l_is_way (D : HasDef K mg "_law_is_way" sLIsWay ["_law_ties", "_law_begin", "_law_found"]) (B : Blt mg) : FOk P w K mg base 1 "_law_is_way" ["_law_ties", "_law_begin", "_law_found"] spLIsWay := by
  refine D.ok scLIsWay (fun vs H Q E h => ?_) (fun f cdv A outer s H vs Q E hr h => ?_)
  · obtain ⟨q, x, b, us, ts, X, rfl, _⟩ := h
    rfl
  · obtain ⟨a, x, b, vs, ts, X, rfl, ha, hty, hlen, ⟨q, rfl, hq⟩, hE, k⟩ := h
    refine ⟨_, (pss_cons (ps_if (pt_not (pt_val (pe_callB call_isiB rfl B.isi b_isi (pa_cons (pv 2) (pa_cons (pe_ty rfl B.tuple b_tuple) pa_nil))))) (pss_one (ps_ret pe_bl)) pss_nil)
      (pss_cons (ps_set (i := 3) scLIsWay.nd rfl (Or.inl rfl) (pv 1))
      (pss_cons (ps_for PassesOwn.never rfl (pi_tup (pv 2)) (pg_name (i := 4) scLIsWay.nd rfl (Or.inl rfl))
        (pss_cons (ps_if (PW.pt (pw_or (pt_not (pt_val (pe_callB call_isiB rfl B.isi b_isi (pa_cons (pv 4) (pa_cons (pe_ty rfl B.int b_int) pa_nil))))) (pw_or (pt_val (pe_callB call_isiB rfl B.isi b_isi (pa_cons (pv 4) (pa_cons (pe_ty rfl B.bool b_bool) pa_nil)))) (pw_or (pt_cmpR op_lt (pv 4) pe_int (nomark _)) (pw_or1 (pt_cmpR op_ge (pv 4) (pe_callB call_len rfl B.len b_len (pa_cons (pv 0) pa_nil)) (nomark _))))))) (pss_one (ps_ret pe_bl)) pss_nil)
      (pss_cons (ps_if (pt_cmpR op_ne (pe_ix ix_tup (pe_ix ix_list (pv 0) (pv 4) (fun _ _ => rfl)) pe_int (fun _ _ => rfl)) (pv 3) (nomark _)) (pss_one (ps_ret pe_bl)) pss_nil)
      (pss_one (ps_set (i := 3) scLIsWay.nd rfl (Or.inl rfl) (pe_ix ix_tup (pe_ix ix_list (pv 0) (pv 4) (fun _ _ => rfl)) pe_int (fun _ _ => rfl)))))))
      (pss_one (ps_ret (pe_cmpR (op_eqD hr.units) (pe_callB call_sortedIT rfl B.sorted b_sorted (pa_cons (pv 2) pa_nil)) (pe_callTy (call_listR rfl) rfl B.list b_list (pa_cons (pe_callTy call_rng rfl B.range b_range (pa_cons (pe_callB call_len rfl B.len b_len (pa_cons (pv 0) pa_nil)) pa_nil)) pa_nil)) (nomark _))))))), ?_⟩
    have hvl := hty.1
    have hXl : X.length = ts.length := by rw [hE.1.length_eq, List.length_range]
    refine ⟨_, rfl, .ref q, "tuple", "tuple", rfl, by decide, .tup hq, _, rfl, iteM (by decide) ?_⟩
    refine ⟨_, rfl, _, rfl, q, rfl, ⟨_, SqT.of hq⟩, for_tup (K := K) (a := q) (xs := X.map nV) (fun i σ H2 => (∃ (pt : Str) (z : Option V), σ = [some (.ref a), some (.str b), some (.ref q), some (.str pt), z] ∧ Ch ts b (X.take i) pt) ∧ H2 = H)
      ⟨⟨b, none, rfl, .nil _⟩, rfl⟩ (fun i σ H2 _ ⟨_, e⟩ => by rw [e]; exact SqT.of hq) ?_ ?_⟩
    · rintro i x σ H2 hi ⟨⟨pt, z, rfl, hc⟩, rfl⟩
      obtain ⟨hi', rfl⟩ := step_mapV hi
      have hin : X[i] < ts.length := List.mem_range.mp (hE.1.mem_iff.mp (List.getElem_mem hi'))
      obtain ⟨b0, sg, e1, e2⟩ := hty.at hin
      have etk : X.take (i + 1) = X.take i ++ [X[i]] := List.take_succ_eq_append_getElem hi'
      have hfr : frm ts X[i] = pt := by
        obtain ⟨f', hf'⟩ := ch_pre (ts := ts) (u := b) (X := X.take (i + 1)) (Y := X.drop (i + 1)) (by rw [List.take_append_drop]; exact hE.2)
        rw [etk] at hf'
        exact hf'.pop.1.det hc
      refine ⟨_, rfl, nV X[i], "int", "int", rfl, by decide, .int _, _, rfl, iteM (by decide) ?_⟩
      refine ⟨_, rfl, nV X[i], "bool", "int", rfl, by decide, .int _, _, rfl, iteM (by decide) ?_⟩
      refine ⟨_, rfl, _, _, rfl, rfl, _, rfl, iteM (decide_eq_false (by omega)) ?_⟩
      refine ⟨_, rfl, _, rfl, .ref a, _, rfl, .inl ⟨_, SqL.of ha, rfl⟩, _, _, rfl, rfl, _, rfl, iteM (decide_eq_false (by omega)) ?_⟩
      refine ⟨_, rfl, _, rfl, a, vs, X[i], .ref b0, rfl, rfl, SqL.of ha, e1, b0, _, 0, .str (frm ts X[i]), rfl, rfl, SqT.of e2, rfl, _, rfl, rfl, _, rfl, ?_⟩
      refine iteM (by rw [hfr]; simp) ?_
      refine ⟨_, rfl, _, rfl, a, vs, X[i], .ref b0, rfl, rfl, SqL.of ha, e1, b0, _, 2, .str (tow ts X[i]), rfl, rfl, SqT.of e2, rfl, ?_⟩
      exact ⟨⟨tow ts X[i], _, rfl, by rw [etk]; exact hc.snoc hfr⟩, rfl⟩
    · rintro σ H2 ⟨⟨pt, z, rfl, hc⟩, rfl⟩
      refine ⟨_, rfl, q, X.map (fun (i : Nat) => (i : Int)), rfl, by rw [← nV_ints]; exact SqT.of hq, by rw [List.length_map]; omega, fun p1 ns' hp1 hpm hsrt => ?_⟩
      have s1 := same_upd_new (o := .lst (ns'.map V.int)) hp1
      refine ⟨_, rfl, .ref a, _, rfl, .inl ⟨_, SqL.of (s1 _ _ ha), rfl⟩, _, rfl, fun p2 hp2 => ?_⟩
      have s2 := same_upd_new (o := .rng 0 (vs.length : Int)) hp2
      refine ⟨p2, vs.length, rfl, upd_same, by omega, fun p3 hp3 => ?_⟩
      have s3 := same_upd_new (o := .lst ((List.range vs.length).map fun (i : Nat) => V.int i)) hp3
      have en : ns' = (List.range vs.length).map fun (i : Nat) => (i : Int) := srtI hsrt (range_srt _) (hpm.trans (by rw [hvl]; exact hE.1.map _))
      have er : (List.range vs.length).map (fun (i : Nat) => V.int i) = ns'.map V.int := by rw [en, List.map_map]; rfl
      have h1 := s3 _ _ (s2 _ _ (upd_same (H := H2) (a := p1) (o := .lst (ns'.map V.int))))
      have hsh : SeqAt.shaped (.list (ns'.map PyData.int)) = true := shaped_list (lay_ints _) (depth_ints _)
      refine ⟨.list (ns'.map PyData.int), .list (ns'.map PyData.int), by rw [RepD]; exact ⟨p1, _, rfl, h1, rep_ints _⟩, by rw [RepD]; exact ⟨p3, _, rfl, by rw [upd_same, er], rep_ints _⟩, hsh, hsh, ?_⟩
      rw [eqv_sh hsh]
      exact k _
end
end Sh

set_option Elab.async false
set_option linter.all false
set_option maxRecDepth 100000
namespace Sh
open PySem L2 PyProof.Rows
seal L2.PE L2.PS L2.PSs L2.PT L2.PW L2.PA L2.PI L2.PG L2.PGs L2.PO L2.PC L2.PCs L2.OpR L2.UnR L2.CallR L2.MtR L2.IxR L2.SlR
section
variable {P : Program} {w : World} {K : PySem.W.Frag} {mg : Str → Option Value} {base : Heap}
abbrev sLaw : Stmt := top 13
abbrev nLaw : List Str := ["_law_script", "_law_cells", "_law_seed_here", "_law_ties", "_law_begin", "_law_handed", "_law_found"]
theorem scLaw : FnScope nLaw ["_law_script"] (defScope sLaw) := ⟨rfl, rfl, rfl, by decide +kernel, rfl, by decide +kernel, by decide +kernel⟩
def spLaw (K : PySem.W.Frag) : Sp := fun vs H Q _ => ∃ (a : Addr) (ns : List Int), vs = [.ref a] ∧ SqL K H a (ns.map V.int) ∧ ns.length ≤ 63 ∧ ∀ H', Q (.bl true) H'
set_option maxHeartbeats 16000000 in
theorem ok_law {fa : Addr} {fd : FuncData} (Fl : Fun K "law" "law" sLaw fa fd) (B : Blt mg) (G__law_seed : FOk P w K mg base 4 "_law_seed" ["_law_cells"] (spSeed K)) (G__law_case : FOk P w K mg base 4 "_law_case" ["_law_cells", "_law_seed_here"] (spCase K)) (G_way_of : FOk P w K mg base 4 "way_of" ["ties", "begin"] spWay) (G__law_has_way : FOk P w K mg base 4 "_law_has_way" ["_law_ties", "_law_begin"] spHas) (G__law_is_way : FOk P w K mg base 4 "_law_is_way" ["_law_ties", "_law_begin", "_law_found"] spLIsWay) :
    FnOk P w K mg base CX0 5 fa fd ["_law_script"] (spLaw K) := by
  refine Fl.ok scLaw (fun vs H Q E h => ?_) (fun cdv A outer s H vs Q E hr h => ?_)
  · obtain ⟨a, ns, rfl, _⟩ := h
    rfl
  · obtain ⟨a, ns, rfl, ha, hl, k⟩ := h
    have hu := hu_of hr
    refine ⟨_, (pss_cons (ps_lcomp (i := 1) (defScope sLaw) nLaw ["_law_cell"] [] scLaw.nd rfl (Or.inl rfl) rfl (pi_list (pe_slice sl_list (pv 0) po_none (po_some pe_int))) (fun _ _ _ _ _ => pg_lc 0) (fun _ _ _ _ _ => pcs_nil) (fun _ _ _ _ _ => (pe_op op_mod (pv 0) (pe_op op_pow pe_int pe_int))))
      (pss_cons (ps_set (i := 2) scLaw.nd rfl (Or.inl rfl) (pe_fn G__law_seed hr (pa_cons (pv 1) pa_nil)))
      (pss_cons (ps_asg (pe_fn G__law_case hr (pa_cons (pv 1) (pa_cons (pv 2) pa_nil))) (pg_tupL 2 K rfl (pgs_cons (pg_name (i := 3) scLaw.nd rfl (Or.inl rfl)) (pgs_cons (pg_name (i := 4) scLaw.nd rfl (Or.inl rfl)) pgs_nil))))
      (pss_cons (ps_set (i := 5) scLaw.nd rfl (Or.inl rfl) (pe_callTy call_list_of rfl B.list b_list (pa_cons (pv 3) pa_nil)))
      (pss_cons (ps_if (pt_cmpR op_eq (pe_op op_mod (pe_op op_fdiv (pv 2) pe_int) pe_int) pe_int (nomark _)) (pss_one (ps_set (i := 6) scLaw.nd rfl (Or.inl rfl) (pe_fn G_way_of hr (pa_cons (pe_callTy call_tuple_of rfl B.tuple b_tuple (pa_cons (pv 5) pa_nil)) (pa_cons (pv 4) pa_nil))))) (pss_one (ps_set (i := 6) scLaw.nd rfl (Or.inl rfl) (pe_fn G_way_of hr (pa_cons (pv 5) (pa_cons (pv 4) pa_nil))))))
      (pss_cons (ps_if (PW.pt (pw_or (pt_cmpR (op_neD hr.units) (pv 5) (pv 3) (nomark _)) (pw_or1 (pt_cmpR (op_neD hr.units) (pe_fn G_way_of hr (pa_cons (pv 5) (pa_cons (pv 4) pa_nil))) (pe_fn G_way_of hr (pa_cons (pv 5) (pa_cons (pv 4) pa_nil))) (nomark _))))) (pss_one (ps_ret pe_bl)) pss_nil)
      (pss_cons (ps_if (pt_not (pt_val (pe_fn G__law_has_way hr (pa_cons (pv 3) (pa_cons (pv 4) pa_nil))))) (pss_one (ps_ret (pe_cmpR op_isN (pv 6) pe_non (nomark _)))) pss_nil)
      (pss_one (ps_ret (pe_fn G__law_is_way hr (pa_cons (pv 3) (pa_cons (pv 4) (pa_cons (pv 6) pa_nil))))))))))))), ?_⟩
    refine ⟨_, rfl, _, rfl, a, _, rfl, ha, fun p1 hp1 => ?_⟩
    rw [cut63 (ns.map V.int) (by rw [List.length_map]; exact hl)]
    refine ⟨p1, rfl, ⟨_, SqL.of upd_same⟩, lc_map (ns.map V.int).length (fun i => (ns.map V.int).getD i .non) (fun i v _ => ∀ c, ns[i]? = some c → v = .int (c % 10 ^ 18)) (by rw [List.length_map]; exact few_size (by omega)) (fun _ _ _ _ _ r => r) (jt_list (K := K) (SqL.of upd_same)) ?_ ?_⟩
    · intro i H4 Qe hi hs kq
      have hi' : i < ns.length := by rw [List.length_map] at hi; exact hi
      rw [getD_mapV hi']
      refine ⟨_, rfl, _, _, rfl, rfl, ⟨by decide, by decide, by decide⟩, _, _, rfl, rfl, (by show (0 : Int) < 10 ^ 18; decide), kq _ _ (Same.refl _) fun c hc => ?_⟩
      rw [List.getElem?_eq_getElem hi'] at hc
      cases hc
      rfl
    intro pc vs1 H3 hl1 hr1 hs3 hD1 hDl1
    rw [List.length_map] at hl1
    have evs := vs_ints (f := fun c => V.int (c % 10 ^ 18)) hl1 hr1
    have evs2 : vs1 = (ns.map fun c => c % 10 ^ 18).map V.int := by rw [evs, List.map_map]; rfl
    rw [evs2] at hDl1
    have hcl : (ns.map fun c => c % 10 ^ 18).length ≤ 63 := by rw [List.length_map]; exact hl
    generalize ns.map (fun c => c % 10 ^ 18) = cs at hDl1 hcl
    clear hs3 hD1 evs evs2 hr1
    refine ⟨_, rfl, pc, cs, rfl, SqL.of hDl1, hcl, fun sd h0 h1 => ?_⟩
    refine ⟨_, rfl, _, rfl, pc, cs, sd, rfl, SqL.of hDl1, hcl, h0, h1, fun pp q H5 us b s5 hpp hq hul hall hbok => ?_⟩
    refine ⟨pp, _, rfl, SqL.of hpp, rfl, _, _, rfl, _, _, rfl, rfl, ?_⟩
    refine ⟨_, rfl, q, us, rfl, .inl (SqL.of hq), fun hd hhd => ?_⟩
    have s6 := same_upd_new (o := .lst us) hhd
    have hq6 := s6 _ _ hq
    have hd6 : (upd H5 hd (.lst us)) hd = some (.lst us) := upd_same
    have hall6 := hall.tsame s6.tup
    generalize upd H5 hd (.lst us) = H6 at hq6 hd6 hall6
    obtain ⟨ts, hty, htok⟩ := ts_of us hall6
    have hvl := hty.1
    have hlen : ts.length ≤ 400 := by omega
    obtain ⟨ds, r1, r2, r3, r4⟩ := rep_ties us hall6
    dsimp only
    refine seq_any (fun σ H7 => ∃ x : V, σ = [some (.ref a), some (.ref pc), some (.int sd), some (.ref q), some (.str b), some (.ref hd), some x] ∧ Same H6 H7 ∧ WayV H7 x ts b) (fun R hR => ?_) ?_
    · refine ⟨_, rfl, _, _, rfl, rfl, ⟨by decide, by decide⟩, _, _, rfl, rfl, (by show (0 : Int) < 2; decide), rfl, _, rfl, ?_⟩
      by_cases c : sd / 23 % 2 = 0
      · refine iteP (int_is c) ⟨_, rfl, hd, us, rfl, .inl ⟨SqL.of hd6, fun t ht => ?_⟩⟩
        have s7 := same_upd_new (o := .tup us) ht
        refine ⟨_, rfl, .ref t, b, ts, rfl, ⟨t, us, rfl, .inr upd_same, hty.same s7⟩, hlen, way_both fun x H8 s8 hx => hR _ _ ⟨x, rfl, s7.trans s8, hx⟩⟩
      · refine iteM (int_ne c) ⟨_, rfl, _, rfl, .ref hd, b, ts, rfl, ⟨hd, us, rfl, .inl hd6, hty⟩, hlen, way_both fun x H8 s8 hx => hR _ _ ⟨x, rfl, s8, hx⟩⟩
    rintro σ H7 ⟨x, rfl, s7, hx⟩
    have hsd := shaped_list r2 r3
    refine ⟨_, rfl, _, rfl, .list ds, .list ds, by rw [RepD]; exact ⟨hd, us, rfl, s7 _ _ hd6, RepA.same s7 _ _ r1⟩, by rw [RepD]; exact ⟨q, us, rfl, s7 _ _ hq6, RepA.same s7 _ _ r1⟩, hsd, hsd, _, rfl, ?_⟩
    refine iteM (by rw [eqv_sh hsd]; rfl) ?_
    refine ⟨_, rfl, _, rfl, .ref hd, b, ts, rfl, ⟨hd, us, rfl, .inl (s7 _ _ hd6), hty.same s7⟩, hlen, way_both fun x1 H8 s8 hx1 => ?_⟩
    refine ⟨_, rfl, _, rfl, .ref hd, b, ts, rfl, ⟨hd, us, rfl, .inl (s8 _ _ (s7 _ _ hd6)), hty.same (s7.trans s8)⟩, hlen, way_both fun x2 H9 s9 hx2 => ?_⟩
    refine ⟨wayD ts b, wayD ts b, (hx1.same s9).rep, hx2.rep, wayD_sh ts b, wayD_sh ts b, _, rfl, iteM (by rw [eqv_sh (wayD_sh ts b)]; rfl) ?_⟩
    have s79 := s7.trans (s8.trans s9)
    refine ⟨_, rfl, _, rfl, q, b, us, ts, rfl, s79 _ _ hq6, hall6.tsame s79.tup, hty.same s79, hlen, allP_ok htok, fun H10 c s10 hc => ?_⟩
    have hx10 := (hx.same (s8.trans s9)).same s10
    have s610 := s79.trans s10
    refine ⟨_, rfl, ?_⟩
    rcases hx10 with ⟨hE, hT⟩ | ⟨hg, rfl⟩
    · have : c = true := hc.mpr hE.good
      subst this
      exact iteM rfl ⟨_, rfl, _, rfl, _, rfl, q, x, b, us, ts, wayX ts b, rfl, s610 _ _ hq6, hty.same s610, hlen, hT, hE, k⟩
    · have : c = false := by
        cases c with
        | true => exact absurd (hc.mp rfl) hg
        | false => rfl
      subst this
      exact iteP rfl ⟨_, rfl, rfl, k _⟩
end
end Sh

set_option Elab.async false
set_option linter.all false
set_option maxRecDepth 100000
namespace Sh
open PySem L2
theorem blt_mk {K : PySem.W.Frag} {h : Heap} {mg : Str → Option Value} (X : K.In h) (G : h.Ns mainGlobals mg) (z0 : PySem.W.nsIn K mainGlobals "isinstance" = some none) (z1 : PySem.W.nsIn K mainGlobals "int" = some none) (z2 : PySem.W.nsIn K mainGlobals "bool" = some none) (z3 : PySem.W.nsIn K mainGlobals "tuple" = some none) (z4 : PySem.W.nsIn K mainGlobals "list" = some none) (z5 : PySem.W.nsIn K mainGlobals "len" = some none) (z6 : PySem.W.nsIn K mainGlobals "range" = some none) (z7 : PySem.W.nsIn K mainGlobals "max" = some none) (z8 : PySem.W.nsIn K mainGlobals "sorted" = some none) (z9 : PySem.W.nsIn K mainGlobals "sum" = some none) : Blt mg :=
  ⟨PySem.W.mg_none_of X G z0, PySem.W.mg_none_of X G z1, PySem.W.mg_none_of X G z2, PySem.W.mg_none_of X G z3, PySem.W.mg_none_of X G z4, PySem.W.mg_none_of X G z5, PySem.W.mg_none_of X G z6, PySem.W.mg_none_of X G z7, PySem.W.mg_none_of X G z8, PySem.W.mg_none_of X G z9⟩
theorem all_mk {l : PySem.W.OpenLaw} {w : World} {K : PySem.W.Frag} {h : Heap} {mg : Str → Option Value} {fa f0 : Addr} (X : K.In h) (G : h.Ns mainGlobals mg) (hfa : mg "law" = some (.ref fa)) {oc kV dc pm cd ct : Value} {od an : Option Addr} {sl : Array (Option Value)}
    (B : Blt mg)
    (D0 : HasDef K mg "numbers_out" sNumbersOut ["ties"])
    (D1 : HasDef K mg "is_way" sIsWay ["ties", "begin", "numbers"])
    (D2 : HasDef K mg "way_of" sWayOf ["ties", "begin"])
    (D3 : HasDef K mg "_law_seed" sLSeed ["_law_cells"])
    (D4 : HasDef K mg "_law_names" sLNames ["_law_seed_here"])
    (D5 : HasDef K mg "_law_walked" sLWalked ["_law_cells", "_law_names_here"])
    (D6 : HasDef K mg "_law_mixed" sLMixed ["_law_ties", "_law_seed_here"])
    (D7 : HasDef K mg "_law_case" sLCase ["_law_cells", "_law_seed_here"])
    (D8 : HasDef K mg "_law_come" sLCome ["_law_ties", "_law_begin"])
    (D9 : HasDef K mg "_law_has_way" sLHasWay ["_law_ties", "_law_begin"])
    (D10 : HasDef K mg "_law_is_way" sLIsWay ["_law_ties", "_law_begin", "_law_found"])
    (a0 : PySem.W.nsIn K mainGlobals "law" = some (some (.ref f0))) (l0 : K.lookup f0 = some ⟨oc, od, .func (PySem.W.fnOf "law" "law" (defArgs sLaw) (defBody sLaw) (defScope sLaw) .none kV dc pm an cd ct), sl⟩) (c0 : PySem.W.codeIn K cd "law" = true) (k0 : PySem.W.keepIn K (.ref f0) = true) :
    ∃ fd : FuncData, (∀ (s : Shared) (v : Value), BindsTo s fd ⟨[v], []⟩ [("_law_script", v)]) ∧ ∀ base : Heap, K.In base → base.Ns mainGlobals mg → FnOk l.prog w K mg base CX0 5 fa fd ["_law_script"] (spLaw K) := by
  have e := hfa.symm.trans (PySem.W.mg_of X G a0)
  cases e
  refine ⟨PySem.W.fnOf "law" "law" (defArgs sLaw) (defBody sLaw) (defScope sLaw) .none kV dc pm an cd ct, fun s v => .of_eq rfl, fun base _ _ => ?_⟩
  have W0 := ok_numbers_out (P := l.prog) (w := w) (base := base) D0 B
  have W1 := ok_is_way (P := l.prog) (w := w) (base := base) D1 B
  have W2 := ok_way_of (P := l.prog) (w := w) (base := base) D2 B W0 W1
  have W3 := ok_l_seed (P := l.prog) (w := w) (base := base) D3 B
  have W4 := ok_l_names (P := l.prog) (w := w) (base := base) D4 B
  have W5 := ok_l_walked (P := l.prog) (w := w) (base := base) D5 B
  have W6 := ok_l_mixed (P := l.prog) (w := w) (base := base) D6 B
  have W7 := ok_l_case (P := l.prog) (w := w) (base := base) D7 B W4 W5 W6
  have W8 := ok_l_come (P := l.prog) (w := w) (base := base) D8 B
  have W9 := ok_l_has (P := l.prog) (w := w) (base := base) D9 B W8
  have W10 := ok_l_is_way (P := l.prog) (w := w) (base := base) D10 B
  exact ok_law (fun_mk (st := sLaw) l0 c0 k0) B (W3.mono (by decide)) (W7.mono (by decide)) (W2.mono (by decide)) (W9.mono (by decide)) (W10.mono (by decide))
theorem walk {l : PySem.W.OpenLaw} {q : Program} {loose : List Str} {XP : (Str → Option Value) → Heap → Prop} {YP : World → Heap → Prop} {d : DefRec} {K : Params → PySem.W.Frag} (hn : l.most = some 63) (hdf : d.params.defaults = [])
    (hY : ∀ (w : World) (h : Heap), YP w h → (K w.params).In h)
    (F : ∀ (w : World) (mg : Str → Option Value) (fa : Addr) (h : Heap), (K w.params).In h → h.Ns mainGlobals mg → mg d.name = some (.ref fa) →
      ∃ fd : FuncData, (∀ (s : Shared) (u : Value), BindsTo s fd ⟨[u], []⟩ [("_law_script", u)]) ∧ ∀ base : Heap, (K w.params).In base → base.Ns mainGlobals mg → FnOk l.prog w (K w.params) mg base CX0 5 fa fd ["_law_script"] (spLaw (K w.params))) :
    PySem.W.WalkO q loose XP YP l.row.toRowW d [] (fun f vs => PySem.call f vs) :=
  L2.walk_of (n := 63) (k := 5) (x := "_law_script") (CX := fun _ => CX0) (sp := fun w => spLaw (K w.params)) hn (by decide) hdf ⟨rfl, by decide, by decide⟩ hY F (fun _ _ a ns hl _ hS => ⟨a, ns, rfl, hS, hl, fun _ => rfl⟩) fun _ _ _ _ _ z => z
end Sh

set_option Elab.async false
set_option linter.all false
set_option maxRecDepth 100000
open PySem PySem.W PyProof.Rows
set_option maxRecDepth 100000 in
set_option maxHeartbeats 0 in
theorem PySem.Challenge.cw_shredjoin_k21_ways_holds : PySem.Challenge.rw_shredjoin_k21_ways.Holds := by
  w_on; o_law; k_head; (case hw => w_witness2)
  k_fill
  refine Sh.walk (l := PySem.Challenge.rw_shredjoin_k21_ways) rfl rfl (fun w h Y => PySem.W.kIn_of Y) ?F
  case F =>
    intro w mg fa h KX G hmg
    refine' Sh.all_mk KX G hmg ?B ?D0 ?D1 ?D2 ?D3 ?D4 ?D5 ?D6 ?D7 ?D8 ?D9 ?D10 ?a0 ?l0 ?c0 ?k0
    case B =>
      refine' Sh.blt_mk KX G ?z0 ?z1 ?z2 ?z3 ?z4 ?z5 ?z6 ?z7 ?z8 ?z9
      (case z0 => k_is); (case z1 => k_is); (case z2 => k_is); (case z3 => k_is); (case z4 => k_is); (case z5 => k_is); (case z6 => k_is); (case z7 => k_is); (case z8 => k_is); (case z9 => k_is)
    case D0 =>
      refine' L2.hasDef_mk KX G ?a ?l ?c ?k ?b
      (case a => k_is); (case l => k_is); (case c => k_is); (case k => k_is)
      case b => exact fun _ _ _ _ _ _ us hl => match us, hl with | [_], _ => rfl
    case D1 =>
      refine' L2.hasDef_mk KX G ?a ?l ?c ?k ?b
      (case a => k_is); (case l => k_is); (case c => k_is); (case k => k_is)
      case b => exact fun _ _ _ _ _ _ us hl => match us, hl with | [_, _, _], _ => rfl
    case D2 =>
      refine' L2.hasDef_mk KX G ?a ?l ?c ?k ?b
      (case a => k_is); (case l => k_is); (case c => k_is); (case k => k_is)
      case b => exact fun _ _ _ _ _ _ us hl => match us, hl with | [_, _], _ => rfl
    case D3 =>
      refine' L2.hasDef_mk KX G ?a ?l ?c ?k ?b
      (case a => k_is); (case l => k_is); (case c => k_is); (case k => k_is)
      case b => exact fun _ _ _ _ _ _ us hl => match us, hl with | [_], _ => rfl
    case D4 =>
      refine' L2.hasDef_mk KX G ?a ?l ?c ?k ?b
      (case a => k_is); (case l => k_is); (case c => k_is); (case k => k_is)
      case b => exact fun _ _ _ _ _ _ us hl => match us, hl with | [_], _ => rfl
    case D5 =>
      refine' L2.hasDef_mk KX G ?a ?l ?c ?k ?b
      (case a => k_is); (case l => k_is); (case c => k_is); (case k => k_is)
      case b => exact fun _ _ _ _ _ _ us hl => match us, hl with | [_, _], _ => rfl
    case D6 =>
      refine' L2.hasDef_mk KX G ?a ?l ?c ?k ?b
      (case a => k_is); (case l => k_is); (case c => k_is); (case k => k_is)
      case b => exact fun _ _ _ _ _ _ us hl => match us, hl with | [_, _], _ => rfl
    case D7 =>
      refine' L2.hasDef_mk KX G ?a ?l ?c ?k ?b
      (case a => k_is); (case l => k_is); (case c => k_is); (case k => k_is)
      case b => exact fun _ _ _ _ _ _ us hl => match us, hl with | [_, _], _ => rfl
    case D8 =>
      refine' L2.hasDef_mk KX G ?a ?l ?c ?k ?b
      (case a => k_is); (case l => k_is); (case c => k_is); (case k => k_is)
      case b => exact fun _ _ _ _ _ _ us hl => match us, hl with | [_, _], _ => rfl
    case D9 =>
      refine' L2.hasDef_mk KX G ?a ?l ?c ?k ?b
      (case a => k_is); (case l => k_is); (case c => k_is); (case k => k_is)
      case b => exact fun _ _ _ _ _ _ us hl => match us, hl with | [_, _], _ => rfl
    case D10 =>
      refine' L2.hasDef_mk KX G ?a ?l ?c ?k ?b
      (case a => k_is); (case l => k_is); (case c => k_is); (case k => k_is)
      case b => exact fun _ _ _ _ _ _ us hl => match us, hl with | [_, _, _], _ => rfl
    (case a0 => k_is); (case l0 => k_is); (case c0 => k_is); (case k0 => k_is)
#print axioms PySem.Challenge.cw_shredjoin_k21_ways_holds
