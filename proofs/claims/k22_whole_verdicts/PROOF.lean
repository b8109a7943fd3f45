import PyProof.Rows.All
import Wide.All
import OpenK.AllK
import Wide.FinOn
import Lean
import PyProof.EqAt
import PyProof.EqKinds
import PyProof.TupleCall
import KE.KSortTup
import KE.KItemsList
import KE.KUnpack
import KE.KRevIter
import PyProof.ListStr
import PyProof.EnumMake
import PyProof.EnumFor
import PyProof.EnumStmt
import KE.KMinBuiltin
import PyProof.WalkInts
import PyProof.Rows.CallKwBuiltin
import PyProof.DictItemsLoops
import KE.KDictLaws
import KE.KPairComp
import KE.KDictSum
import PyProof.SetRoads
import PyProof.Rows.SetFrom
import PyProof.FactsAll.set_1
import PyProof.FactsAll.set_2
import PyProof.Rows.DictUnroll
import PyProof.ZipIter
import KE.KStateDown
import KE.KRevSl
import PyProof.ListRange
import PyProof.Rows.Range3
import PyProof.SeqI3
import PyProof.TupleOfSeq
import KE.KDictOf
import KE.IntBitsLaws
import PySem.Challenge.RW_shredjoin_k22_whole_verdicts
set_option maxHeartbeats 0
set_option Elab.async false
set_option linter.all false
set_option maxRecDepth 100000
namespace L2
open PySem PySem.Spec PyProof.Rows
abbrev Key := Sum Int Str
def Jk : Key → Value → Bool
 | .inl k, v => Value.isInt k v
 | .inr x, v => Value.isStrOf x v
def ZkS (w : World) : Key → Int
 | .inl k => hashInt k
 | .inr x => hashStr w x
theorem keyIs_shape : ∀ {k : Key} {v : Value}, Jk k v = true → (∃ i t, k = Sum.inl i ∧ v = Value.int i t) ∨ (∃ x t, k = Sum.inr x ∧ v = Value.str x t)
 | .inl i, v, h => by
  obtain ⟨t, e⟩ := Value.isInt_shape (k := i) (v := v) h
  exact .inl ⟨i, t, rfl, e⟩
 | .inr x, v, h => by
  obtain ⟨t, e⟩ := Value.isStrOf_shape (x := x) (v := v) h
  exact .inr ⟨x, t, rfl, e⟩
theorem ZeH (i : Int) (t : Tok) : Jk (.inl i) (.int i t) = true := by simp [Jk, Value.isInt]
theorem ZeG (x : Str) (t : Tok) : Jk (.inr x) (.str x t) = true := by simp [Jk, Value.isStrOf]
theorem Zi7 (a b : Int) : decide ((Sum.inl a : Key) = Sum.inl b) = (a == b) := by
 by_cases e : a = b
 ·subst e; simp
 ·have h : ¬ (Sum.inl a : Key) = Sum.inl b := fun q => e (Sum.inl.inj q)
  rw [decide_eq_false h]
  exact (beq_eq_false_iff_ne.mpr e).symm
theorem Zi4 (a b : Str) : decide ((Sum.inr a : Key) = Sum.inr b) = decide (a = b) := by
 by_cases e : a = b
 ·subst e; simp
 ·have h : ¬ (Sum.inr a : Key) = Sum.inr b := fun q => e (Sum.inr.inj q)
  rw [decide_eq_false h, decide_eq_false e]
theorem Zi6 (a : Int) (b : Str) : decide ((Sum.inl a : Key) = Sum.inr b) = false := decide_eq_false (fun q => nomatch q)
theorem Zi5 (a : Str) (b : Int) : decide ((Sum.inr a : Key) = Sum.inl b) = false := decide_eq_false (fun q => nomatch q)
def Zp (prog : Program) (w : World) : PySem.KeyKind prog w Key where
 is := Jk
 hash := ZkS w
 inj := fun v a b ha hb => by
  rcases keyIs_shape ha with ⟨i, t, rfl, rfl⟩ | ⟨x, t, rfl, rfl⟩
  ·rcases keyIs_shape hb with ⟨j, u, rfl, e⟩ | ⟨y, u, rfl, e⟩
   ·injection e with e1 _; rw [e1]
   ·exact nomatch e
  ·rcases keyIs_shape hb with ⟨j, u, rfl, e⟩ | ⟨y, u, rfl, e⟩
   ·exact nomatch e
   ·injection e with e1 _; rw [e1]
 byValue := fun k v h => by
  rcases keyIs_shape h with ⟨i, t, rfl, rfl⟩ | ⟨x, t, rfl, rfl⟩ <;> rfl
 pyHash := fun hv h => by
  rcases keyIs_shape hv with ⟨i, t, rfl, rfl⟩ | ⟨x, t, rfl, rfl⟩
  ·exact wpAny_pyHash_int h
  ·exact wpAny_pyHash_str h
 eqBool := fun hu hv h => by
  rcases keyIs_shape hu with ⟨i, t, rfl, rfl⟩ | ⟨x, t, rfl, rfl⟩
  ·rcases keyIs_shape hv with ⟨j, u, rfl, rfl⟩ | ⟨y, u, rfl, rfl⟩
   ·rw [Zi7] at h; exact wpAny_eqBool_int h
   ·rw [Zi6] at h; exact SeqAt.EqAt.int_str i t y u _ _ _ _ h
  ·rcases keyIs_shape hv with ⟨j, u, rfl, rfl⟩ | ⟨y, u, rfl, rfl⟩
   ·rw [Zi5] at h; exact SeqAt.EqAt.str_int x t j u _ _ _ _ h
   ·rw [Zi4] at h; exact wpAny_eqBool_str h
 «strs» := fun k x t v h => by
  rcases keyIs_shape h with ⟨i, u, rfl, e⟩ | ⟨y, u, rfl, e⟩
  ·exact nomatch e
  ·injection e with e1 _
   subst e1
   cases v <;> rfl
theorem Zb0 (prog : Program) (w : World) (i : Int) (t : Tok) : (Zp prog w).is (.inl i) (.int i t) = true := ZeH i t
theorem Xd (prog : Program) (w : World) (x : Str) (t : Tok) : (Zp prog w).is (.inr x) (.str x t) = true := ZeG x t
inductive V where
 | non | bl (b : Bool) | int (i : Int) | str (x : Str) | byt (b : Array UInt8) | flt (b : UInt64) | ref (a : Addr) | ty (n : String)
 deriving DecidableEq
def RelV : V → Value → Prop
 | .non, u => u = Value.none
 | .bl b, u => u = Value.bool b
 | .int i, u => ∃ t, u = Value.int i t
 | .str x, u => ∃ t, u = Value.str x t
 | .byt b, u => ∃ t, u = Value.bytes b t
 | .flt b, u => ∃ t, u = Value.float b t
 | .ref a, u => u = Value.ref a
 | .ty n, u => u = Value.type n
abbrev Vals : List V → List Value → Prop := Paired RelV
theorem Vals.length {xs : List V} {us : List Value} (r : Vals xs us) : xs.length = us.length := Paired.length r
theorem Vals.get : ∀ {xs : List V} {us : List Value} {i : Nat} {x : V}, Vals xs us → xs[i]? = some x → ∃ u, us[i]? = some u ∧ RelV x u
 | _, _, _, _, .nil, e => by simp at e
 | _, _, 0, _, .cons r _, e => by simp at e; subst e; exact ⟨_, rfl, r⟩
 | _, _, i + 1, x, .cons _ t, e => by
  obtain ⟨u, h1, h2⟩ := Vals.get (i := i) (x := x) t (by simpa using e)
  exact ⟨u, by simpa using h1, h2⟩
theorem Vals.set {x : V} {u : Value} (r : RelV x u) : ∀ {xs : List V} {us : List Value} (i : Nat), Vals xs us → Vals (xs.set i x) (us.set i u)
 | _, _, _, .nil => .nil
 | _, _, 0, .cons _ t => .cons r t
 | _, _, i + 1, .cons q t => .cons q (Vals.set r i t)
theorem Vals.append : ∀ {xs ys : List V} {us ws : List Value}, Vals xs us → Vals ys ws → Vals (xs ++ ys) (us ++ ws)
 | _, _, _, _, .nil, s => s
 | _, _, _, _, .cons r t, s => .cons r (Vals.append t s)
theorem Vals.take : ∀ {xs : List V} {us : List Value} (n : Nat), Vals xs us → Vals (xs.take n) (us.take n)
 | _, _, 0, _ => .nil
 | _, _, _ + 1, .nil => .nil
 | _, _, n + 1, .cons r t => .cons r (Vals.take n t)
theorem Vals.drop : ∀ {xs : List V} {us : List Value} (n : Nat), Vals xs us → Vals (xs.drop n) (us.drop n)
 | _, _, 0, r => r
 | _, _, _ + 1, .nil => .nil
 | _, _, n + 1, .cons _ t => Vals.drop n t
def RelO : Option V → Option Value → Prop
 | some v, some u => RelV v u
 | none, none => True
 | _, _ => False
def KV {κ : Type} : List (κ × V) → List (κ × Value) → Prop := Paired fun (p : κ × V) (q : κ × Value) => p.1 = q.1 ∧ RelV p.2 q.2
def kV : Key → V
 | .inl i => .int i
 | .inr x => .str x
inductive HO where
  | lst (xs : List V)
  | tup (xs : List V)
  | dK (kvs : List (Key × V)) | dT (kvs : List (List Key × V))
  | set (S : Int → Bool) (n : Nat)
  | ins (C dx : Addr) (fs : List (Str × V))
  | own (x : Addr)
  | xd (fs : List (Str × V))
  | met (f x : Addr)
  | rng (lo hi : Int)
  | frz (o : Obj) (u : HO)
  | tbl (ps : Array Value)
  | ext (φ : Heap → Prop)
abbrev Hp := Addr → Option HO
def upd (H : Hp) (a : Addr) (o : HO) : Hp := fun b => if b = a then some o else H b
theorem Zd {H : Hp} {a : Addr} {o : HO} : upd H a o a = some o := by unfold upd; rw [if_pos rfl]
theorem Zg {H : Hp} {a b : Addr} {o : HO} (h : b ≠ a) : upd H a o b = H b := by unfold upd; rw [if_neg h]
theorem Xu {H : Hp} {a : Addr} {o u : HO} : upd (upd H a o) a u = upd H a u := by
 funext b; unfold upd; split <;> rfl
theorem ZfP {H : Hp} {a b : Addr} {o u : HO} (h : H a = some o) (h' : H b = some u) (d : o ≠ u) : a ≠ b := by
 intro e; subst e; rw [h] at h'; exact d (Option.some.inj h')
theorem Zj {H : Hp} {a b : Addr} {o : HO} (h : H a = some o) (h' : H b = none) : a ≠ b := by
 intro e; subst e; rw [h] at h'; cases h'
section
variable (P : Program) (w : World)
def NoD (h : Heap) (a : Addr) : Prop := ∀ o, h.get? a = some o → o.dict = none
theorem Zcy {h : Heap} {o : Obj} (hd : o.dict = none) (hf : o.isFreed = false) : NoD (h.push o) h.objs.size := fun o2 e => by
 rw [Heap.get?_push_size h hf] at e
 cases e
 exact hd
def ObjOk (H : Hp) (h : Heap) (a : Addr) : HO → Prop
 | .lst xs => xs.length ≤ sizeLine ∧ ∃ (its : List Value) (n : Nat), Vals xs its ∧ h.get? a = some { cls := .type "list", data := .seq its.toArray n }
 | .tup xs => xs.length ≤ sizeLine ∧ ∃ its : List Value, Vals xs its ∧ IsTup h a its.toArray ∧ NoD h a
 | .dK kvs => kvs.length ≤ sizeLine ∧ (a == sysModules) = false ∧ ∃ vs, KV kvs vs ∧ h.DictOf (Zp P w) a vs
 | .dT kvs => kvs.length ≤ sizeLine ∧ (a == sysModules) = false ∧ ∃ xs : List (List Key × Addr × Value),
   Paired (fun (p : List Key × V) (q : List Key × Addr × Value) => p.1 = q.1 ∧ H q.2.1 = some (.tup (p.1.map kV)) ∧ RelV p.2 q.2.2) kvs xs ∧
   ∃ o es ep, h.get? a = some o ∧ o.ExactDict ∧ o.data = .dict es ep ∧ es.toList = xs.map (entryOfKey (tupleKind (Zp P w))) ∧ (xs.map (·.1)).Nodup
 | .set S n => h.SetOf (intKind P w) a S n
 | .ins C dx fs => H dx = some (.own a) ∧ fs.length ≤ 1000 ∧ dx ≠ a ∧ h.get? a = some (PySem.W.instObj C dx) ∧
   ∃ mA, h.Ns1 dx mA ∧ (∀ f, RelO (fs.lookup f) (mA f)) ∧ PySem.Within mA (fs.map (·.1))
 | .own _ => ∃ o, h.get? a = some o
 | .xd fs => ∃ mA, h.Ns1 a mA ∧ ∀ f, RelO (fs.lookup f) (mA f)
 | .rng lo hi => ∃ t u v, h.get? a = some { cls := .type "range", data := .fields #[.int lo t, .int hi u, .int 1 v] }
 | .frz o u => h.get? a = some o ∧ ObjOk H h a u
 | .tbl ps => h.get? a = some { cls := .none, data := .fields ps }
 | .met f x => h.get? a = some (PySem.W.methodObj (.ref f) (.ref x))
 | .ext φ => φ h ∧ (∃ o, h.get? a = some o) ∧ ∀ h1 h2 : Heap, φ h1 → (∀ o, h1.get? a = some o → h2.get? a = some o) → φ h2
def HOk (H : Hp) (h : Heap) : Prop := ∀ a o, H a = some o → ObjOk P w H h a o
end
section
variable {P : Program} {w : World} {H H' : Hp} {h h' : Heap} {a : Addr} {o : HO}
theorem ObjOk.lt (x : ObjOk P w H h a o) : a < h.objs.size := by
 cases o with
 | lst xs => obtain ⟨_, _, _, _, e⟩ := x; exact Heap.lt_size e
 | tup xs => obtain ⟨_, _, _, p, _⟩ := x; exact p.lt
 | dK kvs => obtain ⟨_, _, _, _, o, _, _, e, _⟩ := x; exact Heap.lt_size e
 | dT kvs => obtain ⟨_, _, _, _, o, _, _, e, _⟩ := x; exact Heap.lt_size e
 | set S n => obtain ⟨o, _, _, _, e, _⟩ := x; exact Heap.lt_size e
 | ins C dx fs => obtain ⟨_, _, _, e, _⟩ := x; exact Heap.lt_size e
 | own y => obtain ⟨_, e⟩ := x; exact Heap.lt_size e
 | xd fs => obtain ⟨_, ⟨_, _, _, e, _⟩, _⟩ := x; exact Heap.lt_size e
 | rng lo hi => obtain ⟨_, _, _, e⟩ := x; exact Heap.lt_size e
 | frz ob u => obtain ⟨e, _⟩ := x; exact Heap.lt_size e
 | tbl ps => exact Heap.lt_size (show h.get? a = some _ from x)
 | met f y => exact Heap.lt_size (show h.get? a = some _ from x)
 | ext φ => obtain ⟨_, ⟨_, e⟩, _⟩ := x; exact Heap.lt_size e
theorem Paired.mapP {α β : Type} {F G : α → β → Prop} : ∀ {l₁ : List α} {l₂ : List β}, Paired F l₁ l₂ → (∀ a b, F a b → G a b) → Paired G l₁ l₂
 | _, _, .nil, _ => .nil
 | _, _, .cons r t, f => .cons (f _ _ r) (Paired.mapP t f)
theorem ObjOk.stay (x : ObjOk P w H h a o) (k : ∀ b u, (b = a ∨ H b = some (.own a)) → h.get? b = some u → h'.get? b = some u)
  (ho : ∀ b, H b = some (.own a) → H' b = some (.own a)) (ht : ∀ b xs, H b = some (.tup xs) → H' b = some (.tup xs)) : ObjOk P w H' h' a o := by
 induction o with
 | lst xs => obtain ⟨z, its, n, r, e⟩ := x; exact ⟨z, its, n, r, k _ _ (.inl rfl) e⟩
 | tup xs =>
  obtain ⟨z, its, r, ⟨ob, e, c⟩, nd⟩ := x
  exact ⟨z, its, r, ⟨ob, k _ _ (.inl rfl) e, c⟩, fun o2 e2 => by
   rw [k _ _ (.inl rfl) e] at e2
   cases e2
   exact nd _ e⟩
 | dK kvs => obtain ⟨z, y, vs, r, ob, es, ep, e, c⟩ := x; exact ⟨z, y, vs, r, ob, es, ep, k _ _ (.inl rfl) e, c⟩
 | dT kvs =>
  obtain ⟨z, y, xs, r, ob, es, ep, e, c⟩ := x
  exact ⟨z, y, xs, Paired.mapP r fun p q z => ⟨z.1, ht _ _ z.2.1, z.2.2⟩, ob, es, ep, k _ _ (.inl rfl) e, c⟩
 | set S n => obtain ⟨ob, es, ep, t, e, c⟩ := x; exact ⟨ob, es, ep, t, k _ _ (.inl rfl) e, c⟩
 | ins C dx fs =>
  obtain ⟨d, z, ne, e, mA, ⟨od, es, ep, e2, c⟩, r⟩ := x
  exact ⟨ho _ d, z, ne, k _ _ (.inl rfl) e, mA, ⟨od, es, ep, k _ _ (.inr d) e2, c⟩, r⟩
 | own y => obtain ⟨ob, e⟩ := x; exact ⟨ob, k _ _ (.inl rfl) e⟩
 | xd fs => obtain ⟨mA, ⟨od, es, ep, e, c⟩, r⟩ := x; exact ⟨mA, ⟨od, es, ep, k _ _ (.inl rfl) e, c⟩, r⟩
 | rng lo hi => obtain ⟨t, u, v, e⟩ := x; exact ⟨t, u, v, k _ _ (.inl rfl) e⟩
 | frz ob u ih => obtain ⟨e, q⟩ := x; exact ⟨k _ _ (.inl rfl) e, ih q⟩
 | tbl ps =>
  have e : h.get? a = some { cls := .none, data := .fields ps } := x
  show h'.get? a = some { cls := .none, data := .fields ps }
  exact k a _ (.inl rfl) e
 | met f y =>
  have e : h.get? a = some (PySem.W.methodObj (.ref f) (.ref y)) := x
  show h'.get? a = some (PySem.W.methodObj (.ref f) (.ref y))
  exact k a _ (.inl rfl) e
 | ext φ => obtain ⟨p, ⟨o, e⟩, st⟩ := x; exact ⟨st _ _ p fun o q => k _ _ (.inl rfl) q, ⟨o, k _ _ (.inl rfl) e⟩, st⟩
theorem HOk.lt (x : HOk P w H h) (e : H a = some o) : a < h.objs.size := (x a o e).lt
theorem HOk.fresh (x : HOk P w H h) (e : h.objs.size ≤ a) : H a = none := by
 cases q : H a with
 | none => rfl
 | some u => exact absurd (Nat.lt_of_lt_of_le (x.lt q) e) (Nat.lt_irrefl _)
theorem HOk.kept (x : HOk P w H h) (k : ∀ b u, h.get? b = some u → h'.get? b = some u) : HOk P w H h' := fun a o e =>
 (x a o e).stay (fun b u _ q => k b u q) (fun _ q => q) fun _ _ q => q
theorem HOk.laid (x : HOk P w H h) (k : ∀ b u, h.get? b = some u → h'.get? b = some u) (hp : h.objs.size ≤ a) (new : ObjOk P w (upd H a o) h' a o) : HOk P w (upd H a o) h' := fun b u e => by
 have hn := x.fresh hp
 by_cases hb : b = a
 ·subst hb; rw [Zd] at e; cases e; exact new
 ·rw [Zg hb] at e
  exact (x b u e).stay (fun c v _ q => k c v q) (fun c q => by rw [Zg (Zj q hn)]; exact q) fun c xs q => by rw [Zg (Zj q hn)]; exact q
end
def Rd (H : Hp) (a : Addr) (u : HO) : Prop := H a = some u ∨ ∃ o, H a = some (.frz o u)
theorem Rd.of {H : Hp} {a : Addr} {u : HO} (h : H a = some u) : Rd H a u := .inl h
theorem Rd.ok {P : Program} {w : World} {H : Hp} {h : Heap} {a : Addr} {u : HO} (r : Rd H a u) (x : HOk P w H h) : ObjOk P w H h a u := by
 rcases r with r | ⟨o, r⟩
 ·exact x a u r
 ·obtain ⟨_, q⟩ := x a _ r
  exact q
def Mut : Option HO → Prop
 | some (.lst _) => True
 | some (.dK _) => True
 | some (.dT _) => True
 | some (.set _ _) => True
 | some (.ins _ _ _) => True
 | some (.ext _) => True
 | _ => False
section
variable {P : Program} {w : World} {H : Hp} {h h' : Heap} {x e : Addr} {o' : HO}
theorem HOk.write (ok : HOk P w H h) (mu : Mut (H x)) (he : e = x ∨ H e = some (.own x)) (k : ∀ b u, b ≠ e → h.get? b = some u → h'.get? b = some u) (heo : ∃ u, h'.get? e = some u)
  (new : ObjOk P w (upd H x o') h' x o') : HOk P w (upd H x o') h' := fun b u q => by
 have nown : ∀ c y, H c = some (.own y) → c ≠ x := fun c y r z => by subst z; rw [r] at mu; exact mu
 have ntup : ∀ c xs, H c = some (.tup xs) → c ≠ x := fun c xs r z => by subst z; rw [r] at mu; exact mu
 by_cases hb : b = x
 ·subst hb; rw [Zd] at q; cases q; exact new
 ·rw [Zg hb] at q
  by_cases hbe : b = e
  ·have q' : H b = some (.own x) := by
    rcases he with z | z
    ·exact absurd (hbe.trans z) hb
    ·rw [hbe]; exact z
   rw [q] at q'; cases q'
   obtain ⟨v, hv⟩ := heo
   exact ⟨v, by rw [hbe]; exact hv⟩
  ·refine (ok b u q).stay (fun c v hc r => k c v ?_ r) (fun c r => by rw [Zg (nown c b r)]; exact r) fun c xs r => by rw [Zg (ntup c xs r)]; exact r
   rcases hc with rfl | hc
   ·exact hbe
   ·rintro rfl
    rcases he with z | z
    ·exact nown c b hc z
    ·rw [hc] at z; cases z; exact hb rfl
end
structure Un (fs ex : List Addr) (H H' : Hp) (h h' : Heap) : Prop where
 keep : ∀ b o, h.get? b = some o → H b = none → b ∉ fs → b ∉ ex → h'.get? b = some o
 slot : ∀ b o, h.get? b = some o → H b = none → b ∈ fs → b ∉ ex → ∃ sl, h'.get? b = some { o with slots := sl }
 free : ∀ b o, h.get? b = some o → H b = none → b ∉ ex → H' b = none
 there : ∀ b o, h.get? b = some o → b ∉ ex → ∃ o', h'.get? b = some o'
 tups : ∀ b xs, H b = some (.tup xs) → H' b = some (.tup xs)
 frzs : ∀ b o u, H b = some (.frz o u) → H' b = some (.frz o u)
 tbls : ∀ b ps, H b = some (.tbl ps) → ∃ more, H' b = some (.tbl (ps ++ more))
section
variable {fs fs' ex ex' : List Addr} {H H1 H2 : Hp} {h h1 h2 h' : Heap} {a x e : Addr} {o : HO}
theorem Un.any (u : Un fs ex H H1 h h1) {b : Addr} {ob : Obj} (q : h.get? b = some ob) (n : H b = none) (hx : b ∉ ex) : ∃ sl, h1.get? b = some { ob with slots := sl } := by
 by_cases hb : b ∈ fs
 ·exact u.slot b ob q n hb hx
 ·exact ⟨ob.slots, u.keep b ob q n hb hx⟩
theorem Un.kept (k : ∀ b u, h.get? b = some u → h'.get? b = some u) : Un fs ex H H h h' :=
 ⟨fun b ob q _ _ _ => k b ob q, fun b ob q _ _ _ => ⟨ob.slots, k b ob q⟩, fun _ _ _ n _ => n, fun b ob q _ => ⟨ob, k b ob q⟩, fun _ _ q => q, fun _ _ _ q => q, fun _ ps q => ⟨#[], by rw [q]; simp⟩⟩
theorem Un.refl : Un fs ex H H h h := Un.kept fun _ _ q => q
theorem Un.laid (k : ∀ b u, h.get? b = some u → h'.get? b = some u) (hp : h.objs.size ≤ a) (hn : H a = none) : Un fs ex H (upd H a o) h h' where
 keep := fun b u q _ _ _ => k b u q
 slot := fun b u q _ _ _ => ⟨u.slots, k b u q⟩
 free := fun b u q n _ => by rw [Zg (Nat.ne_of_lt (Nat.lt_of_lt_of_le (Heap.lt_size q) hp))]; exact n
 there := fun b u q _ => ⟨u, k b u q⟩
 tups := fun b xs q => by rw [Zg (Zj q hn)]; exact q
 frzs := fun b u xs q => by rw [Zg (Zj q hn)]; exact q
 tbls := fun b ps q => ⟨#[], by rw [Zg (Zj q hn), q]; simp⟩
theorem Un.write (mu : Mut (H x)) (he : e = x ∨ H e = some (.own x)) (k : ∀ b u, b ≠ e → h.get? b = some u → h'.get? b = some u) (heo : ∃ u, h'.get? e = some u) : Un fs ex H (upd H x o) h h' := by
 have hx : ∀ b, H b = none → b ≠ x := fun b n z => by subst z; rw [n] at mu; exact mu
 have hb : ∀ b, H b = none → b ≠ e := fun b n z => by
  subst z
  rcases he with r | r
  ·exact hx b n r
  ·rw [n] at r; cases r
 have hm : ∀ b u, H b = some u → ¬ Mut (some u) → b ≠ x := fun b u q nm z => by subst z; rw [q] at mu; exact nm mu
 refine ⟨fun b u q n _ _ => k b u (hb b n) q, fun b u q n _ _ => ⟨u.slots, k b u (hb b n) q⟩, fun b u q n _ => by rw [Zg (hx b n)]; exact n, fun b u q _ => ?_,
  fun b xs q => by rw [Zg (hm b _ q fun z => z)]; exact q, fun b u xs q => by rw [Zg (hm b _ q fun z => z)]; exact q, fun b ps q => ⟨#[], by rw [Zg (hm b _ q fun z => z), q]; simp⟩⟩
 by_cases hbe : b = e
 ·subst hbe; exact heo
 ·exact ⟨u, k b u hbe q⟩
theorem Un.mono (u : Un fs ex H H1 h h1) (hs : ∀ b ∈ fs, b ∈ fs') (hx : ∀ b ∈ ex, b ∈ ex') : Un fs' ex' H H1 h h1 :=
 ⟨fun b ob q n hb he => u.keep b ob q n (fun z => hb (hs b z)) fun z => he (hx b z), fun _ _ q n _ he => u.any q n fun z => he (hx _ z), fun b ob q n he => u.free b ob q n fun z => he (hx b z), fun b ob q he => u.there b ob q fun z => he (hx b z), u.tups, u.frzs, u.tbls⟩
end
def trk (h : Heap) (H : Hp) : List Addr := (List.range h.objs.size).filter fun a => (H a).isSome
def Zgb (h : Heap) (H : Hp) : Heap := PySem.W.hideAll h (trk h H)
theorem ZeQ (h : Heap) (H : Hp) : (Zgb h H).objs.size = h.objs.size := PySem.W.hideAll_size _ _
theorem Zga {h : Heap} {H : Hp} {b : Addr} {o : Obj} (e : h.get? b = some o) (n : H b = none) : (Zgb h H).get? b = some o :=
 PySem.W.hideAll_get _ e fun hm => by
  have q : (H b).isSome = true := (List.mem_filter.mp hm).2
  rw [n] at q; simp at q
theorem Zhz {h : Heap} {H : Hp} {b : Addr} {o : Obj} (e : (Zgb h H).get? b = some o) : h.get? b = some o ∧ H b = none := by
 have e' : h.get? b = some o := PySem.W.of_hideAll (trk h H) e
 refine ⟨e', ?_⟩
 cases q : H b with
 | none => rfl
 | some x =>
  have hm : b ∈ trk h H := List.mem_filter.mpr ⟨List.mem_range.mpr (Heap.lt_size e'), by simp [q]⟩
  have z : (Zgb h H).get? b = none := PySem.W.hideAll_none (trk h H) hm
  rw [z] at e; cases e
def Zh5 (g h : Heap) (L : Addr) : List (Addr × Obj) := (List.range h.objs.size).filterMap fun a => if a = L ∨ (g.get? a).isSome = true then none else (h.get? a).map fun o => (a, o)
def rest (g h : Heap) (L d : Addr) : List (Addr × Obj) := (Zh5 g h L).filter fun p => decide (p.1 ≠ d)
structure Mod (K : PySem.W.Frag) (mg : Str → Option Value) (base : Heap) : Prop where
 kin : K.In base
 glob : base.Ns mainGlobals mg
 blt : ∃ mb, base.Ns builtinsNs mb ∧ ∀ x : Str, x ≠ "__name__" → mb x = bootBuiltins x
 nolimit : base.NoLimit
structure Cx where
 prog : Program
 w : World
 K : PySem.W.Frag
 mg : Str → Option Value
 base : Heap
 A : Around
 N : List Str
 s₀ : Shared
 H₀ : Hp
 env : Env
 outer : List Env
 stack : List Env
 ex : List Addr
 fn : Str → Bool
 calm : Bool
 pn : List (Addr × Obj)
 xe : Value → Shared → Prop
def frs (l : List Env) : List Addr := l.filterMap (·.frame)
abbrev Cx.fs (X : Cx) : List Addr := frs X.outer
def Vis (sc : Scope) (x : Str) : Prop := sc.names.lookup x = some .local ∨ sc.names.lookup x = some .cell ∨ sc.names.lookup x = some .free
def Loc (sc : Scope) (x : Str) : Prop := sc.names.lookup x = some .local ∨ sc.names.lookup x = some .cell
def Zk4 (env : Env) (h : Heap) (m : Str → Option Value) (x : Str) (u : Value) : Prop :=
 (env.kindOf x = some .local ∧ m x = some u) ∨ ((env.kindOf x = some .cell ∨ env.kindOf x = some .free) ∧ ∃ c, env.cells.lookup x = some c ∧ h.IsCell c (some u))
structure Cx.Ok (X : Cx) : Prop where
 mod : Mod X.K X.mg X.base
 kind : X.env.scope.kind = .function
 glob : X.env.globals = mainGlobals
 blt : X.env.builtins = builtinsNs
 above : X.s₀.heap.objs.size ≤ X.env.locals
 inj : ∀ x y c, X.env.cells.lookup x = some c → X.env.cells.lookup y = some c → x = y
 has : ∀ x, (X.env.kindOf x = some .cell ∨ X.env.kindOf x = some .free) → ∃ c, X.env.cells.lookup x = some c
 cab : ∀ x c, X.fn x = true → X.env.cells.lookup x = some c → X.s₀.heap.objs.size ≤ c
 hd : X.calm = true → X.A.handled = none
 frames : X.A.frames = some X.stack
 stk : X.stack = X.outer ∨ (X.stack = X.env :: X.outer ∧ X.env.frame = some X.env.locals)
 exf : ∀ b ∈ X.ex, b ≠ X.env.locals ∧ ∀ x c, X.env.cells.lookup x = some c → c ≠ b
 bs : ∀ b o, X.base.get? b = some o → X.s₀.heap.get? b = some o ∧ X.H₀ b = none
 bsz : X.base.objs.size ≤ X.s₀.heap.objs.size
 noex : ∀ b o, X.base.get? b = some o → b ∉ X.ex
 exfs : ∀ b ∈ X.ex, b ∉ X.fs
 funs : X.s₀.heap.FunFrames X.base X.outer
 frf : ∀ b ∈ X.fs, X.H₀ b = none
structure Inv (X : Cx) (pins : List (Addr × Obj)) (σ : List (Option V)) (H : Hp) (s : Shared) : Prop where
 ok : X.Ok
 os : s.os = X.s₀.os
 bare : AllBare s.gens
 base : Un X.fs X.ex X.H₀ H X.s₀.heap s.heap
 loc : ∃ m, s.heap.Ns X.env.locals m ∧ ∀ (i : Nat) (x : Str) (v : V), X.N[i]? = some x → σ[i]? = some (some v) → Vis X.env.scope x → ∃ u, RelV v u ∧ Zk4 X.env s.heap m x u
 cell : ∀ x c, X.env.cells.lookup x = some c → ∃ v, s.heap.IsCell c v
 free : H X.env.locals = none
 freeC : ∀ x c, X.env.cells.lookup x = some c → H c = none
 pin : ∀ p ∈ X.pn ++ pins, s.heap.get? p.1 = some p.2 ∧ H p.1 = none ∧ p.1 ≠ X.env.locals ∧ p.1 ∉ X.fs ∧ ∀ v, p.2.data ≠ .cell v
 hok : HOk X.prog X.w H s.heap
 len : σ.length = X.N.length
section
variable {X : Cx} {pins : List (Addr × Obj)} {σ : List (Option V)} {H H' : Hp} {s : Shared} {h' : Heap}
theorem Cx.Ok.nofr (ok : X.Ok) {b : Addr} {o : Obj} (e : X.base.get? b = some o) : b ∉ X.fs := fun hb => by
 have := (ok.funs.mem hb).1
 rw [e] at this; cases this
theorem Inv.bs (I : Inv X pins σ H s) : ∀ b o, X.base.get? b = some o → s.heap.get? b = some o ∧ H b = none := fun b o e =>
 ⟨I.base.keep b o (I.ok.bs b o e).1 (I.ok.bs b o e).2 (I.ok.nofr e) (I.ok.noex b o e), I.base.free b o (I.ok.bs b o e).1 (I.ok.bs b o e).2 (I.ok.noex b o e)⟩
theorem Inv.bk (I : Inv X pins σ H s) : ∀ b o, X.base.get? b = some o → s.heap.get? b = some o := fun b o e => (I.bs b o e).1
theorem Inv.mod (I : Inv X pins σ H s) : Mod X.K X.mg X.base := I.ok.mod
theorem Inv.kIn (I : Inv X pins σ H s) : X.K.In s.heap := I.ok.mod.kin.keeps I.bk
theorem Inv.nolimit (I : Inv X pins σ H s) : s.heap.NoLimit := I.ok.mod.nolimit.keeps I.bk
theorem Inv.lt (I : Inv X pins σ H s) : X.env.locals < s.heap.objs.size := let ⟨_, hn, _⟩ := I.loc; hn.lt
theorem Inv.sz (I : Inv X pins σ H s) : X.s₀.heap.objs.size ≤ s.heap.objs.size := Nat.le_trans I.ok.above (Nat.le_of_lt I.lt)
theorem Inv.nofs (I : Inv X pins σ H s) {a : Addr} (h : s.heap.objs.size ≤ a) : a ∉ X.fs := fun hb => by
 obtain ⟨_, o, ho, _⟩ := I.ok.funs.mem hb
 exact absurd (Nat.lt_of_lt_of_le (Heap.lt_size ho) (Nat.le_trans I.sz h)) (Nat.lt_irrefl _)
theorem Inv.cne (I : Inv X pins σ H s) : ∀ x c, X.env.cells.lookup x = some c → c ≠ X.env.locals := fun x c e z => by
 obtain ⟨v, o, ho, hd⟩ := I.cell x c e
 obtain ⟨m, ⟨o', es, ep, ho', hd', _⟩, _⟩ := I.loc
 rw [z, ho'] at ho; cases ho; rw [hd'] at hd; cases hd
theorem Inv.funs (I : Inv X pins σ H s) : s.heap.FunFrames X.base X.outer := by
 have all : ∀ (l : List Env), (∀ b ∈ frs l, b ∈ X.fs) → X.s₀.heap.FunFrames X.base l → s.heap.FunFrames X.base l := by
  intro l
  induction l with
  | nil => intro _ _; trivial
  | cons env r ih =>
   intro hs hl
   obtain ⟨hk, ⟨L, o, hf, hn, ho, hd⟩, hr⟩ := hl
   have hL : L ∈ X.fs := hs L (by unfold frs; rw [List.filterMap_cons, hf]; exact List.mem_cons_self)
   obtain ⟨sl, e⟩ := I.base.slot L o ho (I.ok.frf L hL) hL fun z => I.ok.exfs L z hL
   exact ⟨hk, ⟨L, _, hf, hn, e, hd⟩, ih (fun b hb => hs b (by unfold frs; rw [List.filterMap_cons, hf]; exact List.mem_cons_of_mem _ hb)) hr⟩
 exact all X.outer (fun _ hb => hb) I.ok.funs
theorem Inv.stack (I : Inv X pins σ H s) : s.heap.FunFrames X.base X.stack := by
 rcases I.ok.stk with e | ⟨e, hf⟩
 ·rw [e]; exact I.funs
 ·rw [e]
  obtain ⟨m, hn, _⟩ := I.loc
  refine .cons (by rw [I.ok.kind]; decide) hf hn ?_ I.funs
  exact Heap.get?_none_of_le (Nat.le_trans I.ok.bsz I.ok.above)
theorem Inv.stkSub (I : Inv X pins σ H s) : ∀ b ∈ frs X.stack, b ∈ X.env.locals :: X.fs := fun b hb => by
 rcases I.ok.stk with e | ⟨e, hf⟩
 ·rw [e] at hb; exact List.mem_cons_of_mem _ hb
 ·rw [e] at hb
  unfold frs at hb
  rw [List.filterMap_cons, hf] at hb
  exact hb
theorem Inv.stkFree (I : Inv X pins σ H s) : ∀ b ∈ frs X.stack, H b = none := fun b hb => by
 rcases List.mem_cons.mp (I.stkSub b hb) with e | hb
 ·rw [e]; exact I.free
 ·obtain ⟨_, o, ho, _⟩ := I.ok.funs.mem hb
  exact I.base.free b o ho (I.ok.frf b hb) fun z => I.ok.exfs b z hb
theorem Inv.step {g' : Array GenState} {t' : Nat} {d' : Drawn} {ch : List Addr} (I : Inv X pins σ H s)
  (hch : ∀ b ∈ ch, (b ∈ X.ex ∨ X.s₀.heap.objs.size ≤ b) ∧ b ≠ X.env.locals ∧ (∀ x c, X.env.cells.lookup x = some c → c ≠ b) ∧ ∀ p ∈ X.pn ++ pins, p.1 ≠ b)
  (keep : ∀ b o, b ≠ X.env.locals → b ∉ X.fs → b ∉ ch → s.heap.get? b = some o → H b = none → h'.get? b = some o)
  (slot : ∀ b o, b ≠ X.env.locals → b ∈ X.fs → b ∉ ch → s.heap.get? b = some o → H b = none → ∃ sl, h'.get? b = some { o with slots := sl }) (free : ∀ b o, b ∉ ch → s.heap.get? b = some o → H b = none → H' b = none)
  (there : ∀ b o, b ∉ ch → s.heap.get? b = some o → ∃ o', h'.get? b = some o')
  (tups : ∀ b xs, H b = some (.tup xs) → H' b = some (.tup xs)) (frzs : ∀ b o u, H b = some (.frz o u) → H' b = some (.frz o u)) (tbls : ∀ b ps, H b = some (.tbl ps) → ∃ more, H' b = some (.tbl (ps ++ more)))
  (ns : ∀ m, s.heap.Ns X.env.locals m → h'.Ns X.env.locals m) (hok : HOk X.prog X.w H' h') (hg : AllBare g') :
  Inv X pins σ H' { s with heap := h', gens := g', drawn := d', toks := t' } := by
 have neL : ∀ b o, X.s₀.heap.get? b = some o → b ≠ X.env.locals := fun b o e => Nat.ne_of_lt (Nat.lt_of_lt_of_le (Heap.lt_size e) I.ok.above)
 have neC : ∀ b o, X.s₀.heap.get? b = some o → b ∉ X.ex → b ∉ ch := fun b o e hx hb => by
  rcases (hch b hb).1 with z | z
  ·exact hx z
  ·exact absurd (Nat.lt_of_lt_of_le (Heap.lt_size e) z) (Nat.lt_irrefl _)
 have cellK : ∀ x c, X.env.cells.lookup x = some c → ∀ v, s.heap.IsCell c v → h'.IsCell c v := fun x c e v ⟨o, ho, hd⟩ => by
  have nch : c ∉ ch := fun z => (hch c z).2.2.1 x c e rfl
  by_cases hc : c ∈ X.fs
  ·obtain ⟨sl, q⟩ := slot c o (I.cne x c e) hc nch ho (I.freeC x c e)
   exact ⟨_, q, hd⟩
  ·exact ⟨o, keep c o (I.cne x c e) hc nch ho (I.freeC x c e), hd⟩
 refine ⟨I.ok, I.os, hg, ⟨fun b o e n hb hx => ?_, fun b o e n hb hx => ?_, fun b o e n hx => ?_, fun b o e hx => ?_, fun b xs e => tups b xs (I.base.tups b xs e), fun b o xs e => frzs b o xs (I.base.frzs b o xs e), fun b ps e => ?_⟩, ?_, fun x c e => ?_, ?_, fun x c e => ?_, fun p hp => ?_, hok, I.len⟩
 ·exact keep b o (neL b o e) hb (neC b o e hx) (I.base.keep b o e n hb hx) (I.base.free b o e n hx)
 ·obtain ⟨sl, e1⟩ := I.base.slot b o e n hb hx
  obtain ⟨sl', e2⟩ := slot b _ (neL b o e) hb (neC b o e hx) e1 (I.base.free b o e n hx)
  exact ⟨sl', e2⟩
 ·obtain ⟨o', e1⟩ := I.base.there b o e hx
  exact free b o' (neC b o e hx) e1 (I.base.free b o e n hx)
 ·obtain ⟨o', e1⟩ := I.base.there b o e hx
  exact there b o' (neC b o e hx) e1
 ·obtain ⟨m1, e1⟩ := I.base.tbls b ps e
  obtain ⟨m2, e2⟩ := tbls b _ e1
  exact ⟨m1 ++ m2, by rw [e2, Array.append_assoc]⟩
 ·obtain ⟨m, hn, hl⟩ := I.loc
  refine ⟨m, ns m hn, fun i x v e1 e2 e3 => ?_⟩
  obtain ⟨u, r, l⟩ := hl i x v e1 e2 e3
  refine ⟨u, r, ?_⟩
  rcases l with l | ⟨k, c, e, z⟩
  ·exact .inl l
  ·exact .inr ⟨k, c, e, cellK x c e _ z⟩
 ·obtain ⟨v, z⟩ := I.cell x c e
  exact ⟨v, cellK x c e v z⟩
 ·obtain ⟨m, ⟨o, _, _, ho, _⟩, _⟩ := I.loc
  exact free _ o (fun z => (hch _ z).2.1 rfl) ho I.free
 ·obtain ⟨v, o, ho, hd⟩ := I.cell x c e
  exact free c o (fun z => (hch c z).2.2.1 x c e rfl) ho (I.freeC x c e)
 ·obtain ⟨e, n, ne, nf, d⟩ := I.pin p hp
  have nch : p.1 ∉ ch := fun z => (hch p.1 z).2.2.2 p hp rfl
  exact ⟨keep p.1 p.2 ne nf nch e n, free p.1 p.2 nch e n, ne, nf, d⟩
theorem Inv.un {t' : Nat} (I : Inv X pins σ H s) (u : Un X.fs [] H H' s.heap h') (hok : HOk X.prog X.w H' h') : Inv X pins σ H' { s with heap := h', toks := t' } := by
 obtain ⟨m, ⟨o, es, ep, ho, r⟩, _⟩ := id I.loc
 obtain ⟨sl, hL⟩ := u.any ho I.free (by simp)
 exact I.step (g' := s.gens) (d' := s.drawn) (ch := []) (fun _ z => nomatch z) (fun b o _ hb _ e n => u.keep b o e n hb (by simp)) (fun b o _ hb _ e n => u.slot b o e n hb (by simp)) (fun b o _ e n => u.free b o e n (by simp)) (fun b o _ e => u.there b o e (by simp)) u.tups u.frzs u.tbls (fun m' hm => by
  obtain ⟨o', es', ep', ho', r'⟩ := hm
  rw [ho] at ho'; cases ho'
  exact ⟨_, es', ep', hL, r'⟩) hok I.bare
theorem Inv.call {g' : Array GenState} {t' : Nat} {d' : Drawn} {ch : List Addr} (I : Inv X pins σ H s) (u : Un (frs X.stack) ch H H' s.heap h') (hok : HOk X.prog X.w H' h') (hg : AllBare g')
  (hch : ∀ b ∈ ch, (b ∈ X.ex ∨ X.s₀.heap.objs.size ≤ b) ∧ b ≠ X.env.locals ∧ (∀ x c, X.env.cells.lookup x = some c → c ≠ b) ∧ ∀ p ∈ X.pn ++ pins, p.1 ≠ b) :
  Inv X pins σ H' { s with heap := h', gens := g', drawn := d', toks := t' } := by
 obtain ⟨m, ⟨o, es, ep, ho, r⟩, _⟩ := id I.loc
 obtain ⟨sl, hL⟩ := u.any ho I.free fun z => (hch _ z).2.1 rfl
 exact I.step (ch := ch) hch (fun b o hL hb hc e n => u.keep b o e n (fun z => (List.mem_cons.mp (I.stkSub b z)).elim hL hb) hc) (fun b o _ _ hc e n => u.any e n hc) (fun b o hc e n => u.free b o e n hc) (fun b o hc e => u.there b o e hc) u.tups u.frzs u.tbls (fun m' hm => by
  obtain ⟨o', es', ep', ho', r'⟩ := hm
  rw [ho] at ho'; cases ho'
  exact ⟨_, es', ep', hL, r'⟩) hok hg
theorem Inv.turned {t' : Nat} {it : Addr} (I : Inv X pins σ H s) (k : ∀ b o, b ≠ it → s.heap.get? b = some o → h'.get? b = some o) (hn : H it = none) (hL : it ≠ X.env.locals)
  (h1 : it ∈ X.ex ∨ X.s₀.heap.objs.size ≤ it) (h2 : ∀ x c, X.env.cells.lookup x = some c → c ≠ it) (h3 : ∀ p ∈ X.pn ++ pins, p.1 ≠ it) : Inv X pins σ H { s with heap := h', toks := t' } := by
 have nit : ∀ b u, H b = some u → b ≠ it := fun b u e z => by rw [z, hn] at e; cases e
 refine I.step (g' := s.gens) (d' := s.drawn) (ch := [it]) (fun b hb => ?_) (fun b o _ _ hc e _ => k b o (fun z => hc (by simp [z])) e) (fun b o _ _ hc e _ => ⟨o.slots, k b o (fun z => hc (by simp [z])) e⟩) (fun _ _ _ _ n => n)
  (fun b o hc e => ⟨o, k b o (fun z => hc (by simp [z])) e⟩) (fun _ _ e => e) (fun _ _ _ e => e) (fun b ps e => ⟨#[], by rw [e]; simp⟩) (fun m hm => ?_) (fun b u e => ?_) I.bare
 ·have e : b = it := by simpa using hb
  subst e
  exact ⟨h1, hL, h2, h3⟩
 ·obtain ⟨o, es, ep, ho, r⟩ := hm
  exact ⟨o, es, ep, k _ o (Ne.symm hL) ho, r⟩
 ·refine (I.hok b u e).stay (fun c v hc q => k c v ?_ q) (fun _ q => q) fun _ _ q => q
  rcases hc with z | z
  ·rw [z]; exact nit b u e
  ·exact nit c _ z
theorem Inv.tok (I : Inv X pins σ H s) (t : Nat) : Inv X pins σ H { s with toks := t } := I.un (h' := s.heap) (t' := t) Un.refl I.hok
theorem Inv.kept {t' : Nat} (I : Inv X pins σ H s) (k : ∀ b u, s.heap.get? b = some u → h'.get? b = some u) : Inv X pins σ H { s with heap := h', toks := t' } := I.un (Un.kept k) (I.hok.kept k)
theorem Inv.laid {a : Addr} {o : HO} {t' : Nat} (I : Inv X pins σ H s) (k : ∀ b u, s.heap.get? b = some u → h'.get? b = some u) (hp : s.heap.objs.size ≤ a) (new : ObjOk X.prog X.w (upd H a o) h' a o) :
  Inv X pins σ (upd H a o) { s with heap := h', toks := t' } := I.un (Un.laid k hp (I.hok.fresh hp)) (I.hok.laid k hp new)
theorem Inv.write {x e : Addr} {o : HO} {t' : Nat} (I : Inv X pins σ H s) (mu : Mut (H x)) (he : e = x ∨ H e = some (.own x)) (k : ∀ b u, b ≠ e → s.heap.get? b = some u → h'.get? b = some u) (heo : ∃ u, h'.get? e = some u)
  (new : ObjOk X.prog X.w (upd H x o) h' x o) : Inv X pins σ (upd H x o) { s with heap := h', toks := t' } := I.un (Un.write mu he k heo) (I.hok.write mu he k heo new)
theorem Inv.pins_of {pins' : List (Addr × Obj)} (I : Inv X pins σ H s) (h : ∀ p ∈ pins', s.heap.get? p.1 = some p.2 ∧ H p.1 = none ∧ p.1 ≠ X.env.locals ∧ p.1 ∉ X.fs ∧ ∀ v, p.2.data ≠ .cell v) : Inv X pins' σ H s :=
 ⟨I.ok, I.os, I.bare, I.base, I.loc, I.cell, I.free, I.freeC, fun p hp => (List.mem_append.mp hp).elim (fun z => I.pin p (List.mem_append_left _ z)) (h p), I.hok, I.len⟩
theorem Zcx {N : List Str} (hN : N.Nodup) {i j : Nat} {x : Str} (a : N[i]? = some x) (b : N[j]? = some x) : i = j := by
 obtain ⟨h1, e1⟩ := List.getElem?_eq_some_iff.mp a
 obtain ⟨h2, e2⟩ := List.getElem?_eq_some_iff.mp b
 exact (List.getElem_inj hN).mp (e1.trans e2.symm)
theorem ZdA {M : Model} {A : Around} {E : Value → Shared → Prop} {i : Nat} {x : Str} {v : V} {u : Value} {Q : Unit → Shared → Prop} (I : Inv X pins σ H s) (hN : X.N.Nodup) (hi : X.N[i]? = some x) (hx : Loc X.env.scope x) (r : RelV v u)
  (h : ∀ s', Inv X pins (σ.set i (some v)) H s' → (∃ a, Heap.SameBut a s.heap s'.heap ∧ (a = X.env.locals ∨ X.env.cells.lookup x = some a)) → Q () s') (hf : X.fn x = true ∨ X.env.scope.names.lookup x = some .local := by first | exact .inl rfl | exact .inr rfl | assumption) : wpAny M A (storeName X.env x u) Q E s := by
 obtain ⟨m, hn, hl⟩ := id I.loc
 have hcls : (X.env.scope.kind == .class || (X.env.scope.kind == .module && X.env.locals != X.env.globals)) = false := by rw [I.ok.kind]; rfl
 have hiσ : i < σ.length := by rw [I.len]; exact (List.getElem?_eq_some_iff.mp hi).1
 have cne := I.cne
 have tracked : ∀ {a : Addr} {h' : Heap}, (∃ o, s.heap.get? a = some o ∧ H a = none) → Heap.SameBut a s.heap h' → HOk X.prog X.w H h' := fun {a h'} ha hs b ob e => by
  obtain ⟨_, _, hfree⟩ := ha
  refine (I.hok b ob e).stay (fun c w' hc q => (hs.2 c ?_).trans q) (fun _ q => q) fun _ _ q => q
  rintro rfl
  rcases hc with rfl | hc
  ·rw [hfree] at e; cases e
  ·rw [hfree] at hc; cases hc
 rcases hx with hk | hk
 ·refine wpAny_storeName_local hk hn (fun h' hn' hs => ?_) hcls
  obtain ⟨oL, _, _, hoL, _⟩ := id hn
  refine h _ ⟨I.ok, I.os, I.bare, ⟨fun b o e n hb hx => ?_, fun b o e n hb hx => ?_, I.base.free, fun b o e hx => ?_, I.base.tups, I.base.frzs, I.base.tbls⟩, ⟨_, hn', fun j y v' e1 e2 e3 => ?_⟩, fun y c e => ?_, I.free, I.freeC, fun p hp => ?_, tracked ⟨oL, hoL, I.free⟩ hs, by simpa using I.len⟩ ⟨_, hs, .inl rfl⟩
  ·exact (hs.2 b (Nat.ne_of_lt (Nat.lt_of_lt_of_le (Heap.lt_size e) I.ok.above))).trans (I.base.keep b o e n hb hx)
  ·obtain ⟨sl, e1⟩ := I.base.slot b o e n hb hx
   exact ⟨sl, (hs.2 b (Nat.ne_of_lt (Nat.lt_of_lt_of_le (Heap.lt_size e) I.ok.above))).trans e1⟩
  ·obtain ⟨o', e1⟩ := I.base.there b o e hx
   exact ⟨o', (hs.2 b (Nat.ne_of_lt (Nat.lt_of_lt_of_le (Heap.lt_size e) I.ok.above))).trans e1⟩
  ·by_cases hj : j = i
   ·subst hj
    rw [hi] at e1; cases e1
    rw [List.getElem?_set_self hiσ] at e2
    cases e2
    exact ⟨u, r, .inl ⟨hk, by simp⟩⟩
   ·rw [List.getElem?_set_ne (Ne.symm hj)] at e2
    obtain ⟨u', r', q⟩ := hl j y v' e1 e2 e3
    refine ⟨u', r', ?_⟩
    rcases q with ⟨k, e⟩ | ⟨k, c, e, z⟩
    ·refine .inl ⟨k, ?_⟩
     have : y ≠ x := fun e => hj (Zcx hN e1 (e ▸ hi))
     simp [this, e]
    ·exact .inr ⟨k, c, e, z.sameBut hs (cne y c e)⟩
  ·obtain ⟨w', z⟩ := I.cell y c e
   exact ⟨w', z.sameBut hs (cne y c e)⟩
  ·obtain ⟨e, n, ne, nf, d⟩ := I.pin p hp
   exact ⟨(hs.2 p.1 ne).trans e, n, ne, nf, d⟩
 ·have hfn : X.fn x = true := by
   rcases hf with z | z
   ·exact z
   ·rw [z] at hk; cases hk
  obtain ⟨c, hc⟩ := I.ok.has x (.inl hk)
  obtain ⟨w', z⟩ := I.cell x c hc
  refine wpAny_storeName_cell I.ok.kind hk hc z (fun h' hc' hs => ?_)
  obtain ⟨oc, hoc, hocd⟩ := id z
  refine h { s with heap := h' } ⟨I.ok, I.os, I.bare, ⟨fun b o e n hb hx => ?_, fun b o e n hb hx => ?_, I.base.free, fun b o e hx => ?_, I.base.tups, I.base.frzs, I.base.tbls⟩, ⟨m, hn.sameBut hs (Ne.symm (cne x c hc)), fun j y v' e1 e2 e3 => ?_⟩, fun y c' e => ?_, I.free, I.freeC, fun p hp => ?_, tracked ⟨oc, hoc, I.freeC x c hc⟩ hs, by simpa using I.len⟩ ⟨c, hs, .inr hc⟩
  ·exact (hs.2 b (Nat.ne_of_lt (Nat.lt_of_lt_of_le (Heap.lt_size e) (I.ok.cab x c hfn hc)))).trans (I.base.keep b o e n hb hx)
  ·obtain ⟨sl, e1⟩ := I.base.slot b o e n hb hx
   exact ⟨sl, (hs.2 b (Nat.ne_of_lt (Nat.lt_of_lt_of_le (Heap.lt_size e) (I.ok.cab x c hfn hc)))).trans e1⟩
  ·obtain ⟨o', e1⟩ := I.base.there b o e hx
   exact ⟨o', (hs.2 b (Nat.ne_of_lt (Nat.lt_of_lt_of_le (Heap.lt_size e) (I.ok.cab x c hfn hc)))).trans e1⟩
  ·by_cases hj : j = i
   ·subst hj
    rw [hi] at e1; cases e1
    rw [List.getElem?_set_self hiσ] at e2
    cases e2
    exact ⟨u, r, .inr ⟨.inl hk, c, hc, hc'⟩⟩
   ·rw [List.getElem?_set_ne (Ne.symm hj)] at e2
    obtain ⟨u', r', q⟩ := hl j y v' e1 e2 e3
    refine ⟨u', r', ?_⟩
    rcases q with q | ⟨k, c', e, z'⟩
    ·exact .inl q
    ·refine .inr ⟨k, c', e, z'.sameBut hs ?_⟩
     rintro rfl
     exact hj (Zcx hN e1 (I.ok.inj _ _ _ e hc ▸ hi))
  ·by_cases hcc : c' = c
   ·subst hcc; exact ⟨_, hc'⟩
   ·obtain ⟨w2, z2⟩ := I.cell y c' e
    exact ⟨w2, z2.sameBut hs hcc⟩
  ·obtain ⟨e, n, ne, nf, d⟩ := I.pin p hp
   refine ⟨(hs.2 p.1 ?_).trans e, n, ne, nf, d⟩
   intro q
   rw [q, hoc] at e
   have q' : oc = p.2 := Option.some.inj e
   exact d w' (by rw [← q']; exact hocd)
theorem Zck {M : Model} {A : Around} {E : Value → Shared → Prop} {i : Nat} {x : Str} {v : V} {u : Value} {Q : Unit → Shared → Prop} (I : Inv X pins σ H s) (hN : X.N.Nodup) (hi : X.N[i]? = some x) (hx : Loc X.env.scope x) (r : RelV v u)
  (h : ∀ s', Inv X pins (σ.set i (some v)) H s' → Q () s') (hf : X.fn x = true ∨ X.env.scope.names.lookup x = some .local := by first | exact .inl rfl | exact .inr rfl | assumption) : wpAny M A (storeName X.env x u) Q E s :=
 ZdA I hN hi hx r (fun s' I' _ => h s' I') hf
theorem Inv.call' {s' : Shared} {ch : List Addr} (I : Inv X pins σ H s) (ho : s'.os = s.os) (u : Un (frs X.stack) ch H H' s.heap s'.heap) (hok : HOk X.prog X.w H' s'.heap) (hg : AllBare s'.gens)
  (hch : ∀ b ∈ ch, (b ∈ X.ex ∨ X.s₀.heap.objs.size ≤ b) ∧ b ≠ X.env.locals ∧ (∀ x c, X.env.cells.lookup x = some c → c ≠ b) ∧ ∀ p ∈ X.pn ++ pins, p.1 ≠ b) : Inv X pins σ H' s' := by
 obtain ⟨h', g', d', t', o'⟩ := s'
 have e : o' = s.os := ho
 subst e
 exact I.call (g' := g') (t' := t') (d' := d') u hok hg hch
end
abbrev XK := Value → Option Addr → Hp → Prop
abbrev St := List (Option V)
abbrev VK := V → Hp → Prop
abbrev TE := St → Hp → VK → Prop
abbrev TT := St → Hp → (Bool → Hp → Prop) → Prop
abbrev TA := St → Hp → (List V → Hp → Prop) → Prop
structure Zfi where
 nx : St → Hp → Prop
 rt : VK
 bk : St → Hp → Prop := fun _ _ => False
 ct : St → Hp → Prop := fun _ _ => False
abbrev TS := Zfi → St → Hp → Prop
def EP (X : Cx) (pins : List (Addr × Obj)) (σ : St) (Q : VK) (u : Value) (s' : Shared) : Prop := ∃ v H', Inv X pins σ H' s' ∧ RelV v u ∧ Q v H'
def TP (X : Cx) (pins : List (Addr × Obj)) (σ : St) (Q : Bool → Hp → Prop) (b : Bool) (s' : Shared) : Prop := ∃ H', Inv X pins σ H' s' ∧ Q b H'
def AP (X : Cx) (pins : List (Addr × Obj)) (σ : St) (Q : List V → Hp → Prop) (us : List Value) (s' : Shared) : Prop := ∃ vs H', Inv X pins σ H' s' ∧ Vals vs us ∧ Q vs H'
def SP (X : Cx) (pins : List (Addr × Obj)) (D : Zfi) (f : Flow) (s' : Shared) : Prop :=
 match f with
 | .next => ∃ σ' H', Inv X pins σ' H' s' ∧ D.nx σ' H'
 | .brk => ∃ σ' H', Inv X pins σ' H' s' ∧ D.bk σ' H'
 | .cont => ∃ σ' H', Inv X pins σ' H' s' ∧ D.ct σ' H'
 | .ret u => ∃ v σ' H', Inv X pins σ' H' s' ∧ RelV v u ∧ D.rt v H'
def PE (X : Cx) (e : Expr) (t : TE) : Prop :=
 ∀ (pins : List (Addr × Obj)) (s : Shared) (σ : St) (H : Hp) (Q : VK), Inv X pins σ H s → t σ H Q → wpAny (model X.prog X.w) X.A (eval e X.env) (EP X pins σ Q) X.xe s
def PT (X : Cx) (e : Expr) (t : TT) : Prop :=
 ∀ (pins : List (Addr × Obj)) (s : Shared) (σ : St) (H : Hp) (Q : Bool → Hp → Prop), Inv X pins σ H s → t σ H Q → wpAny (model X.prog X.w) X.A (isTrue e X.env (eval e X.env)) (TP X pins σ Q) X.xe s
def PW (X : Cx) (e : Expr) (t : TT) : Prop :=
 ∀ (whole : Sem Value) (pins : List (Addr × Obj)) (s : Shared) (σ : St) (H : Hp) (Q : Bool → Hp → Prop), Inv X pins σ H s → t σ H Q → wpAny (model X.prog X.w) X.A (isTrue e X.env whole) (TP X pins σ Q) X.xe s
theorem PW.pt {X : Cx} {e : Expr} {t : TT} (h : PW X e t) : PT X e t := h _
def PA (X : Cx) (es : List Expr) (t : TA) : Prop :=
 ∀ (pos : Pos) (pins : List (Addr × Obj)) (s : Shared) (σ : St) (H : Hp) (Q : List V → Hp → Prop), Inv X pins σ H s → t σ H Q → wpAny (model X.prog X.w) X.A (spliced (backTo pos (starEach es X.env))) (AP X pins σ Q) X.xe s
def PS (X : Cx) (st : Stmt) (t : TS) : Prop :=
 ∀ (pins : List (Addr × Obj)) (s : Shared) (σ : St) (H : Hp) (D : Zfi), Inv X pins σ H s → t D σ H → wpAny (model X.prog X.w) X.A (exec st X.env) (SP X pins D) X.xe s
def PSs (X : Cx) (st : List Stmt) (t : TS) : Prop :=
 ∀ (pins : List (Addr × Obj)) (s : Shared) (σ : St) (H : Hp) (D : Zfi), Inv X pins σ H s → t D σ H → wpAny (model X.prog X.w) X.A (execs st X.env) (SP X pins D) X.xe s
theorem thn {α : Type} {t : Sem α} {Q Q' : α → Shared → Prop} {M : Model} {A : Around} {E : Value → Shared → Prop} {s : Shared} (h : wpAny M A t Q E s) (hQ : ∀ a s, Q a s → Q' a s) : wpAny M A t Q' E s := wpAny_mono h hQ fun _ _ x => x
section
variable {X : Cx}
theorem bin {a b : Expr} {ta tb : TE} (ha : PE X a ta) (hb : PE X b tb) {pins : List (Addr × Obj)} {s : Shared} {σ : St} {H : Hp} {R : V → V → Hp → Prop} (I : Inv X pins σ H s) (h : ta σ H fun x H1 => tb σ H1 fun y H2 => R x y H2)
  {α : Type} {Q : α → Shared → Prop} {f : Value → Value → Sem α}
  (hf : ∀ v u s2 x y H2, Inv X pins σ H2 s2 → RelV x v → RelV y u → R x y H2 → wpAny (model X.prog X.w) X.A (f v u) Q X.xe s2) :
  wpAny (model X.prog X.w) X.A (eval a X.env) (fun v s₁ => wpAny (model X.prog X.w) X.A (eval b X.env) (fun u s₂ => wpAny (model X.prog X.w) X.A (f v u) Q X.xe s₂) X.xe s₁) X.xe s := by
 refine thn (ha pins s σ H _ I h) fun v s1 ⟨x, H1, I1, r1, q1⟩ => ?_
 refine thn (hb pins s1 σ H1 _ I1 q1) fun u s2 ⟨y, H2, I2, r2, q2⟩ => ?_
 exact hf v u s2 x y H2 I2 r1 r2 q2
def ZjG (i : Nat) : TE := fun σ H Q => ∃ v, σ[i]? = some (some v) ∧ Q v H
def tC (v : V) : TE := fun _ H Q => Q v H
theorem Ziz {i : Nat} {x : Str} {pos : Pos} (hN : X.N[i]? = some x) (hv : Vis X.env.scope x) (hd : (x == ("__debug__" : Str)) = false := by decide) (hcd : (x == ("__classdict__" : Str)) = false := by decide) : PE X (.Name x pos) (ZjG i) := by
 intro pins s σ H Q I h
 obtain ⟨v, e, h⟩ := h
 obtain ⟨m, hn, hl⟩ := I.loc
 obtain ⟨u, r, l⟩ := hl i x v hN e hv
 have fin : EP X pins σ Q u s := ⟨v, H, I, r, h⟩
 rcases l with ⟨hk, hm⟩ | ⟨hk, c, hc, hcell⟩
 ·exact wpAny_Name (wpAny_loadName_local I.ok.kind hk hn hm fin) hd
 ·rcases hk with hk | hk
  ·exact wpAny_Name (wpAny_loadName_cell I.ok.kind hk hc hcell fin) hd
  ·exact wpAny_Name (wpAny_loadName_free I.ok.kind hk hc hcell fin hcd) hd
theorem Ze {i j pos} : PE X (.Constant (.int i) j pos) (tC (.int i)) := fun _ _ _ H _ I h => wpAny_Constant_int ⟨.int i, H, I.tok _, ⟨_, rfl⟩, h⟩
theorem Xk {b j pos} : PE X (.Constant (.bool b) j pos) (tC (.bl b)) := fun _ _ _ H _ I h => Constant_bool ⟨.bl b, H, I, rfl, h⟩
theorem Zef {j pos} : PE X (.Constant .none j pos) (tC .non) := fun _ _ _ H _ I h => Constant_none ⟨.non, H, I, rfl, h⟩
theorem YO {x j pos} : PE X (.Constant (.str x) j pos) (tC (.str x)) := fun _ _ _ H _ I h => Calls.Constant_str ⟨.str x, H, I.tok _, ⟨_, rfl⟩, h⟩
def Gl (X : Cx) (x : Str) : Prop := X.env.kindOf x = some .globalImplicit
theorem ZhM {E : Value → Shared → Prop} {pins : List (Addr × Obj)} {s : Shared} {σ : St} {H : Hp} {x : Str} {u : Value} {pos : Pos} {Q : Value → Shared → Prop} (I : Inv X pins σ H s) (hg : Gl X x) (hm : X.mg x = some u) (h : Q u s)
  (hd : (x == ("__debug__" : Str)) = false := by decide) : wpAny (model X.prog X.w) X.A (eval (.Name x pos) X.env) Q E s :=
 Calls.Name_function_global I.ok.kind hg (Calls.loadGlobal_global (by rw [I.ok.glob]; exact I.mod.glob.keeps I.bk) hm h) hd
theorem Y8 {E : Value → Shared → Prop} {pins : List (Addr × Obj)} {s : Shared} {σ : St} {H : Hp} {x : Str} {u : Value} {pos : Pos} {Q : Value → Shared → Prop} (I : Inv X pins σ H s) (hg : Gl X x) (hm : X.mg x = none) (hv : bootBuiltins x = some u) (h : Q u s)
  (hn : x ≠ "__name__" := by decide) (hd : (x == ("__debug__" : Str)) = false := by decide) : wpAny (model X.prog X.w) X.A (eval (.Name x pos) X.env) Q E s := by
 obtain ⟨mb, h1, h2⟩ := I.mod.blt
 exact Calls.Name_function_global I.ok.kind hg (Calls.loadGlobal_builtin (by rw [I.ok.glob]; exact I.mod.glob.keeps I.bk) hm (by rw [I.ok.blt]; exact h1.keeps I.bk) ((h2 x hn).trans hv) h) hd
theorem Zhv {x : Str} {v : V} {u : Value} {pos : Pos} (hg : Gl X x) (hm : X.mg x = none) (hv : bootBuiltins x = some u) (r : RelV v u) (hn : x ≠ "__name__" := by decide) (hd : (x == ("__debug__" : Str)) = false := by decide) : PE X (.Name x pos) (tC v) :=
 fun _ _ _ H _ I h => Y8 I hg hm hv ⟨v, H, I, r, h⟩ hn hd
variable {a b : Expr} {ta tb : TE} {pos : Pos}
def PC (X : Cx) (op : CmpOp) (a b : Expr) (t : TE) : Prop :=
 ∀ (pins : List (Addr × Obj)) (s : Shared) (σ : St) (H : Hp) (Q : VK), Inv X pins σ H s → t σ H Q →
  wpAny (model X.prog X.w) X.A (eval a X.env) (fun v s₁ => wpAny (model X.prog X.w) X.A (eval b X.env) (fun u s₂ => wpAny (model X.prog X.w) X.A (compareOp op v u) (EP X pins σ Q) X.xe s₂) X.xe s₁) X.xe s
def tB (t : TE) : TT := fun σ H Q => t σ H fun x H1 => ∃ c, x = .bl c ∧ Q c H1
theorem Zd8 {op : CmpOp} {t : TE} (h : PC X op a b t) (h1 : behindInMarks op b = false := by first | exact nobehind _ (by decide) (by decide) | rfl) : PT X (.Compare a [op] [b] pos) (tB t) := by
 intro pins s σ H Q I hw
 refine wpAny_isTrue_Compare1 (thn (h pins s σ H _ I hw) fun v s1 h1 => thn h1 fun u s2 h2 => thn h2 fun c s3 ⟨x, H1, I1, r1, q1⟩ => ?_) h1
 obtain ⟨d, rfl, q⟩ := q1
 cases r1
 exact wpAny_truthy_bool ⟨H1, I1, q⟩
theorem YM {e : Expr} {t : TE} (h : PE X e t) (he : ∀ whole, isTrue e X.env whole = (do let v ← whole; standAt e.pos; holding [v] (truthy v)) := by intro _; rfl) : PT X e (tB t) := by
 intro pins s σ H Q I hw
 refine isTrue_plain (thn (h pins s σ H _ I hw) fun v s1 ⟨x, H1, I1, r1, q1⟩ => ?_) (he _)
 obtain ⟨d, rfl, q⟩ := q1
 cases r1
 exact wpAny_truthy_bool ⟨H1, I1, q⟩
variable {tA tB' : TT} {rest : List Expr}
def ZkL (t u : TT) : TT := fun σ H Q => t σ H fun c H1 => if c = true then u σ H1 Q else Q false H1
def tOr (t u : TT) : TT := fun σ H Q => t σ H fun c H1 => if c = true then Q true H1 else u σ H1 Q
def ZkC (t : TT) : TT := fun σ H Q => t σ H fun c H1 => Q (!c) H1
theorem Zar (ha : PT X a tA) : PW X (.BoolOp .And [a] pos) tA := by
 intro wh pins s σ H Q I h
 refine isTrue_and (thn (ha pins s σ H Q I h) fun c s1 e => ?_)
 cases c with
 | true => exact isTrue_and_nil e
 | false => exact e
theorem Za5 (ha : PT X a tA) : PW X (.BoolOp .Or [a] pos) tA := by
 intro wh pins s σ H Q I h
 refine isTrue_or (thn (ha pins s σ H Q I h) fun c s1 e => ?_)
 cases c with
 | false => exact isTrue_or_nil e
 | true => exact e
theorem Zcr (ha : PT X a tA) (hb : PW X (.BoolOp .And (b :: rest) pos) tB') : PW X (.BoolOp .And (a :: b :: rest) pos) (ZkL tA tB') := by
 intro wh pins s σ H Q I h
 refine isTrue_and (thn (ha pins s σ H _ I h) fun c s1 ⟨H1, I1, q1⟩ => ?_)
 cases c with
 | true => exact hb wh pins s1 σ H1 Q I1 q1
 | false => exact ⟨H1, I1, q1⟩
theorem Zc3 (ha : PT X a tA) (hb : PW X (.BoolOp .Or (b :: rest) pos) tB') : PW X (.BoolOp .Or (a :: b :: rest) pos) (tOr tA tB') := by
 intro wh pins s σ H Q I h
 refine isTrue_or (thn (ha pins s σ H _ I h) fun c s1 ⟨H1, I1, q1⟩ => ?_)
 cases c with
 | true => exact ⟨H1, I1, q1⟩
 | false => exact hb wh pins s1 σ H1 Q I1 q1
theorem Ja (ha : PT X a tA) : PT X (.UnaryOp .Not a pos) (ZkC tA) := by
 intro pins s σ H Q I h
 exact isTrue_not (ha pins s σ H (fun c H1 => Q (!c) H1) I h)
def ZjP (ta tb : TE) : TE := fun σ H Q => ta σ H fun x H1 => ∃ c, x = .bl c ∧ if c = true then tb σ H1 Q else Q (.bl false) H1
def ZjJ (ta : TE) : TE := fun σ H Q => ta σ H fun x H1 => ∃ c, x = .bl c ∧ Q (.bl (!c)) H1
theorem JP {op} {t : TE} (h : PE X a t) : PE X (.BoolOp op [a] pos) t := fun pins s σ H Q I hw => BoolOp_one (h pins s σ H Q I hw)
theorem Jd (ha : PE X a ta) (hb : PE X (.BoolOp .And (b :: rest) pos) tb) : PE X (.BoolOp .And (a :: b :: rest) pos) (ZjP ta tb) := by
 intro pins s σ H Q I h
 refine BoolOp_and (thn (ha pins s σ H _ I h) fun v s1 ⟨x, H1, I1, r1, q1⟩ => ?_)
 obtain ⟨c, rfl, q1⟩ := q1
 cases r1
 refine wpAny_truthy_bool ?_
 cases c with
 | true => exact hb pins s1 σ H1 Q I1 q1
 | false => exact ⟨.bl false, H1, I1, rfl, q1⟩
theorem ZiB (ha : PE X a ta) : PE X (.UnaryOp .Not a pos) (ZjJ ta) := by
 intro pins s σ H Q I h
 refine UnaryOp_ (thn (ha pins s σ H _ I h) fun v s1 ⟨x, H1, I1, r1, q1⟩ => ?_)
 obtain ⟨c, rfl, q1⟩ := q1
 cases r1
 exact not_of (wpAny_truthy_bool ⟨.bl (!c), H1, I1, rfl, q1⟩)
end
def SqL (K : PySem.W.Frag) (H : Hp) (a : Addr) (xs : List V) : Prop :=
 Rd H a (.lst xs) ∨
  ∃ (o : Obj) (its : Array Value) (n : Nat), K.lookup a = some o ∧ o.cls = .type "list" ∧ o.dict = none ∧ o.data = .seq its n ∧ its.size ≤ sizeLine ∧ Vals xs its.toList
def SqT (K : PySem.W.Frag) (H : Hp) (a : Addr) (xs : List V) : Prop :=
 Rd H a (.tup xs) ∨
  ∃ (o : Obj) (its : Array Value) (n : Nat), K.lookup a = some o ∧ o.cls = .type "tuple" ∧ o.data = .seq its n ∧ its.size ≤ sizeLine ∧ Vals xs its.toList
def ZkZ : Value → Option V
 | .none => some .non
 | .bool b => some (.bl b)
 | .int i _ => some (.int i)
 | .str x _ => some (.str x)
 | .bytes b _ => some (.byt b)
 | .float b _ => some (.flt b)
 | .ref a => some (.ref a)
 | .type n => some (.ty n)
 | _ => none
theorem RelV.abs {x : V} {u : Value} (r : RelV x u) : ZkZ u = some x := by
 cases x with
 | non => cases r; rfl
 | bl _ => cases r; rfl
 | int _ => obtain ⟨t, rfl⟩ := r; rfl
 | str _ => obtain ⟨t, rfl⟩ := r; rfl
 | byt _ => obtain ⟨t, rfl⟩ := r; rfl
 | flt _ => obtain ⟨t, rfl⟩ := r; rfl
 | ref _ => cases r; rfl
 | ty _ => cases r; rfl
theorem RelV.inj {x y : V} {u : Value} (r : RelV x u) (q : RelV y u) : x = y := Option.some.inj (r.abs.symm.trans q.abs)
theorem Vals.inj : ∀ {xs ys : List V} {us : List Value}, Vals xs us → Vals ys us → xs = ys
 | _, _, _, .nil, .nil => rfl
 | _, _, _, .cons r t, .cons r' t' => by rw [r.inj r', Vals.inj t t']
section
variable {X : Cx} {pins : List (Addr × Obj)} {σ : St} {H : Hp} {s : Shared} {a : Addr} {xs ys : List V}
theorem SqL.of {K : PySem.W.Frag} (h : H a = some (.lst xs)) : SqL K H a xs := .inl (.inl h)
theorem SqT.of {K : PySem.W.Frag} (h : H a = some (.tup xs)) : SqT K H a xs := .inl (.inl h)
theorem Inv.list (I : Inv X pins σ H s) (h : SqL X.K H a xs) : ∃ its : List Value, Vals xs its ∧ PlainL s.heap a its.toArray ∧ xs.length ≤ sizeLine := by
 rcases h with h | ⟨o, its, n, hk, hc, hd, hs, hz, r⟩
 ·obtain ⟨z, its, n, r, e⟩ := h.ok I.hok
  exact ⟨its, r, ⟨_, n, e, rfl, rfl, rfl⟩, z⟩
 ·refine ⟨its.toList, r, ⟨o, n, I.kIn a o hk, hc, hd, by simpa using hs⟩, ?_⟩
  have e := r.length
  simp only [Array.length_toList] at e
  omega
theorem Inv.tuple (I : Inv X pins σ H s) (h : SqT X.K H a xs) : ∃ its : List Value, Vals xs its ∧ IsTup s.heap a its.toArray ∧ xs.length ≤ sizeLine := by
 rcases h with h | ⟨o, its, n, hk, hc, hs, hz, r⟩
 ·obtain ⟨z, its, r, p, _⟩ := h.ok I.hok
  exact ⟨its, r, p, z⟩
 ·refine ⟨its.toList, r, ⟨o, I.kIn a o hk, hc, n, by simpa using hs⟩, ?_⟩
  have e := r.length
  simp only [Array.length_toList] at e
  omega
theorem Inv.list_inj (I : Inv X pins σ H s) (h : SqL X.K H a xs) (h' : SqL X.K H a ys) : xs = ys := by
 obtain ⟨its, r, ⟨o, n, e, _, _, d⟩, _⟩ := I.list h
 obtain ⟨its', r', ⟨o', n', e', _, _, d'⟩, _⟩ := I.list h'
 rw [e] at e'; cases e'
 rw [d] at d'
 injection d' with d1 _
 have : its = its' := by simpa using congrArg Array.toList d1
 subst this
 exact r.inj r'
theorem Inv.tuple_inj (I : Inv X pins σ H s) (h : SqT X.K H a xs) (h' : SqT X.K H a ys) : xs = ys := by
 obtain ⟨its, r, ⟨o, e, _, n, d⟩, _⟩ := I.tuple h
 obtain ⟨its', r', ⟨o', e', _, n', d'⟩, _⟩ := I.tuple h'
 rw [e] at e'; cases e'
 rw [d] at d'
 injection d' with d1 _
 have : its = its' := by simpa using congrArg Array.toList d1
 subst this
 exact r.inj r'
end
abbrev Cx.wish (X : Cx) (E : Value → Shared → Prop) : Cx := { X with xe := E }
abbrev Cx.nox (X : Cx) : Cx := X.wish fun _ _ => False
theorem Cx.Ok.wish {X : Cx} (ok : X.Ok) (E : Value → Shared → Prop) : (X.wish E).Ok :=
 ⟨ok.mod, ok.kind, ok.glob, ok.blt, ok.above, ok.inj, ok.has, ok.cab, ok.hd, ok.frames, ok.stk, ok.exf, ok.bs, ok.bsz, ok.noex, ok.exfs, ok.funs, ok.frf⟩
theorem Cx.Ok.unwish {X : Cx} {E : Value → Shared → Prop} (ok : (X.wish E).Ok) : X.Ok :=
 ⟨ok.mod, ok.kind, ok.glob, ok.blt, ok.above, ok.inj, ok.has, ok.cab, ok.hd, ok.frames, ok.stk, ok.exf, ok.bs, ok.bsz, ok.noex, ok.exfs, ok.funs, ok.frf⟩
section
variable {X : Cx} {pins : List (Addr × Obj)} {σ : St} {H : Hp} {s : Shared} {E : Value → Shared → Prop}
theorem Inv.wish (I : Inv X pins σ H s) (E : Value → Shared → Prop) : Inv (X.wish E) pins σ H s := ⟨I.ok.wish E, I.os, I.bare, I.base, I.loc, I.cell, I.free, I.freeC, I.pin, I.hok, I.len⟩
theorem Inv.unwish (I : Inv (X.wish E) pins σ H s) : Inv X pins σ H s := ⟨I.ok.unwish, I.os, I.bare, I.base, I.loc, I.cell, I.free, I.freeC, I.pin, I.hok, I.len⟩
theorem SP.unwish {D : Zfi} {f : Flow} {s' : Shared} (h : SP (X.wish E) pins D f s') : SP X pins D f s' := by
 cases f with
 | next => obtain ⟨σ', H', I, q⟩ := h; exact ⟨σ', H', I.unwish, q⟩
 | brk => obtain ⟨σ', H', I, q⟩ := h; exact ⟨σ', H', I.unwish, q⟩
 | cont => obtain ⟨σ', H', I, q⟩ := h; exact ⟨σ', H', I.unwish, q⟩
 | ret u => obtain ⟨v, σ', H', I, r, q⟩ := h; exact ⟨v, σ', H', I.unwish, r, q⟩
theorem PSs.nox {st : List Stmt} {t : TS} (h : PSs X.nox st t) : PSs X st t := fun pins s σ H D I hw =>
 wpAny_mono (h pins s σ H D (I.wish _) hw) (fun _ _ q => q.unwish) fun _ _ z => False.elim z
end
section
variable {X : Cx} {st : Stmt} {rest : List Stmt} {t u : TS} {e : Expr} {te : TE} {pos : Pos}
def Zif : TS := fun D σ H => D.nx σ H
def Zhb (t u : TS) : TS := fun D σ H => t { D with nx := u D } σ H
theorem Zy : PSs X [] Zif := fun _ _ σ H _ I h => wpAny_execs_nil ⟨σ, H, I, h⟩
theorem Zc (h1 : PS X st t) (h2 : PSs X rest u) : PSs X (st :: rest) (Zhb t u) := by
 intro pins s σ H D I h
 refine wpAny_execs_cons (thn (h1 pins s σ H { D with nx := u D } I h) fun f s1 q => ?_)
 cases f with
 | next =>
  obtain ⟨σ', H', I', q⟩ := q
  exact h2 pins s1 σ' H' D I' q
 | ret v => exact q
 | brk => exact q
 | cont => exact q
theorem Zh (h1 : PS X st t) : PSs X [st] t := by
 intro pins s σ H D I h
 refine wpAny_execs_cons (thn (h1 pins s σ H D I h) fun f s1 q => ?_)
 cases f with
 | next => exact wpAny_execs_nil q
 | ret v => exact q
 | brk => exact q
 | cont => exact q
theorem Inv.quiet {pins : List (Addr × Obj)} {σ : St} {H : Hp} {s : Shared} (I : Inv X pins σ H s) : interactive X.env = false := by simp [interactive, I.ok.kind]
def ZjK (te : TE) : TS := fun D σ H => te σ H fun _ H1 => D.nx σ H1
theorem YA (he : PE X e te) (hs : swapsWith e none pos.line X.env = pure false := by rfl) : PS X (.Expr e pos) (ZjK te) := by
 intro pins s σ H D I h
 exact wpAny_Expr_any (thn (he pins s σ H _ I h) fun v s1 ⟨x, H1, I1, r1, q1⟩ => ⟨σ, H1, I1, q1⟩) I.quiet hs
def ZkB (te : TE) : TS := fun D σ H => te σ H D.rt
theorem Zq (he : PE X e te) : PS X (.Return (some e) pos) (ZkB te) := by
 intro pins s σ H D I h
 exact wpAny_Return_some (thn (he pins s σ H _ I h) fun v s1 ⟨x, H1, I1, r1, q1⟩ => ⟨x, σ, H1, I1, r1, q1⟩)
def ZkG (c : TT) (t u : TS) : TS := fun D σ H => c σ H fun b H1 => if b = true then t D σ H1 else u D σ H1
theorem Z2 {c : Expr} {a b : List Stmt} {tc : TT} (hc : PT X c tc) (ha : PSs X a t) (hb : PSs X b u) : PS X (.If c a b pos) (ZkG tc t u) := by
 intro pins s σ H D I h
 refine wpAny_If (thn (hc pins s σ H _ I h) fun d s1 ⟨H1, I1, q1⟩ => ?_)
 cases d with
 | true => exact ha pins s1 σ H1 D I1 q1
 | false => exact hb pins s1 σ H1 D I1 q1
end
abbrev TG := V → St → Hp → (St → Hp → Prop) → Prop
abbrev TGs := List V → St → Hp → (St → Hp → Prop) → Prop
def PG (X : Cx) (target : Expr) (t : TG) : Prop :=
 ∀ (pins : List (Addr × Obj)) (s : Shared) (σ : St) (H : Hp) (v : V) (u : Value) (Q : St → Hp → Prop), Inv X pins σ H s → RelV v u → t v σ H Q →
  wpAny (model X.prog X.w) X.A (assign target X.env u) (fun _ s' => ∃ σ' H', Inv X pins σ' H' s' ∧ Q σ' H') X.xe s
def PGs (X : Cx) (ts : List Expr) (t : TGs) : Prop :=
 ∀ (pins : List (Addr × Obj)) (s : Shared) (σ : St) (H : Hp) (vs : List V) (us : List Value) (Q : St → Hp → Prop), Inv X pins σ H s → Vals vs us → t vs σ H Q →
  wpAny (model X.prog X.w) X.A (assignInOrder ((assignEach ts X.env).map (·.2)) us) (fun _ s' => ∃ σ' H', Inv X pins σ' H' s' ∧ Q σ' H') X.xe s
abbrev Zkj := V → V → V → Hp → (Hp → Prop) → Prop
def Zkx (X : Cx) (t : Zkj) : Prop :=
 ∀ (pins : List (Addr × Obj)) (s : Shared) (σ : St) (H : Hp) (o i v : V) (ov iv u : Value) (Q : Hp → Prop), Inv X pins σ H s → RelV o ov → RelV i iv → RelV v u → t o i v H Q →
  wpAny (model X.prog X.w) X.A (setItem ov iv u) (fun _ s' => ∃ H', Inv X pins σ H' s' ∧ Q H') X.xe s
section
variable {X : Cx} {pos : Pos}
def JH (i : Nat) : TG := fun v σ H Q => Q (σ.set i (some v)) H
theorem ZL {i : Nat} {x : Str} (hN : X.N.Nodup) (hi : X.N[i]? = some x) (hx : Loc X.env.scope x) (hf : X.fn x = true ∨ X.env.scope.names.lookup x = some .local := by first | exact .inl rfl | exact .inr rfl | assumption) : PG X (.Name x pos) (JH i) := by
 intro pins s σ H v u Q I r h
 exact wpAny_assign_Name (Zck I hN hi hx r (fun s' I' => ⟨_, H, I', h⟩) hf)
def Zkw : TGs := fun vs σ H Q => vs = [] ∧ Q σ H
def ZhZ (t : TG) (u : TGs) : TGs := fun vs σ H Q => ∃ v r, vs = v :: r ∧ t v σ H fun σ' H' => u r σ' H' Q
theorem Yd : PGs X [] Zkw := by
 intro pins s σ H vs us Q I r h
 obtain ⟨e, h⟩ := h
 subst e
 cases r
 exact assignInOrder_nil ⟨σ, H, I, h⟩
theorem Zw {e : Expr} {es : List Expr} {t : TG} {u : TGs} (h1 : PG X e t) (h2 : PGs X es u)
  (hs : (assignEach (e :: es) X.env).map (·.2) = assign e X.env :: (assignEach es X.env).map (·.2) := by rfl) : PGs X (e :: es) (ZhZ t u) := by
 intro pins s σ H vs us Q I r h
 obtain ⟨v, vr, e1, h⟩ := h
 subst e1
 cases r with
 | cons r rr =>
  rw [hs]
  refine assignInOrder_cons (thn (h1 pins s σ H _ _ _ I r h) fun _ s1 ⟨σ1, H1, I1, q1⟩ => ?_)
  exact h2 pins s1 σ1 H1 _ _ Q I1 rr q1
def Zj8 (K : PySem.W.Frag) (n : Nat) (t : TGs) : TG := fun v σ H Q => ∃ a xs, v = .ref a ∧ SqT K H a xs ∧ xs.length = n ∧ t xs σ H Q
theorem Zix {es : List Expr} {k : Nat} {t : TGs} {n : Nat} (hc : X.calm = true) (h : PGs X es t)
  (hn : (assignEach es X.env).length = n := by rfl) (hst : (assignEach es X.env).findIdx? (·.1) = none := by rfl) : PG X (.Tuple es k pos) (Zj8 X.K n t) := by
 intro pins s σ H v u Q I r hw
 obtain ⟨a, xs, e1, hq, hl, hw⟩ := hw
 subst e1
 cases r
 obtain ⟨its, rv, ht, hz⟩ := I.tuple hq
 refine assign_Tuple_tuple (I.ok.hd hc) ht (by simp [hn, ← hl, rv.length]) hst fun h' hx => ?_
 have I1 : Inv X pins σ H { s with heap := h' } := I.kept (t' := s.toks) fun b o e => hx b o (Nat.ne_of_lt (Heap.lt_size e)) e
 exact h pins _ σ H xs _ Q I1 (by simpa using rv) hw
def ZkW (to ti : TE) (t : Zkj) : TG := fun v σ H Q => to σ H fun o H1 => ti σ H1 fun i H2 => t o i v H2 fun H3 => Q σ H3
theorem Ziy {o i : Expr} {to ti : TE} {t : Zkj} (ho : PE X o to) (hi : PE X i ti) (hs : Zkx X t)
  (ha : ∀ v, assign (.Subscript o i pos) X.env v = (do
   let ov ← holding [v] (eval o X.env)
   let iv ← holding [v, ov] (eval i X.env)
   standAt pos
   holding [v, ov, iv] (setItem ov iv v)
   release [v, ov, iv] []) := by intro _; rfl) : PG X (.Subscript o i pos) (ZkW to ti t) := by
 intro pins s σ H v u Q I r h
 rw [ha]
 refine wpAny_bind (wpAny_holding (thn (ho pins s σ H _ I h) fun ov s1 ⟨x, H1, I1, r1, q1⟩ => ?_))
 refine wpAny_bind (wpAny_holding (thn (hi pins s1 σ H1 _ I1 q1) fun iv s2 ⟨y, H2, I2, r2, q2⟩ => ?_))
 refine wpAny_bind (wpAny_standAt (wpAny_bind (wpAny_holding (thn (hs pins s2 σ H2 x y v ov iv u _ I2 r1 r2 r q2) fun _ s3 ⟨H3, I3, q3⟩ => ?_))))
 exact wpAny_release ⟨σ, H3, I3, q3⟩
def Zkn (te : TE) (g : TG) : TS := fun D σ H => te σ H fun x H1 => g x σ H1 D.nx
theorem Ziu {tg e : Expr} {te : TE} {g : TG} (he : PE X e te) (hg : PG X tg g) (hs : swapsWithSole [tg] e pos.line X.env = pure false := by rfl) (hw : swappedStores [tg] e X.env = pure none := by rfl)
  (h1 : (assignEach [tg] X.env).map (·.2) = [assign tg X.env] := by rfl) : PS X (.Assign [tg] e pos) (Zkn te g) := by
 intro pins s σ H D I h
 refine wpAny_Assign_stores (thn (he pins s σ H _ I h) fun v s1 ⟨x, H1, I1, r1, q1⟩ => ?_) hs hw
 rw [h1]
 exact thn (hg pins s1 σ H1 x v _ I1 r1 q1) fun _ s2 q => q
theorem Zm {i : Nat} {x : Str} {e : Expr} {te : TE} {pos' : Pos} (hN : X.N.Nodup) (hi : X.N[i]? = some x) (hx : Loc X.env.scope x) (he : PE X e te) (hs : swapsWith e (some (.Name x pos')) pos.line X.env = pure false := by rfl) (hf : X.fn x = true ∨ X.env.scope.names.lookup x = some .local := by first | exact .inl rfl | exact .inr rfl | assumption) :
  PS X (.Assign [.Name x pos'] e pos) (Zkn te (JH i)) := by
 intro pins s σ H D I h
 refine wpAny_Assign_Name (thn (he pins s σ H _ I h) fun v s1 ⟨y, H1, I1, r1, q1⟩ => ?_) hs
 exact Zck I1 hN hi hx r1 (fun s2 I2 => ⟨_, H1, I2, q1⟩) hf
def ZaV (c : TT) (tb : TS) : TS := fun D σ H => ∃ W : Nat → St → Hp → Prop, (∃ m, W m σ H) ∧ ∀ m σ H, W m σ H →
 c σ H fun b H1 => if b = true then ∃ N : St → Hp → Prop, (∀ σ' H', N σ' H' → ∃ m', m' < m ∧ W m' σ' H') ∧ tb { D with nx := N, ct := N, bk := D.nx } σ H1 else D.nx σ H1
theorem XS {c : Expr} {body : List Stmt} {tc : TT} {tb : TS} (hp : PassesOwn (model X.prog X.w) X.A X.env X.xe) (hc : PT X c tc) (hb : PSs X body tb) : PS X (.While c body [] pos) (ZaV tc tb) := by
 intro pins s σ H D I h
 obtain ⟨W, ⟨m0, w0⟩, turn⟩ := h
 refine wpAny_While (codeAny_whileLoop (fun n s' => ∃ σ' H', Inv X pins σ' H' s' ∧ W n σ' H') ?_ m0 ⟨σ, H, I, w0⟩)
 rintro n s1 ⟨σ1, H1, I1, w1⟩
 refine wpAny_passesOwn hp (thn (hc pins s1 σ1 H1 _ I1 (turn n σ1 H1 w1)) fun b s2 ⟨H2, I2, q2⟩ => ?_)
 cases b with
 | true =>
  obtain ⟨N, hN, q2⟩ := q2
  rw [if_pos rfl]
  refine wpAny_passesOwn hp (thn (hb pins s2 σ1 H2 _ I2 q2) fun f s3 q3 => ?_)
  cases f with
  | next =>
   obtain ⟨σ3, H3, I3, n3⟩ := q3
   obtain ⟨m', hm, w3⟩ := hN σ3 H3 n3
   exact ⟨m', hm, σ3, H3, I3, w3⟩
  | cont =>
   obtain ⟨σ3, H3, I3, n3⟩ := q3
   obtain ⟨m', hm, w3⟩ := hN σ3 H3 n3
   exact ⟨m', hm, σ3, H3, I3, w3⟩
  | brk => exact q3
  | ret v => exact q3
 | false =>
  rw [if_neg Bool.false_ne_true]
  exact wpAny_execs_nil ⟨σ1, H2, I2, q2⟩
end
structure It where
 go : Nat → Hp → Prop
 yld : Nat → Hp → V → Hp → Prop
 stop : Nat → Hp → Prop
def Zcg (X : Cx) (pins : List (Addr × Obj)) (H : Hp) (b : Addr) : Prop :=
 H b = none ∧ b ≠ X.env.locals ∧ b ∉ X.fs ∧ (b ∈ X.ex ∨ X.s₀.heap.objs.size ≤ b) ∧ (∀ x c, X.env.cells.lookup x = some c → c ≠ b) ∧ ∀ p ∈ X.pn ++ pins, p.1 ≠ b
theorem Inv.fpOk {X : Cx} {pins : List (Addr × Obj)} {σ : St} {H H' : Hp} {s : Shared} {b : Addr} (I : Inv X pins σ H s) (hb : s.heap.objs.size ≤ b) (hn : H' b = none) : Zcg X pins H' b := by
 refine ⟨hn, Nat.ne_of_gt (Nat.lt_of_lt_of_le I.lt hb), I.nofs hb, .inr (Nat.le_trans I.sz hb), fun x c e z => ?_, fun p hp z => ?_⟩
 ·obtain ⟨v, q⟩ := I.cell x c e
  exact absurd (Nat.lt_of_lt_of_le q.lt (by rw [z]; exact hb)) (Nat.lt_irrefl _)
 ·exact absurd (Nat.lt_of_lt_of_le (Heap.lt_size (I.pin p hp).1) (by rw [z]; exact hb)) (Nat.lt_irrefl _)
structure Zg3 (P : Program) (w : World) (K : PySem.W.Frag) (tg : Expr) (J : It) (fp : List Addr) (it : Addr) (tn : Nat → Heap → Prop) : Prop where
 mem : it ∈ fp
 obj : ∀ i h, tn i h → ∀ b ∈ fp, ∃ o, h.get? b = some o ∧ ∀ v, o.data ≠ .cell v
 keep : ∀ i h h', tn i h → (∀ b ∈ fp, ∀ o, h.get? b = some o → h'.get? b = some o) → tn i h'
 item : ∀ (X : Cx), X.prog = P → X.w = w → X.K = K → X.calm = true → ∀ (i : Nat) (pins : List (Addr × Obj)) (s : Shared) (σ : St) (H : Hp) (E : Value → Shared → Prop), Inv X pins σ H s → (∀ b ∈ fp, Zcg X pins H b) → tn i s.heap → J.go i H →
  wpAny (model P w) X.A (pyNext (.ref it)) (fun r s1 => ∃ u, r = some u ∧
   wpAny (model P w) X.A (letOwnedTupleGo tg (.ref it) u) (fun _ s2 => ∃ x H', Inv X pins σ H' s2 ∧ RelV x u ∧ J.yld i H x H' ∧ tn (i + 1) s2.heap ∧ ∀ b ∈ fp, H' b = none) E s1) E s
 done : ∀ (X : Cx), X.prog = P → X.w = w → X.K = K → X.calm = true → ∀ (i : Nat) (pins : List (Addr × Obj)) (s : Shared) (σ : St) (H : Hp) (E : Value → Shared → Prop), Inv X pins σ H s → (∀ b ∈ fp, Zcg X pins H b) → tn i s.heap → J.stop i H →
  wpAny (model P w) X.A (pyNext (.ref it)) (fun r s1 => r = none ∧ Inv X pins σ H s1) E s
 self : ∀ (A : Around) (i : Nat) (s : Shared) (Q : Value → Shared → Prop) (E : Value → Shared → Prop), tn i s.heap → Q (.ref it) s → wpAny (model P w) A (pyIter (.ref it)) Q E s
abbrev TI := St → Hp → (It → Hp → Prop) → Prop
def PIE (X : Cx) (pins : List (Addr × Obj)) (σ : St) (tg : Expr) (R : It → Hp → Prop) (itv : Value) (s2 : Shared) : Prop :=
 ∃ (it : Addr) (fp : List Addr) (tn : Nat → Heap → Prop) (J : It) (H' : Hp), itv = .ref it ∧ Inv X pins σ H' s2 ∧ Zg3 X.prog X.w X.K tg J fp it tn ∧ tn 0 s2.heap ∧ (∀ b ∈ fp, Zcg X pins H' b) ∧ R J H'
def PI (X : Cx) (tg iter : Expr) (wi : TI) : Prop :=
 ∀ (pins : List (Addr × Obj)) (s : Shared) (σ : St) (H : Hp) (R : It → Hp → Prop), Inv X pins σ H s → wi σ H R →
  wpAny (model X.prog X.w) X.A (eval iter X.env) (fun v s1 => wpAny (model X.prog X.w) X.A (pyIter v) (PIE X pins σ tg R) X.xe s1) X.xe s
theorem Zge {M : Model} {A : Around} {E : Value → Shared → Prop} {s : Shared} {tg : Expr} {it : Addr} {u : Value} {o : Obj} {n : String} {vs : Array Value} {Q : Unit → Shared → Prop} (ho : s.heap.get? it = some o) (hc : o.cls = .type n) (hd : o.data = .fields vs)
  (hn : ["enumerate", "zip", "dict_itemiterator", "dict_reverseitemiterator", "odict_iterator", "itertools.zip_longest", "itertools.pairwise"].contains n = false) (hQ : Q () s) : wpAny M A (letOwnedTupleGo tg (.ref it) u) Q E s := by
 unfold letOwnedTupleGo
 cases tg <;> first
  | exact wpAny_pure hQ
  | (cases u <;> first
    | exact wpAny_pure hQ
    | (refine wpAny_bind (wpAny_load ho ?_)
       rw [hc, hd]
       show wpAny M A (if (["enumerate", "zip", "dict_itemiterator", "dict_reverseitemiterator", "odict_iterator", "itertools.zip_longest", "itertools.pairwise"].contains n && vs[0]? == some (rawInt _)) = true then _ else _) Q E s
       rw [if_neg (by intro h; rw [hn, Bool.false_and] at h; cases h)]
       exact wpAny_pure hQ))
def Itl (K : PySem.W.Frag) (a : Addr) : It :=
 ⟨fun i H => ∃ xs x, SqL K H a xs ∧ xs[i]? = some x, fun i H x H' => H' = H ∧ ∀ xs, SqL K H a xs → xs[i]? = some x, fun i H => ∃ xs, SqL K H a xs ∧ xs.length ≤ i⟩
def Itt (K : PySem.W.Frag) (a : Addr) : It :=
 ⟨fun i H => ∃ xs x, SqT K H a xs ∧ xs[i]? = some x, fun i H x H' => H' = H ∧ ∀ xs, SqT K H a xs → xs[i]? = some x, fun i H => ∃ xs, SqT K H a xs ∧ xs.length ≤ i⟩
def Itr (lo : Int) (n : Nat) : It := ⟨fun i _ => i < n, fun i H x H' => H' = H ∧ x = .int (lo + i), fun i _ => n ≤ i⟩
theorem Zdt {P : Program} {w : World} {K : PySem.W.Frag} {tg : Expr} (a it : Addr) : Zg3 P w K tg (Itl K a) [it] it (fun i h => h.IsListIter it a i) where
 mem := by simp
 obj := fun i h st b hb => by
  have e : b = it := by simpa using hb
  subst e
  obtain ⟨o, e, c, d⟩ := st
  exact ⟨o, e, fun v z => by rw [d] at z; cases z⟩
 keep := fun i h h' st k => st.at fun o e => k it (by simp) o e
 item := by
  intro X hP hw hK hc i pins s σ H E I hf st hg
  subst hP hw hK
  obtain ⟨xs, x, hq, hx⟩ := hg
  obtain ⟨its, rv, p, hz⟩ := I.list hq
  obtain ⟨u, hu, ru⟩ := rv.get hx
  obtain ⟨f0, f1, f2, f3, f4, f5⟩ := hf it (by simp)
  refine wpAny_pyNext_list_item st p.isList (x := u) (by simpa using hu) fun h' st' sb => ?_
  have I1 : Inv X pins σ H { s with heap := h' } := I.turned (t' := s.toks) (fun b o hb e => (sb.2 b hb).trans e) f0 f1 f3 f4 f5
  obtain ⟨o, e, c, d⟩ := id st'
  exact ⟨u, rfl, Zge (s := { s with heap := h' }) e c d (by decide) ⟨x, H, I1, ru, ⟨rfl, fun ys hy => by rw [I.list_inj hy hq]; exact hx⟩, st', fun b hb => (hf b hb).1⟩⟩
 done := by
  intro X hP hw hK hc i pins s σ H E I hf st hg
  subst hP hw hK
  obtain ⟨xs, hq, hx⟩ := hg
  obtain ⟨its, rv, p, hz⟩ := I.list hq
  obtain ⟨f0, f1, f2, f3, f4, f5⟩ := hf it (by simp)
  have hl := rv.length
  exact wpAny_pyNext_list_end (I.ok.hd hc) st p.isList (by simp; omega) fun h' eb => ⟨rfl, I.turned (t' := s.toks) (fun b o hb e => eb b o hb e) f0 f1 f3 f4 f5⟩
 self := fun _ _ _ _ _ st h => wpAny_pyIter_listiter st h
theorem ZcV {P : Program} {w : World} {K : PySem.W.Frag} {tg : Expr} (a it : Addr) : Zg3 P w K tg (Itt K a) [it] it (fun i h => h.IsTupleIter it a i) where
 mem := by simp
 obj := fun i h st b hb => by
  have e : b = it := by simpa using hb
  subst e
  obtain ⟨o, e, c, d⟩ := st
  exact ⟨o, e, fun v z => by rw [d] at z; cases z⟩
 keep := fun i h h' st k => st.at fun o e => k it (by simp) o e
 item := by
  intro X hP hw hK hc i pins s σ H E I hf st hg
  subst hP hw hK
  obtain ⟨xs, x, hq, hx⟩ := hg
  obtain ⟨its, rv, p, hz⟩ := I.tuple hq
  obtain ⟨u, hu, ru⟩ := rv.get hx
  obtain ⟨f0, f1, f2, f3, f4, f5⟩ := hf it (by simp)
  refine wpAny_pyNext_tuple_item st (show s.heap.IsTuple a its.toArray from p) (x := u) (by simpa using hu) fun h' st' sb => ?_
  have I1 : Inv X pins σ H { s with heap := h' } := I.turned (t' := s.toks) (fun b o hb e => (sb.2 b hb).trans e) f0 f1 f3 f4 f5
  obtain ⟨o, e, c, d⟩ := id st'
  exact ⟨u, rfl, Zge (s := { s with heap := h' }) e c d (by decide) ⟨x, H, I1, ru, ⟨rfl, fun ys hy => by rw [I.tuple_inj hy hq]; exact hx⟩, st', fun b hb => (hf b hb).1⟩⟩
 done := by
  intro X hP hw hK hc i pins s σ H E I hf st hg
  subst hP hw hK
  obtain ⟨xs, hq, hx⟩ := hg
  obtain ⟨its, rv, p, hz⟩ := I.tuple hq
  obtain ⟨f0, f1, f2, f3, f4, f5⟩ := hf it (by simp)
  have hl := rv.length
  exact wpAny_pyNext_tuple_end (I.ok.hd hc) st (show s.heap.IsTuple a its.toArray from p) (by simp; omega) fun h' eb => ⟨rfl, I.turned (t' := s.toks) (fun b o hb e => eb b o hb e) f0 f1 f3 f4 f5⟩
 self := fun _ _ _ _ _ st h => wpAny_pyIter_tupleiter st h
theorem ZcW {P : Program} {w : World} {K : PySem.W.Frag} {tg : Expr} (it : Addr) (lo : Int) (n : Nat) : Zg3 P w K tg (Itr lo n) [it] it (fun i h => IsRangeIter h it (lo + (i : Nat) * 1) ((n : Int) - (i : Nat)) 1) where
 mem := by simp
 obj := fun i h st b hb => by
  have e : b = it := by simpa using hb
  subst e
  exact ⟨_, st, fun v z => by
   have z' : Data.fields _ = Data.cell v := z
   cases z'⟩
 keep := fun i h h' st k => k it (by simp) _ st
 item := by
  intro X hP hw hK hc i pins s σ H E I hf st hg
  subst hP hw hK
  obtain ⟨f0, f1, f2, f3, f4, f5⟩ := hf it (by simp)
  have W := Walks.range (prog := X.prog) (w := X.w) (I.ok.hd hc) it lo 1 n
  refine W.item i s _ _ hg st fun v h' tk hv st' kk => ?_
  obtain ⟨t, rfl⟩ := hv
  have I1 : Inv X pins σ H { s with heap := h', toks := tk } := I.turned (fun b o hb e => kk b o (by simpa using hb) e) f0 f1 f3 f4 f5
  refine ⟨_, rfl, Zge (s := { s with heap := h', toks := tk }) (n := "range_iterator") st' rfl rfl (by decide) ⟨.int (lo + i), H, I1, ⟨t, ?_⟩, ⟨rfl, rfl⟩, st', fun b hb => (hf b hb).1⟩⟩
  rw [Int.mul_one]
 done := by
  intro X hP hw hK hc i pins s σ H E I hf st hg
  subst hP hw hK
  obtain ⟨f0, f1, f2, f3, f4, f5⟩ := hf it (by simp)
  exact wpAny_pyNext_range_end (I.ok.hd hc) st (by have : n ≤ i := hg; omega) fun h' eb => ⟨rfl, I.turned (t' := s.toks) (fun b o hb e => eb b o hb e) f0 f1 f3 f4 f5⟩
 self := fun _ _ _ _ _ st h => wpAny_pyIter_rangeiter st h
section
variable {X : Cx} {tg : Expr}
def Zj6 (K : PySem.W.Frag) (tl : TE) : TI := fun σ H R => tl σ H fun x H1 => ∃ a, x = .ref a ∧ (∃ xs, SqL K H1 a xs) ∧ R (Itl K a) H1
def ZkV (K : PySem.W.Frag) (tl : TE) : TI := fun σ H R => tl σ H fun x H1 => ∃ a, x = .ref a ∧ (∃ xs, SqT K H1 a xs) ∧ R (Itt K a) H1
theorem Zed {l : Expr} {tl : TE} (hl : PE X l tl) : PI X tg l (Zj6 X.K tl) := by
 intro pins s σ H R I h
 refine thn (hl pins s σ H _ I h) fun v s1 ⟨x, H1, I1, r1, q1⟩ => ?_
 obtain ⟨a, e, ⟨xs, hq⟩, q⟩ := q1
 subst e
 cases r1
 obtain ⟨its, rv, p, hz⟩ := I1.list hq
 refine wpAny_pyIter_list p.isList ?_
 refine ⟨s1.heap.objs.size, [s1.heap.objs.size], _, _, H1, rfl, I1.kept (t' := s1.toks) fun b o e => Heap.get?_push_of_some _ e, Zdt a _, ⟨_, Heap.get?_push_size _ rfl, rfl, rfl⟩, fun b hb => ?_, q⟩
 have e : b = s1.heap.objs.size := by simpa using hb
 subst e
 exact I1.fpOk (Nat.le_refl _) (I1.hok.fresh (Nat.le_refl _))
theorem YH {l : Expr} {tl : TE} (hl : PE X l tl) : PI X tg l (ZkV X.K tl) := by
 intro pins s σ H R I h
 refine thn (hl pins s σ H _ I h) fun v s1 ⟨x, H1, I1, r1, q1⟩ => ?_
 obtain ⟨a, e, ⟨xs, hq⟩, q⟩ := q1
 subst e
 cases r1
 obtain ⟨its, rv, p, hz⟩ := I1.tuple hq
 refine wpAny_pyIter_tuple (show s1.heap.IsTuple a its.toArray from p) ?_
 refine ⟨s1.heap.objs.size, [s1.heap.objs.size], _, _, H1, rfl, I1.kept (t' := s1.toks) fun b o e => Heap.get?_push_of_some _ e, ZcV a _, ⟨_, Heap.get?_push_size _ rfl, rfl, rfl⟩, fun b hb => ?_, q⟩
 have e : b = s1.heap.objs.size := by simpa using hb
 subst e
 exact I1.fpOk (Nat.le_refl _) (I1.hok.fresh (Nat.le_refl _))
theorem ZfJ {pins : List (Addr × Obj)} {σ : St} {H : Hp} {s : Shared} {R : It → Hp → Prop} {E : Value → Shared → Prop} {lo hi : Int} {t u v : Tok} {tk : Nat} (I : Inv X pins σ H s) (h1 : -(2 ^ 62) ≤ lo) (h2 : lo < 2 ^ 62) (h3 : -(2 ^ 62) ≤ hi) (h4 : hi < 2 ^ 62)
  (q : R (Itr lo (hi - lo).toNat) H) : wpAny (model X.prog X.w) X.A (pyIter (.ref s.heap.objs.size)) (PIE X pins σ tg R) E { s with heap := s.heap.push { cls := .type "range", data := .fields #[.int lo t, .int hi u, .int 1 v] }, toks := tk } := by
 refine wpAny_pyIter_range (IsRange.new ..) (small_one h1 h2 h3 h4) ?_
 have I1 : Inv X pins σ H { s with heap := s.heap.push { cls := .type "range", data := .fields #[.int lo t, .int hi u, .int 1 v] }, toks := tk } := I.kept fun b o e => Heap.get?_push_of_some _ e
 refine ⟨(s.heap.push { cls := .type "range", data := .fields #[.int lo t, .int hi u, .int 1 v] }).objs.size, [(s.heap.push { cls := .type "range", data := .fields #[.int lo t, .int hi u, .int 1 v] }).objs.size], _, _, H, rfl,
  I1.kept (t' := tk) fun b o e => Heap.get?_push_of_some _ e, ZcW _ lo (hi - lo).toNat, ?_, fun b hb => ?_, q⟩
 ·have e1 : lo + ((0 : Nat) : Int) * 1 = lo := by simp
  have e2 : (((hi - lo).toNat : Nat) : Int) - ((0 : Nat) : Int) = Builtin.Range.rangeSize lo hi 1 := by rw [rangeSize_one]; split <;> omega
  show IsRangeIter _ _ (lo + ((0 : Nat) : Int) * 1) ((((hi - lo).toNat : Nat) : Int) - ((0 : Nat) : Int)) 1
  rw [e1, e2]
  exact Heap.get?_push_size _ rfl
 ·have e : b = (s.heap.push { cls := .type "range", data := .fields #[.int lo t, .int hi u, .int 1 v] }).objs.size := by simpa using hb
  subst e
  exact I1.fpOk (Nat.le_refl _) (I1.hok.fresh (Nat.le_refl _))
def Zj5 (ta : TA) : TI := fun σ H R => ta σ H fun vs H1 => ∃ j : Int, vs = [.int j] ∧ -(2 ^ 62) ≤ j ∧ j < 2 ^ 62 ∧ R (Itr 0 j.toNat) H1
theorem YN {a : Expr} {ta : TA} {p pos : Pos} (hg : Gl X "range") (hm : X.mg "range" = none) (ha : PA X [a] ta) (hs : starEach [a] X.env = [(false, eval a X.env)] := by rfl) : PI X tg (.Call (.Name "range" p) [a] [] pos) (Zj5 ta) := by
 intro pins s σ H R I h
 refine Call_ (Y8 I hg hm boot_range (PyProof.Rows.callWith_type1 (thn (ha pos pins s σ H _ I h) fun us s1 ⟨vs, H1, I1, r1, q1⟩ => ?_) hs rfl))
 obtain ⟨j, e, q1, q2, q⟩ := q1
 subst e
 cases r1 with
 | cons r rr =>
  cases rr
  obtain ⟨t, rfl⟩ := r
  exact call_range_1 (ZfJ I1 (by omega) (by omega) q1 q2 (by simpa using q))
def ZkI (wi : TI) (g : TG) (tb : TS) : TS := fun D σ H => wi σ H fun J H1 => ∃ W : Nat → Nat → St → Hp → Prop, (∃ m, W 0 m σ H1) ∧ ∀ i m σ H, W i m σ H →
 (J.stop i H ∧ D.nx σ H) ∨ (J.go i H ∧ ∃ N : St → Hp → Prop, (∀ σ' H', N σ' H' → ∃ m', m' < m ∧ W (i + 1) m' σ' H') ∧ ∀ x H', J.yld i H x H' → g x σ H' fun σ2 H2 => tb { D with nx := N, ct := N, bk := D.nx } σ2 H2)
def Za6 (fp : List Addr) (h : Heap) : List (Addr × Obj) := fp.filterMap fun b => (h.get? b).map fun o => (b, o)
theorem Y1 {fp : List Addr} {h : Heap} {b : Addr} {o : Obj} (hb : b ∈ fp) (e : h.get? b = some o) : (b, o) ∈ Za6 fp h := List.mem_filterMap.mpr ⟨b, hb, by rw [e]; rfl⟩
theorem Zes {fp : List Addr} {h : Heap} {p : Addr × Obj} (hp : p ∈ Za6 fp h) : p.1 ∈ fp ∧ h.get? p.1 = some p.2 := by
 obtain ⟨b, hb, e⟩ := List.mem_filterMap.mp hp
 cases q : h.get? b with
 | none => rw [q] at e; cases e
 | some o =>
  rw [q] at e
  have e' : (b, o) = p := Option.some.inj e
  subst e'
  exact ⟨hb, q⟩
theorem Inv.pinned {pins : List (Addr × Obj)} {σ : St} {H : Hp} {s : Shared} {fp : List Addr} (I : Inv X pins σ H s) (hf : ∀ b ∈ fp, Zcg X pins H b) (ho : ∀ b ∈ fp, ∃ o, s.heap.get? b = some o ∧ ∀ v, o.data ≠ .cell v) : Inv X (pins ++ Za6 fp s.heap) σ H s :=
 I.pins_of fun p hp => (List.mem_append.mp hp).elim (fun z => I.pin p (List.mem_append_right _ z)) fun z => by
  obtain ⟨hb, e⟩ := Zes z
  obtain ⟨f0, f1, f2, _⟩ := hf p.1 hb
  obtain ⟨o, e', d⟩ := ho p.1 hb
  rw [e] at e'; cases e'
  exact ⟨e, f0, f1, f2, d⟩
theorem Inv.unpinned {pins pl : List (Addr × Obj)} {σ : St} {H : Hp} {s : Shared} (I : Inv X (pins ++ pl) σ H s) : Inv X pins σ H s := I.pins_of fun p hp => I.pin p (List.mem_append_right _ (List.mem_append_left _ hp))
theorem Yo {iter : Expr} {body : List Stmt} {wi : TI} {g : TG} {tb : TS} {pos : Pos} (hp : PassesOwn (model X.prog X.w) X.A X.env X.xe) (hc : X.calm = true) (hi : PI X tg iter wi) (hg : PG X tg g) (hb : PSs X body tb)
  (hs : ∀ x, foldedSetIterable iter X.env x = pure x := by intro _; rfl) : PS X (.For tg iter body [] pos) (ZkI wi g tb) := by
 intro pins s σ H D I h
 refine wpAny_For (thn (hi pins s σ H _ I h) fun v s1 h1 => thn h1 fun itv s2 h2 => ?_) hs
 obtain ⟨it, fp, tn, J, H2, e, I2, T, st2, f2, W, ⟨m0, w0⟩, turn⟩ := h2
 subst e
 -- what stays true of the iterator's objects through the loop
 have stat : ∀ {H' : Hp}, (∀ b ∈ fp, H' b = none) → ∀ b ∈ fp, Zcg X pins H' b := fun hn b hb => ⟨hn b hb, (f2 b hb).2⟩
 refine codeAny_forLoop_any (fun n s' => ∃ i σ' H', Inv X pins σ' H' s' ∧ tn i s'.heap ∧ (∀ b ∈ fp, H' b = none) ∧ W i n σ' H') ?_ m0 ⟨0, σ, H2, I2, st2, fun b hb => (f2 b hb).1, w0⟩
 rintro n s3 ⟨i, σ3, H3, I3, st3, fr3, w3⟩
 rcases turn i n σ3 H3 w3 with ⟨stop, qn⟩ | ⟨go, N, hN, step⟩
 ·refine wpAny_passesOwn hp (thn (T.done X rfl rfl rfl hc i pins s3 σ3 H3 X.xe I3 (stat fr3) st3 stop) fun r s4 ⟨hr, I4⟩ => ?_)
  subst hr
  exact wpAny_execs_nil ⟨σ3, H3, I4, qn⟩
 ·refine wpAny_passesOwn hp (thn (T.item X rfl rfl rfl hc i pins s3 σ3 H3 X.xe I3 (stat fr3) st3 go) fun r s4 ⟨u, hr, h4⟩ => ?_)
  subst hr
  refine wpAny_passesOwn hp (thn h4 fun _ s5 ⟨x, H5, I5, r5, y5, st5, fr5⟩ => ?_)
  have I5' := I5.pinned (stat fr5) (T.obj _ _ st5)
  refine wpAny_passesOwn hp (thn (hg _ s5 σ3 H5 x u _ I5' r5 (step x H5 y5)) fun _ s6 ⟨σ6, H6, I6, q6⟩ => ?_)
  refine wpAny_passesOwn hp (thn (hb _ s6 σ6 H6 _ I6 q6) fun f s7 q7 => ?_)
  have again : ∀ {σ7 : St} {H7 : Hp}, Inv X (pins ++ Za6 fp s5.heap) σ7 H7 s7 → N σ7 H7 → ∃ m, m < n ∧ ∃ i σ' H', Inv X pins σ' H' s7 ∧ tn i s7.heap ∧ (∀ b ∈ fp, H' b = none) ∧ W i m σ' H' := fun {σ7 H7} I7 n7 => by
   obtain ⟨m', hm, w7⟩ := hN σ7 H7 n7
   refine ⟨m', hm, i + 1, σ7, H7, I7.unpinned, T.keep _ _ _ st5 fun b hb o e => (I7.pin (b, o) (List.mem_append_right _ (List.mem_append_right _ (Y1 hb e)))).1, fun b hb => ?_, w7⟩
   obtain ⟨o, e, d⟩ := T.obj _ _ st5 b hb
   exact (I7.pin (b, o) (List.mem_append_right _ (List.mem_append_right _ (Y1 hb e)))).2.1
  cases f with
  | next => obtain ⟨σ7, H7, I7, n7⟩ := q7; exact again I7 n7
  | cont => obtain ⟨σ7, H7, I7, n7⟩ := q7; exact again I7 n7
  | brk => obtain ⟨σ7, H7, I7, q7⟩ := q7; exact ⟨σ7, H7, I7.unpinned, q7⟩
  | ret v => obtain ⟨x7, σ7, H7, I7, r7, q7⟩ := q7; exact ⟨x7, σ7, H7, I7.unpinned, r7, q7⟩
end
theorem Zgh {K : PySem.W.Frag} {a : Addr} {xs : List V} {g : TG} {tb : TS} {D : Zfi} {σ : St} {H : Hp} (Pv : Nat → St → Hp → Prop) (h0 : Pv 0 σ H) (hl : ∀ i σ H, i ≤ xs.length → Pv i σ H → SqL K H a xs)
  (hs : ∀ i x σ H, xs[i]? = some x → Pv i σ H → g x σ H fun σ2 H2 => tb { D with nx := Pv (i + 1), ct := Pv (i + 1), bk := D.nx } σ2 H2) (hd : ∀ σ H, Pv xs.length σ H → D.nx σ H) :
  ∃ W : Nat → Nat → St → Hp → Prop, (∃ m, W 0 m σ H) ∧ ∀ i m σ H, W i m σ H →
   ((Itl K a).stop i H ∧ D.nx σ H) ∨ ((Itl K a).go i H ∧ ∃ N : St → Hp → Prop, (∀ σ' H', N σ' H' → ∃ m', m' < m ∧ W (i + 1) m' σ' H') ∧ ∀ x H', (Itl K a).yld i H x H' → g x σ H' fun σ2 H2 => tb { D with nx := N, ct := N, bk := D.nx } σ2 H2) := by
 refine ⟨fun i m σ H => m = xs.length - i ∧ i ≤ xs.length ∧ Pv i σ H, ⟨xs.length, by simp, Nat.zero_le _, h0⟩, ?_⟩
 rintro i m σ H ⟨rfl, hi, p⟩
 have q := hl i σ H hi p
 by_cases hlt : i < xs.length
 ·refine .inr ⟨⟨xs, xs[i], q, by simp [hlt]⟩, Pv (i + 1), fun σ' H' p' => ⟨xs.length - (i + 1), by omega, rfl, hlt, p'⟩, fun x H' y => ?_⟩
  obtain ⟨e, y⟩ := y
  subst e
  exact hs i x σ _ (y xs q) p
 ·have e : i = xs.length := by omega
  subst e
  exact .inl ⟨⟨xs, q, Nat.le_refl _⟩, hd σ H p⟩
theorem XD {K : PySem.W.Frag} {a : Addr} {xs : List V} {g : TG} {tb : TS} {D : Zfi} {σ : St} {H : Hp} (Pv : Nat → St → Hp → Prop) (h0 : Pv 0 σ H) (hl : ∀ i σ H, i ≤ xs.length → Pv i σ H → SqT K H a xs)
  (hs : ∀ i x σ H, xs[i]? = some x → Pv i σ H → g x σ H fun σ2 H2 => tb { D with nx := Pv (i + 1), ct := Pv (i + 1), bk := D.nx } σ2 H2) (hd : ∀ σ H, Pv xs.length σ H → D.nx σ H) :
  ∃ W : Nat → Nat → St → Hp → Prop, (∃ m, W 0 m σ H) ∧ ∀ i m σ H, W i m σ H →
   ((Itt K a).stop i H ∧ D.nx σ H) ∨ ((Itt K a).go i H ∧ ∃ N : St → Hp → Prop, (∀ σ' H', N σ' H' → ∃ m', m' < m ∧ W (i + 1) m' σ' H') ∧ ∀ x H', (Itt K a).yld i H x H' → g x σ H' fun σ2 H2 => tb { D with nx := N, ct := N, bk := D.nx } σ2 H2) := by
 refine ⟨fun i m σ H => m = xs.length - i ∧ i ≤ xs.length ∧ Pv i σ H, ⟨xs.length, by simp, Nat.zero_le _, h0⟩, ?_⟩
 rintro i m σ H ⟨rfl, hi, p⟩
 have q := hl i σ H hi p
 by_cases hlt : i < xs.length
 ·refine .inr ⟨⟨xs, xs[i], q, by simp [hlt]⟩, Pv (i + 1), fun σ' H' p' => ⟨xs.length - (i + 1), by omega, rfl, hlt, p'⟩, fun x H' y => ?_⟩
  obtain ⟨e, y⟩ := y
  subst e
  exact hs i x σ _ (y xs q) p
 ·have e : i = xs.length := by omega
  subst e
  exact .inl ⟨⟨xs, q, Nat.le_refl _⟩, hd σ H p⟩
theorem YS {lo : Int} {n : Nat} {g : TG} {tb : TS} {D : Zfi} {σ : St} {H : Hp} (Pv : Nat → St → Hp → Prop) (h0 : Pv 0 σ H)
  (hs : ∀ i σ H, i < n → Pv i σ H → g (.int (lo + i)) σ H fun σ2 H2 => tb { D with nx := Pv (i + 1), ct := Pv (i + 1), bk := D.nx } σ2 H2) (hd : ∀ σ H, Pv n σ H → D.nx σ H) :
  ∃ W : Nat → Nat → St → Hp → Prop, (∃ m, W 0 m σ H) ∧ ∀ i m σ H, W i m σ H →
   ((Itr lo n).stop i H ∧ D.nx σ H) ∨ ((Itr lo n).go i H ∧ ∃ N : St → Hp → Prop, (∀ σ' H', N σ' H' → ∃ m', m' < m ∧ W (i + 1) m' σ' H') ∧ ∀ x H', (Itr lo n).yld i H x H' → g x σ H' fun σ2 H2 => tb { D with nx := N, ct := N, bk := D.nx } σ2 H2) := by
 refine ⟨fun i m σ H => m = n - i ∧ i ≤ n ∧ Pv i σ H, ⟨n, by simp, Nat.zero_le _, h0⟩, ?_⟩
 rintro i m σ H ⟨rfl, hi, p⟩
 by_cases hlt : i < n
 ·refine .inr ⟨hlt, Pv (i + 1), fun σ' H' p' => ⟨n - (i + 1), by omega, rfl, hlt, p'⟩, fun x H' y => ?_⟩
  obtain ⟨e, y⟩ := y
  subst e y
  exact hs i σ _ hlt p
 ·have e : i = n := by omega
  subst e
  exact .inl ⟨Nat.le_refl _, hd σ H p⟩
abbrev R2 := V → V → Hp → VK → Prop
def OpR (X : Cx) (f : Value → Value → Sem Value) (r : R2) : Prop :=
 ∀ (pins : List (Addr × Obj)) (s : Shared) (σ : St) (H : Hp) (x y : V) (v u : Value) (Q : VK), Inv X pins σ H s → RelV x v → RelV y u → r x y H Q →
  wpAny (model X.prog X.w) X.A (f v u) (EP X pins σ Q) X.xe s
def UnR (X : Cx) (f : Value → Sem Value) (r : V → Hp → VK → Prop) : Prop :=
 ∀ (pins : List (Addr × Obj)) (s : Shared) (σ : St) (H : Hp) (x : V) (v : Value) (Q : VK), Inv X pins σ H s → RelV x v → r x H Q →
  wpAny (model X.prog X.w) X.A (f v) (EP X pins σ Q) X.xe s
def CallR (X : Cx) (f : Value) (r : List V → Hp → VK → Prop) : Prop :=
 ∀ (pins : List (Addr × Obj)) (s : Shared) (σ : St) (H : Hp) (xs : List V) (us : List Value) (Q : VK), Inv X pins σ H s → Vals xs us → r xs H Q →
  wpAny (model X.prog X.w) X.A (call f us) (EP X pins σ Q) X.xe s
def Zk2 (X : Cx) (r : V → Hp → (Bool → Hp → Prop) → Prop) : Prop :=
 ∀ (pins : List (Addr × Obj)) (s : Shared) (σ : St) (H : Hp) (x : V) (v : Value) (Q : Bool → Hp → Prop), Inv X pins σ H s → RelV x v → r x H Q →
  wpAny (model X.prog X.w) X.A (truthy v) (TP X pins σ Q) X.xe s
def tOp (r : R2) (ta tb : TE) : TE := fun σ H Q => ta σ H fun x H1 => tb σ H1 fun y H2 => r x y H2 Q
def tUn (r : V → Hp → VK → Prop) (ta : TE) : TE := fun σ H Q => ta σ H fun x H1 => r x H1 Q
def rI (C : Int → Int → Prop) (g : Int → Int → V) : R2 := fun x y H Q => ∃ i j, x = .int i ∧ y = .int j ∧ C i j ∧ Q (g i j) H
def rI0 (g : Int → Int → V) : R2 := fun x y H Q => ∃ i j, x = .int i ∧ y = .int j ∧ Q (g i j) H
def rU (g : Int → V) : V → Hp → VK → Prop := fun x H Q => ∃ i, x = .int i ∧ Q (g i) H
section
variable {X : Cx} {a b c : Expr} {ta tb tc : TE} {pos : Pos}
theorem Zke (ha : PE X a ta) (hb : PE X b tb) {pins : List (Addr × Obj)} {s : Shared} {σ : St} {H : Hp} {R : V → V → Hp → Prop} (I : Inv X pins σ H s)
  (h : ta σ H fun x H1 => tb σ H1 fun y H2 => R x y H2) {Q : Value → Shared → Prop} {f : Value → Value → Sem Value}
  (hf : ∀ v u s2 x y H2, Inv X pins σ H2 s2 → RelV x v → RelV y u → R x y H2 → wpAny (model X.prog X.w) X.A (f v u) Q X.xe s2) :
  wpAny (model X.prog X.w) X.A (eval a X.env) (fun v s₁ => wpAny (model X.prog X.w) X.A (eval b X.env) (fun u s₂ => wpAny (model X.prog X.w) X.A (f v u) Q X.xe s₂) X.xe s₁) X.xe s := by
 refine thn (ha pins s σ H _ I h) fun v s1 ⟨x, H1, I1, r1, q1⟩ => ?_
 refine thn (hb pins s1 σ H1 _ I1 q1) fun u s2 ⟨y, H2, I2, r2, q2⟩ => ?_
 exact hf v u s2 x y H2 I2 r1 r2 q2
theorem Zn {op : Operator} {r : R2} (ho : OpR X (binaryOp op) r) (ha : PE X a ta) (hb : PE X b tb) : PE X (.BinOp a op b pos) (tOp r ta tb) := by
 intro pins s σ H Q I h
 exact wpAny_BinOp (Zke ha hb I h fun v u s2 x y H2 I2 rx ry q => ho pins s2 σ H2 x y v u Q I2 rx ry q)
theorem Xj {op : UnaryOp} {r : V → Hp → VK → Prop} (ho : UnR X (unaryOp op) r) (ha : PE X a ta) : PE X (.UnaryOp op a pos) (tUn r ta) := by
 intro pins s σ H Q I h
 exact UnaryOp_ (thn (ha pins s σ H _ I h) fun v s1 ⟨x, H1, I1, r1, q1⟩ => ho pins s1 σ H1 x v Q I1 r1 q1)
theorem opI {f : Value → Value → Sem Value} {C : Int → Int → Prop} {g : Int → Int → Int}
  (rule : ∀ (i j : Int) (t u : Tok) (s : Shared) (Q : Value → Shared → Prop) (E : Value → Shared → Prop), C i j → Q (.int (g i j) s.toks) { s with toks := s.toks + 1 } → wpAny (model X.prog X.w) X.A (f (.int i t) (.int j u)) Q E s) :
  OpR X f (rI C fun i j => .int (g i j)) := by
 intro pins s σ H x y v u Q I rx ry h
 obtain ⟨i, j, rfl, rfl, hc, q⟩ := h
 obtain ⟨t, rfl⟩ := rx
 obtain ⟨t', rfl⟩ := ry
 exact rule i j t t' s _ _ hc ⟨.int (g i j), H, I.tok _, ⟨_, rfl⟩, q⟩
theorem Zks {f : Value → Value → Sem Value} {g : Int → Int → Int}
  (rule : ∀ (i j : Int) (t u : Tok) (s : Shared) (Q : Value → Shared → Prop) (E : Value → Shared → Prop), Q (.int (g i j) s.toks) { s with toks := s.toks + 1 } → wpAny (model X.prog X.w) X.A (f (.int i t) (.int j u)) Q E s) :
  OpR X f (rI0 fun i j => .int (g i j)) := by
 intro pins s σ H x y v u Q I rx ry h
 obtain ⟨i, j, rfl, rfl, q⟩ := h
 obtain ⟨t, rfl⟩ := rx
 obtain ⟨t', rfl⟩ := ry
 exact rule i j t t' s _ _ ⟨.int (g i j), H, I.tok _, ⟨_, rfl⟩, q⟩
theorem Zkt {f : Value → Value → Sem Value} {g : Int → Int → Bool}
  (rule : ∀ (i j : Int) (t u : Tok) (s : Shared) (Q : Value → Shared → Prop) (E : Value → Shared → Prop), Q (.bool (g i j)) s → wpAny (model X.prog X.w) X.A (f (.int i t) (.int j u)) Q E s) :
  OpR X f (rI0 fun i j => .bl (g i j)) := by
 intro pins s σ H x y v u Q I rx ry h
 obtain ⟨i, j, rfl, rfl, q⟩ := h
 obtain ⟨t, rfl⟩ := rx
 obtain ⟨t', rfl⟩ := ry
 exact rule i j t t' s _ _ ⟨.bl (g i j), H, I, rfl, q⟩
def Zk6 (i j : Int) : Prop := 0 < j ∧ j < 1073741824
def Zk5 (i j : Int) : Prop := 0 ≤ j ∧ j ≤ 1000000 ∧ i.natAbs < 2 ^ 64
def CMul (i j : Int) : Prop := (-(2 ^ 64) < i ∧ i < 2 ^ 64) ∨ (-(2 ^ 64) < j ∧ j < 2 ^ 64)
theorem CMul.ok {i j : Int} (h : CMul i j) : IntMulOk i j := by
 rcases h with ⟨h1, h2⟩ | ⟨h1, h2⟩
 ·exact .of_left (intBits_le_64 h1 h2)
 ·exact .of_right (intBits_le_64 h1 h2)
theorem ZP : OpR X (binaryOp .Add) (rI0 fun i j => .int (i + j)) := Zks fun _ _ _ _ _ _ _ q => add_int q
theorem XI : OpR X (binaryOp .Sub) (rI0 fun i j => .int (i - j)) := Zks fun _ _ _ _ _ _ _ q => sub_int q
theorem Xl : OpR X (binaryOp .Mult) (rI CMul fun i j => .int (i * j)) := opI fun _ _ _ _ _ _ _ hc q => mul_int q hc.ok
theorem Z7 : OpR X (binaryOp .FloorDiv) (rI Zk6 fun i j => .int (i / j)) := opI fun i j _ _ _ _ _ hc q => by
 have h1 : (0 : Int) < j := hc.1
 have h2 : j < 1073741824 := hc.2
 exact floordiv_int (by omega) (by rw [Int.fdiv_eq_ediv_of_nonneg i (by omega)]; exact q) (.inl (PyProof.noPylong_small (by omega)))
theorem ZC : OpR X (binaryOp .Mod) (rI (fun _ j => 0 < j) fun i j => .int (i % j)) := opI fun i j _ _ _ _ _ hc q => by
 have h1 : (0 : Int) < j := hc
 exact mod_int' (by omega) (by rw [Int.fmod_eq_emod_of_nonneg i (by omega)]; exact q)
theorem ZgK : OpR X (binaryOp .Pow) (rI Zk5 fun i j => .int (i ^ j.toNat)) := opI fun _ _ _ _ _ _ _ hc q => pow_int_small hc.1 hc.2.1 hc.2.2 q
theorem unI {f : Value → Sem Value} {g : Int → Int}
  (rule : ∀ (i : Int) (t : Tok) (s : Shared) (Q : Value → Shared → Prop) (E : Value → Shared → Prop), Q (.int (g i) s.toks) { s with toks := s.toks + 1 } → wpAny (model X.prog X.w) X.A (f (.int i t)) Q E s) :
  UnR X f (rU fun i => .int (g i)) := by
 intro pins s σ H x v Q I rx h
 obtain ⟨i, rfl, q⟩ := h
 obtain ⟨t, rfl⟩ := rx
 exact rule i t s _ _ ⟨.int (g i), H, I.tok _, ⟨_, rfl⟩, q⟩
theorem Yn : UnR X (unaryOp .USub) (rU fun i => .int (-i)) := unI fun _ _ _ _ _ q => neg_int q
end
def Zkp : V → V → Bool
 | .non, .non => true | .non, .int _ => true | .int _, .non => true | .non, .bl _ => true | .bl _, .non => true | .non, .str _ => true | .str _, .non => true
 | .int _, .int _ => true | .bl _, .bl _ => true | .str _, .str _ => true | .byt _, .byt _ => true
 | .int _, .str _ => true | .str _, .int _ => true | .bl _, .str _ => true | .str _, .bl _ => true
 | _, _ => false
def rEq : R2 := fun x y H Q => Zkp x y = true ∧ Q (.bl (decide (x = y))) H
def rNe : R2 := fun x y H Q => Zkp x y = true ∧ Q (.bl (!decide (x = y))) H
theorem Zb8 {i j : Int} : decide (V.int i = V.int j) = (i == j) := by
 rw [Bool.eq_iff_iff]
 simp
theorem ZgY {i j : Bool} : decide (V.bl i = V.bl j) = (i == j) := by
 rw [Bool.eq_iff_iff]
 simp
theorem Ze2 {i j : Str} : decide (V.str i = V.str j) = (i == j) := by
 rw [Bool.eq_iff_iff]
 simp
theorem Ze3 {i j : Array UInt8} : decide (V.byt i = V.byt j) = (i.toList == j.toList) := by
 rw [Bool.eq_iff_iff]
 cases i
 cases j
 simp
section
variable {X : Cx} {a b c : Expr} {ta tb tc : TE} {pos : Pos}
theorem ZH {pins : List (Addr × Obj)} {σ : St} {H : Hp} {s : Shared} {Q : VK} {k k' : Bool} (I : Inv X pins σ H s) (q : Q (.bl k) H) (e : k = k') : EP X pins σ Q (.bool k') s := by
 subst e
 exact ⟨.bl k, H, I, rfl, q⟩
theorem Xc : OpR X (compareOp .Eq) rEq := by
 intro pins s σ H x y v u Q I rx ry h
 obtain ⟨hs, q⟩ := h
 cases x with
 | non =>
  cases rx
  cases y with
  | non => cases ry; exact PySem.EqNone.eq_none_none (ZH I q (by simp))
  | bl j => cases ry; exact PySem.EqNone.eq_none_bool (ZH I q (by simp))
  | int j => obtain ⟨t', rfl⟩ := ry; exact PySem.EqNone.eq_none_int (ZH I q (by simp))
  | str j => obtain ⟨t', rfl⟩ := ry; exact PySem.EqNone.eq_none_str (ZH I q (by simp))
  | _ => exact absurd (show false = true from hs) Bool.false_ne_true
 | bl i =>
  cases rx
  cases y with
  | non => cases ry; exact PySem.EqNone.eq_bool_none (ZH I q (by simp))
  | bl j => cases ry; exact eq_bool (ZH I q ZgY)
  | str j => obtain ⟨t', rfl⟩ := ry; exact PySem.EqMixed.eq_bool_str (ZH I q (by simp))
  | _ => exact absurd (show false = true from hs) Bool.false_ne_true
 | int i =>
  obtain ⟨t, rfl⟩ := rx
  cases y with
  | non => cases ry; exact PySem.EqNone.eq_int_none (ZH I q (by simp))
  | int j => obtain ⟨t', rfl⟩ := ry; exact eq_int (ZH I q Zb8)
  | str j => obtain ⟨t', rfl⟩ := ry; exact PySem.EqMixed.eq_int_str (ZH I q (by simp))
  | _ => exact absurd (show false = true from hs) Bool.false_ne_true
 | str i =>
  obtain ⟨t, rfl⟩ := rx
  cases y with
  | non => cases ry; exact PySem.EqNone.eq_str_none (ZH I q (by simp))
  | bl j => cases ry; exact PySem.EqMixed.eq_str_bool (ZH I q (by simp))
  | int j => obtain ⟨t', rfl⟩ := ry; exact PySem.EqMixed.eq_str_int (ZH I q (by simp))
  | str j => obtain ⟨t', rfl⟩ := ry; exact eq_str (ZH I q Ze2)
  | _ => exact absurd (show false = true from hs) Bool.false_ne_true
 | byt i =>
  obtain ⟨t, rfl⟩ := rx
  cases y with
  | byt j => obtain ⟨t', rfl⟩ := ry; exact PySem.W.eq_bytes (ZH I q Ze3)
  | _ => exact absurd (show false = true from hs) Bool.false_ne_true
 | _ => cases y <;> exact absurd (show false = true from hs) Bool.false_ne_true
theorem Zej : OpR X (compareOp .NotEq) rNe := by
 intro pins s σ H x y v u Q I rx ry h
 obtain ⟨hs, q⟩ := h
 cases x with
 | non =>
  cases rx
  cases y with
  | non => cases ry; exact PySem.EqNone.ne_none_none (ZH I q (by simp))
  | bl j => cases ry; exact PySem.EqNone.ne_none_bool (ZH I q (by simp))
  | int j => obtain ⟨t', rfl⟩ := ry; exact PySem.EqNone.ne_none_int (ZH I q (by simp))
  | str j => obtain ⟨t', rfl⟩ := ry; exact PySem.EqNone.ne_none_str (ZH I q (by simp))
  | _ => exact absurd (show false = true from hs) Bool.false_ne_true
 | bl i =>
  cases rx
  cases y with
  | non => cases ry; exact PySem.EqNone.ne_bool_none (ZH I q (by simp))
  | bl j => cases ry; exact ne_bool (ZH I q (congrArg not ZgY))
  | str j => obtain ⟨t', rfl⟩ := ry; exact PySem.EqMixed.ne_bool_str (ZH I q (by simp))
  | _ => exact absurd (show false = true from hs) Bool.false_ne_true
 | int i =>
  obtain ⟨t, rfl⟩ := rx
  cases y with
  | non => cases ry; exact PySem.EqNone.ne_int_none (ZH I q (by simp))
  | int j => obtain ⟨t', rfl⟩ := ry; exact ne_int (ZH I q (congrArg not Zb8))
  | str j => obtain ⟨t', rfl⟩ := ry; exact PySem.EqMixed.ne_int_str (ZH I q (by simp))
  | _ => exact absurd (show false = true from hs) Bool.false_ne_true
 | str i =>
  obtain ⟨t, rfl⟩ := rx
  cases y with
  | non => cases ry; exact PySem.EqNone.ne_str_none (ZH I q (by simp))
  | bl j => cases ry; exact PySem.EqMixed.ne_str_bool (ZH I q (by simp))
  | int j => obtain ⟨t', rfl⟩ := ry; exact PySem.EqMixed.ne_str_int (ZH I q (by simp))
  | str j => obtain ⟨t', rfl⟩ := ry; exact ne_str (ZH I q (congrArg not Ze2))
  | _ => exact absurd (show false = true from hs) Bool.false_ne_true
 | byt i =>
  obtain ⟨t, rfl⟩ := rx
  cases y with
  | byt j => obtain ⟨t', rfl⟩ := ry; exact PySem.W.ne_bytes (ZH I q (congrArg not Ze3))
  | _ => exact absurd (show false = true from hs) Bool.false_ne_true
 | _ => cases y <;> exact absurd (show false = true from hs) Bool.false_ne_true
theorem Zhy : OpR X (compareOp .Lt) (rI0 fun i j => .bl (decide (i < j))) := Zkt fun _ _ _ _ _ _ _ q => lt_int q
theorem Jh : OpR X (compareOp .Gt) (rI0 fun i j => .bl (decide (j < i))) := Zkt fun _ _ _ _ _ _ _ q => gt_int q
theorem ZiH : OpR X (compareOp .Is) (fun x y H Q => y = .non ∧ Q (.bl (decide (x = .non))) H) := by
 intro pins s σ H x y v u Q I rx ry h
 obtain ⟨rfl, q⟩ := h
 cases ry
 refine is_none_gen (ZH I q ?_)
 cases x <;> first
  | (cases rx; rfl)
  | (obtain ⟨t, rfl⟩ := rx; rfl)
theorem Zx (b : Expr) {op : CmpOp} (h : op ≠ .In := by decide) (h2 : op ≠ .NotIn := by decide) : behindInMarks op b = false := by
 have e1 : (op == CmpOp.In) = false := by cases op <;> first | rfl | exact absurd rfl h
 have e2 : (op == CmpOp.NotIn) = false := by cases op <;> first | rfl | exact absurd rfl h2
 cases b <;> simp [behindInMarks, e1, e2]
theorem YB {op : CmpOp} {r : R2} (ho : OpR X (compareOp op) r) (ha : PE X a ta) (hb : PE X b tb) (hm : behindInMarks op b = false) : PE X (.Compare a [op] [b] pos) (tOp r ta tb) := by
 intro pins s σ H Q I h
 exact wpAny_Compare1 (Zke ha hb I h fun v u s2 x y H2 I2 rx ry q => ho pins s2 σ H2 x y v u Q I2 rx ry q) hm
def ZjH (t : TE) : TT := fun σ H Q => t σ H fun x H' => ∃ k, x = .bl k ∧ Q k H'
theorem Zs {op : CmpOp} {r : R2} (ho : OpR X (compareOp op) r) (ha : PE X a ta) (hb : PE X b tb) (hm : behindInMarks op b = false) : PT X (.Compare a [op] [b] pos) (ZjH (tOp r ta tb)) := by
 intro pins s σ H Q I h
 refine wpAny_isTrue_Compare1 (thn (ha pins s σ H _ I h) fun v s1 ⟨x, H1, I1, r1, q1⟩ => thn (hb pins s1 σ H1 _ I1 q1) fun u s2 ⟨y, H2, I2, r2, q2⟩ =>
  thn (ho pins s2 σ H2 x y v u _ I2 r1 r2 q2) fun c s3 ⟨z, H3, I3, r3, k, e, q3⟩ => ?_) hm
 subst e
 cases r3
 exact wpAny_truthy_bool ⟨H3, I3, q3⟩
def Zk1 (K : PySem.W.Frag) (x : V) (H : Hp) (k : Bool) : Prop :=
 match x with
 | .non => k = false
 | .bl b => k = b
 | .int i => k = (i != 0)
 | .str y => y.length ≤ sizeLine ∧ k = ((y.length : Int) != 0)
 | .byt y => y.size ≤ sizeLine ∧ k = ((y.size : Int) != 0)
 | .ref p => (∃ xs, SqL K H p xs ∧ k = !xs.isEmpty) ∨ (∃ xs, SqT K H p xs ∧ k = !xs.isEmpty) ∨ ∃ kvs, H p = some (.dK kvs) ∧ k = !kvs.isEmpty
 | _ => False
theorem Zdf {κ : Type} {kvs : List (κ × V)} {vs : List (κ × Value)} (r : KV kvs vs) : (!vs.isEmpty) = !kvs.isEmpty := by
 cases r <;> rfl
theorem JU {xs : List V} {its : List Value} (r : Vals xs its) : (!its.toArray.isEmpty) = !xs.isEmpty := by
 cases r <;> simp
theorem JQ : (sizeLine : Nat) < 2 ^ 63 := by rw [sizeLine_eq]; decide
theorem Zkm : Zk2 X (fun x H Q => ∃ k, Zk1 X.K x H k ∧ Q k H) := by
 intro pins s σ H x v Q I rx h
 obtain ⟨k, e, q⟩ := h
 have hl := JQ
 have hs : sizeLine = 16777216 := sizeLine_eq
 cases x with
 | non =>
  cases rx
  have e' : k = false := e
  subst e'
  exact truthy_none ⟨H, I, q⟩
 | bl b =>
  cases rx
  have e' : k = b := e
  subst e'
  exact wpAny_truthy_bool ⟨H, I, q⟩
 | int i =>
  obtain ⟨t, rfl⟩ := rx
  have e' : k = (i != 0) := e
  subst e'
  exact PySem.P.truthy_int ⟨H, I, q⟩
 | str y =>
  obtain ⟨t, rfl⟩ := rx
  obtain ⟨hy, e'⟩ : y.length ≤ sizeLine ∧ k = ((y.length : Int) != 0) := e
  subst e'
  exact PySem.P.truthy_str (by omega) ⟨H, I.tok _, q⟩
 | byt y =>
  obtain ⟨t, rfl⟩ := rx
  obtain ⟨hy, e'⟩ : y.size ≤ sizeLine ∧ k = ((y.size : Int) != 0) := e
  subst e'
  exact PySem.W.truthy_bytes (by omega) ⟨H, I.tok _, q⟩
 | ref p =>
  cases rx
  have e' : (∃ xs, SqL X.K H p xs ∧ k = !xs.isEmpty) ∨ (∃ xs, SqT X.K H p xs ∧ k = !xs.isEmpty) ∨ ∃ kvs, H p = some (.dK kvs) ∧ k = !kvs.isEmpty := e
  rcases e' with ⟨xs, hx, e'⟩ | ⟨xs, hx, e'⟩ | ⟨kvs, hx, e'⟩
  ·subst e'
   obtain ⟨its, r, pl, hz⟩ := I.list hx
   have hlen := r.length
   exact wpAny_truthy_list pl.isList (by simp only [List.size_toArray]; omega) ⟨H, I.tok _, by rw [JU r]; exact q⟩
  ·subst e'
   obtain ⟨its, r, pl, hz⟩ := I.tuple hx
   have hlen := r.length
   exact truthy_tuple pl (by simp only [List.size_toArray]; omega) ⟨H, I.tok _, by rw [JU r]; exact q⟩
  ·subst e'
   obtain ⟨hz, hS, vs, r, m⟩ : kvs.length ≤ sizeLine ∧ (p == sysModules) = false ∧ ∃ vs, KV kvs vs ∧ s.heap.DictOf (Zp X.prog X.w) p vs := I.hok p _ hx
   have hlen : kvs.length = vs.length := Paired.length r
   exact wpAny_truthy_dict hS m (by omega) ⟨H, I.tok _, by rw [Zdf r]; exact q⟩
 | _ => exact (show False from e).elim
theorem Z8 : OpR X (binaryOp .Add) (fun x y H Q => ∃ i j, x = .str i ∧ y = .str j ∧ i.length + j.length ≤ sizeLine ∧ Q (.str (i ++ j)) H) := by
 intro pins s σ H x y v u Q I rx ry h
 obtain ⟨i, j, rfl, rfl, hz, q⟩ := h
 obtain ⟨t, rfl⟩ := rx
 obtain ⟨t', rfl⟩ := ry
 exact add_str (fun t' tk => ⟨.str (i ++ j), H, I.tok _, ⟨_, rfl⟩, q⟩) hz
theorem Xt {x : V} {us : List Value} (r : Vals [x] us) : ∃ u, us = [u] ∧ RelV x u := by
 cases r with
 | cons r1 r2 => cases r2; exact ⟨_, rfl, r1⟩
theorem Zfo {x y : V} {us : List Value} (r : Vals [x, y] us) : ∃ u w', us = [u, w'] ∧ RelV x u ∧ RelV y w' := by
 cases r with
 | cons r1 r2 =>
  cases r2 with
  | cons r3 r4 => cases r4; exact ⟨_, _, rfl, r1, r3⟩
theorem Xq (hc : X.calm = true) : CallR X (.builtin "min") (fun xs H Q => ∃ i j, xs = [.int i, .int j] ∧ Q (.int (if j < i then j else i)) H) := by
 intro pins s σ H xs us Q I r h
 obtain ⟨i, j, rfl, q⟩ := h
 obtain ⟨u, w', rfl, ⟨t, rfl⟩, ⟨t', rfl⟩⟩ := Zfo r
 refine min_two_ints (I.ok.hd hc) fun h' tk k => ⟨_, H, I.kept k, ?_, q⟩
 by_cases hj : j < i
 ·rw [if_pos hj, if_pos hj]; exact ⟨_, rfl⟩
 ·rw [if_neg hj, if_neg hj]; exact ⟨_, rfl⟩
theorem Zfb : CallR X (.type "int") (fun xs H Q => (∃ i, xs = [.int i] ∧ Q (.int i) H) ∨ ∃ k, xs = [.bl k] ∧ Q (.int (if k then 1 else 0)) H) := by
 intro pins s σ H xs us Q I r h
 rcases h with ⟨i, rfl, q⟩ | ⟨k, rfl, q⟩
 ·obtain ⟨u, rfl, t, rfl⟩ := Xt r
  exact call_int_int ⟨.int i, H, I, ⟨_, rfl⟩, q⟩
 ·obtain ⟨u, rfl, r1⟩ := Xt r
  cases r1
  exact call_int_bool ⟨.int (if k then 1 else 0), H, I.tok _, ⟨_, rfl⟩, q⟩
def Zia (K : PySem.W.Frag) (x : V) (H : Hp) (n : Nat) : Prop :=
 match x with
 | .str y => y.length ≤ sizeLine ∧ n = y.length
 | .byt y => y.size ≤ sizeLine ∧ n = y.size
 | .ref p => (∃ xs, SqL K H p xs ∧ n = xs.length) ∨ ∃ xs, SqT K H p xs ∧ n = xs.length
 | _ => False
theorem Zo : CallR X (.builtin "len") (fun xs H Q => ∃ x n, xs = [x] ∧ Zia X.K x H n ∧ Q (.int n) H) := by
 intro pins s σ H xs us Q I r h
 obtain ⟨x, n, rfl, e, q⟩ := h
 obtain ⟨u, rfl, rx⟩ := Xt r
 have hl := JQ
 have hs : sizeLine = 16777216 := sizeLine_eq
 cases x with
 | str y =>
  obtain ⟨t, rfl⟩ := rx
  obtain ⟨hy, e'⟩ : y.length ≤ sizeLine ∧ n = y.length := e
  subst e'
  exact len_str (by omega) ⟨.int _, H, I.tok _, ⟨_, rfl⟩, q⟩
 | byt y =>
  obtain ⟨t, rfl⟩ := rx
  obtain ⟨hy, e'⟩ : y.size ≤ sizeLine ∧ n = y.size := e
  subst e'
  exact PySem.W.len_bytes (by omega) ⟨.int _, H, I.tok _, ⟨_, rfl⟩, q⟩
 | ref p =>
  cases rx
  have e' : (∃ xs, SqL X.K H p xs ∧ n = xs.length) ∨ ∃ xs, SqT X.K H p xs ∧ n = xs.length := e
  rcases e' with ⟨xs, hx, e'⟩ | ⟨xs, hx, e'⟩
  ·subst e'
   obtain ⟨its, r', pl, hz⟩ := I.list hx
   have hlen := r'.length
   exact Calls.call_len_list pl.isList (by simp only [List.size_toArray]; omega) ⟨.int xs.length, H, I.tok _, ⟨_, by simp only [List.size_toArray]; rw [hlen]⟩, q⟩
  ·subst e'
   obtain ⟨its, r', pl, hz⟩ := I.tuple hx
   have hlen := r'.length
   exact len_tuple pl (by simp only [List.size_toArray]; omega) ⟨.int xs.length, H, I.tok _, ⟨_, by simp only [List.size_toArray]; rw [hlen]⟩, q⟩
 | _ => exact (show False from e).elim
end
structure ObjM (h : Heap) (x dx C : Addr) (mA : Str → Option Value) : Prop where
 obj : h.get? x = some (PySem.W.instObj C dx)
 ns : h.Ns1 dx mA
 ne : dx ≠ x
theorem ZeE {h : Heap} {dx : Addr} {mA : Str → Option Value} (n : h.Ns1 dx mA) : ∃ od, h.get? dx = some od ∧ ∀ name, PySem.W.lookIn name od = some (mA name) := by
 obtain ⟨o, es, ep, ho, hd, hk, _, hm⟩ := n
 refine ⟨o, ho, fun name => ?_⟩
 have e := hm name
 unfold nsFind findBy at e
 rw [← Array.find?_toList] at e
 unfold PySem.W.lookIn
 rw [hd]
 dsimp only
 split
 ·rename_i y q
  rw [q] at e
  exact congrArg some e
 ·rename_i q
  rw [q] at e
  have a : es.toList.any (·.refKey) = false := by
   rw [List.any_eq_false]
   intro y hy
   obtain ⟨z, t, hkey⟩ := hk y (Array.mem_toList_iff.mp hy)
   simp [DictEntry.refKey, hkey]
  have a' : ¬ es.toList.any (·.refKey) = true := by rw [a]; exact Bool.false_ne_true
  rw [if_neg a']
  exact congrArg some e
theorem ObjM.look {h : Heap} {x dx C : Addr} {mA : Str → Option Value} (I : ObjM h x dx C mA) : ∃ od, PySem.W.InstAt h x (PySem.W.instObj C dx) C (some od) ∧ ∀ name, PySem.W.lookIn name od = some (mA name) :=
 let ⟨od, ho, hl⟩ := ZeE I.ns
 ⟨od, ⟨I.obj, rfl, rfl, ho⟩, hl⟩
section
variable {prog : Program} {w : World} {A : Around} {E : Value → Shared → Prop} {s : Shared} {K : PySem.W.Frag} {x dx C f : Addr} {mA : Str → Option Value} {name : Str} {v : Value}
end
theorem RelO.some_of {v : V} {o : Option Value} (r : RelO (some v) o) : ∃ u, o = some u ∧ RelV v u := by
 cases o with
 | none => exact (show False from r).elim
 | some u => exact ⟨u, rfl, r⟩
section
variable {P : Program} {w : World} {H H' : Hp} {h h' : Heap} {a C dx : Addr} {fs fs' : List (Str × V)}
theorem ZhW (hok : HOk P w H h) (e : H a = some (.ins C dx fs)) : ∃ mA, ObjM h a dx C mA ∧ (∀ f, RelO (fs.lookup f) (mA f)) ∧ PySem.Within mA (fs.map (·.1)) ∧ fs.length ≤ 1000 ∧ H dx = some (.own a) := by
 obtain ⟨d, z, ne, ob, mA, n, r, q⟩ := (show ObjOk P w H h a (.ins C dx fs) from hok a _ e)
 exact ⟨mA, ⟨ob, n, ne⟩, r, q, z, d⟩
end
structure Cls (K : PySem.W.Frag) (C : Addr) : Prop where
 pg : PySem.W.plainGet K C Str.empty = true
 hd : PySem.W.hasDictIn K C = true
 po : PySem.W.plainOver K C = true
 sa : PySem.W.findIn K (.ref C) "__setattr__" = some (some (.builtin "object.__setattr__"))
theorem Cls.get {K : PySem.W.Frag} {C : Addr} (c : Cls K C) (f : Str) : PySem.W.plainGet K C f = true := c.pg
section
variable {X : Cx} {pins : List (Addr × Obj)} {σ : St} {H : Hp} {s : Shared} {a C dx : Addr} {fs : List (Str × V)} {f : Str} {v : V} {A : Around} {E : Value → Shared → Prop}
end
section
variable {X : Cx} {o e value : Expr} {f : Str} {pos pos' tpos : Pos} {ta tv : TE}
end
section
variable {X : Cx} {pins : List (Addr × Obj)} {σ : St} {H : Hp} {s : Shared} {A : Around} {E : Value → Shared → Prop} {Q : Value → Shared → Prop} {c : Value} {b : Bool}
inductive ZcT (K : PySem.W.Frag) (H : Hp) : V → Value → Prop where
 | non : ZcT K H .non (.type "NoneType")
 | bl (x : Bool) : ZcT K H (.bl x) (.type "bool")
 | int (i : Int) : ZcT K H (.int i) (.type "int")
 | str (x : Str) : ZcT K H (.str x) (.type "str")
 | flt (x : UInt64) : ZcT K H (.flt x) (.type "float")
 | lst {a : Addr} {xs : List V} (e : H a = some (.lst xs)) : ZcT K H (.ref a) (.type "list")
 | frz {a : Addr} {o : Obj} {xs : List V} (e : H a = some (.frz o (.lst xs))) : ZcT K H (.ref a) (.type "list")
 | tup {a : Addr} {xs : List V} (e : H a = some (.tup xs)) : ZcT K H (.ref a) (.type "tuple")
 | dK {a : Addr} {kvs : List (Key × V)} (e : H a = some (.dK kvs)) : ZcT K H (.ref a) (.type "dict")
 | dT {a : Addr} {kvs : List (List Key × V)} (e : H a = some (.dT kvs)) : ZcT K H (.ref a) (.type "dict")
 | ins {a C dx : Addr} {fs : List (Str × V)} (e : H a = some (.ins C dx fs)) (cl : Cls K C) (ha : PySem.W.findIn K (.ref C) "__class__" = some (some (.builtin "object.__class__")))
   (hn : PySem.W.specialIn K (.builtin "object.__class__") "__get__" = some (some (.builtin "getset_descriptor.__get__"))) (htk : PySem.W.takesIn K (.builtin "object.__class__") = some true)
   (hm : PySem.W.mroIn K C (.type "object") = some true) : ZcT K H (.ref a) (.ref C)
theorem ZeO {x : V} {u t : Value} (I : Inv X pins σ H s) (rx : RelV x u) (ty : ZcT X.K H x t) (e : PySem.W.kitOne X.K t c = some b) (h : ∀ tk, Q (.bool b) { s with toks := tk }) :
  wpAny (model X.prog X.w) A (call (.builtin "isinstance") [u, c]) Q E s := by
 cases ty with
 | non => cases (show u = Value.none from rx); exact PySem.W.kia_one PySem.W.kitx_none I.kIn True.intro e (fun z => nomatch z) h
 | bl y => cases (show u = Value.bool y from rx); exact PySem.W.kia_one PySem.W.kitx_bool I.kIn True.intro e (fun z => nomatch z) h
 | int i => obtain ⟨t, q⟩ := (show ∃ t, u = Value.int i t from rx); cases q; exact PySem.W.kia_one PySem.W.kitx_int I.kIn True.intro e (fun z => nomatch z) h
 | str y => obtain ⟨t, q⟩ := (show ∃ t, u = Value.str y t from rx); cases q; exact PySem.W.kia_one PySem.W.kitx_str I.kIn True.intro e (fun z => nomatch z) h
 | flt y => obtain ⟨t, q⟩ := (show ∃ t, u = Value.float y t from rx); cases q; exact PySem.W.kia_one PySem.W.kitx_float I.kIn True.intro e (fun z => nomatch z) h
 | @lst a xs ea =>
  cases (show u = Value.ref a from rx)
  obtain ⟨_, _, n, _, h1⟩ := (show ObjOk X.prog X.w H s.heap a (.lst xs) from I.hok a _ ea)
  exact PySem.W.kia_one PySem.W.kitx_list I.kIn ⟨_, h1, rfl⟩ e (fun z => nomatch z) h
 | @frz a ob xs ea =>
  cases (show u = Value.ref a from rx)
  obtain ⟨_, _, _, n, _, h1⟩ := (show ObjOk X.prog X.w H s.heap a (.frz ob (.lst xs)) from I.hok a _ ea)
  exact PySem.W.kia_one PySem.W.kitx_list I.kIn ⟨_, h1, rfl⟩ e (fun z => nomatch z) h
 | @tup a xs ea =>
  cases (show u = Value.ref a from rx)
  obtain ⟨_, _, _, p, _⟩ := (show ObjOk X.prog X.w H s.heap a (.tup xs) from I.hok a _ ea)
  obtain ⟨o, h1, h2, _⟩ := p
  exact PySem.W.kia_one PySem.W.kitx_tuple I.kIn ⟨o, h1, h2⟩ e (fun z => nomatch z) h
 | @dK a kvs ea =>
  cases (show u = Value.ref a from rx)
  obtain ⟨_, _, vs, _, p⟩ := (show ObjOk X.prog X.w H s.heap a (.dK kvs) from I.hok a _ ea)
  obtain ⟨o, es, ep, h1, h2, _⟩ := p
  exact PySem.W.kia_one PySem.W.kitx_dict I.kIn ⟨o, h1, h2.1⟩ e (fun z => nomatch z) h
 | @dT a kvs ea =>
  cases (show u = Value.ref a from rx)
  obtain ⟨_, _, xs, _, o, es, ep, h1, h2, _⟩ := (show ObjOk X.prog X.w H s.heap a (.dT kvs) from I.hok a _ ea)
  exact PySem.W.kia_one PySem.W.kitx_dict I.kIn ⟨o, h1, h2.1⟩ e (fun z => nomatch z) h
 | @ins a C dx fs ea cl ha hn htk hm =>
  cases (show u = Value.ref a from rx)
  obtain ⟨mA, O, _⟩ := ZhW I.hok ea
  obtain ⟨od, J, _⟩ := O.look
  exact PySem.W.kia_one (PySem.W.kitx_own (cl.get _) cl.hd ha hn htk hm) I.kIn J e (fun z => nomatch z) h
end
structure Room (k : Nat) (A : Around) : Prop where
 hd : A.handled = none
 dp : A.depth + 3 * k + 5 < recursionLimit
 un : A.units + 16 * k + 200 < cLine
theorem Room.mono {j k : Nat} {A : Around} (r : Room k A) (h : j ≤ k) : Room j A := ⟨r.hd, by have := r.dp; omega, by have := r.un; omega⟩
theorem Room.deeper {k : Nat} {A : Around} (r : Room (k + 1) A) (env : Env) : Room k (A.deeper env) :=
 ⟨r.hd, by have := r.dp; show A.depth + 1 + 3 * k + 5 < _; omega, by have := r.un; show A.units + 3 + 16 * k + 200 < _; omega⟩
theorem Room.depth {k : Nat} {A : Around} (r : Room k A) : A.depth < recursionLimit := by have := r.dp; omega
theorem Room.units {k : Nat} {A : Around} (r : Room k A) : A.units + 64 < cLine := by have := r.un; omega
def ZkD : TA := fun _ H Q => Q [] H
def ZjO (ta : TE) (tr : TA) : TA := fun σ H Q => ta σ H fun x H1 => tr σ H1 fun xs H2 => Q (x :: xs) H2
section
variable {X : Cx} {e : Expr} {es : List Expr} {te : TE} {t : TA} {pos : Pos}
theorem Zf : PA X [] ZkD := fun _ _ _ _ H Q I h => Calls.spliced_nil ⟨[], H, I, .nil, h⟩
theorem Za (ha : PE X e te) (hr : PA X es t) (hs : starEach (e :: es) X.env = (false, eval e X.env) :: starEach es X.env := by rfl) : PA X (e :: es) (ZjO te t) := by
 intro pos pins s σ H Q I h
 rw [hs]
 show wpAny _ _ (spliced ((false, eval e X.env) :: backTo pos (starEach es X.env))) _ _ s
 refine Calls.spliced_cons (thn (ha pins s σ H _ I h) fun u s1 ⟨x, H1, I1, r1, q1⟩ => ?_)
 exact thn (hr pos pins s1 σ H1 _ I1 q1) fun us s2 ⟨xs, H2, I2, r2, q2⟩ => ⟨x :: xs, H2, I2, .cons r1 r2, q2⟩
def Zkz (t : TA) : TE := fun σ H Q => t σ H fun xs H1 => xs.length ≤ sizeLine ∧ ∀ p, H1 p = none → Q (.ref p) (upd H1 p (.tup xs))
def ZkE (t : TA) : TE := fun σ H Q => t σ H fun xs H1 => xs.length ≤ sizeLine ∧ ∀ p, H1 p = none → Q (.ref p) (upd H1 p (.lst xs))
theorem Jc {x1} (h : PA X es t) : PE X (.Tuple es x1 pos) (Zkz t) := by
 intro pins s σ H Q I hq
 refine wpAny_Tuple_spliced (thn (h pos pins s σ H _ I hq) fun us s1 ⟨xs, H1, I1, r, z, q⟩ => ⟨by rw [← r.length]; exact z, ?_⟩)
 have hf : H1 s1.heap.objs.size = none := I1.hok.fresh (Nat.le_refl _)
 refine ⟨.ref s1.heap.objs.size, upd H1 s1.heap.objs.size (.tup xs), I1.laid (t' := s1.toks) (fun b u e => Heap.get?_push_of_some _ e) (Nat.le_refl _) ?_, rfl, q _ hf⟩
 exact ⟨z, us, r, ⟨_, Heap.get?_push_size _ rfl, rfl, _, rfl⟩, Zcy rfl rfl⟩
theorem ZU (h : PA X es t) : PE X (.List es pos) (ZkE t) := by
 intro pins s σ H Q I hq
 refine wpAny_List_spliced (thn (h pos pins s σ H _ I hq) fun us s1 ⟨xs, H1, I1, r, z, q⟩ => ⟨by rw [← r.length]; exact z, ?_⟩)
 have hf : H1 s1.heap.objs.size = none := I1.hok.fresh (Nat.le_refl _)
 refine ⟨.ref s1.heap.objs.size, upd H1 s1.heap.objs.size (.lst xs), I1.laid (t' := s1.toks) (fun b u e => Heap.get?_push_of_some _ e) (Nat.le_refl _) ?_, rfl, q _ hf⟩
 exact ⟨z, us, 0, r, Heap.get?_push_size _ rfl⟩
end
abbrev Sp := List V → Hp → VK → XK → Prop
abbrev CXT := List Env → Hp → Shared → XK → Value → Shared → Prop
structure Zjy (P : Program) (w : World) (K : PySem.W.Frag) (mg : Str → Option Value) (base : Heap) (A : Around) (outer : List Env) (s : Shared) (H : Hp) : Prop where
 frames : A.frames = some outer
 mod : Mod K mg base
 bs : ∀ b o, base.get? b = some o → s.heap.get? b = some o ∧ H b = none
 bsz : base.objs.size ≤ s.heap.objs.size
 funs : s.heap.FunFrames base outer
 frf : ∀ b ∈ frs outer, H b = none
 hok : HOk P w H s.heap
 bare : AllBare s.gens
def CE (outer : List Env) (P : Program) (w : World) (H : Hp) (s : Shared) (Q : VK) (u : Value) (s' : Shared) : Prop :=
 ∃ v H', s'.os = s.os ∧ AllBare s'.gens ∧ Un (frs outer) [] H H' s.heap s'.heap ∧ HOk P w H' s'.heap ∧ RelV v u ∧ Q v H'
def CR (CX : CXT) (outer : List Env) (P : Program) (w : World) (H : Hp) (s : Shared) (Q : VK) (E : XK) (r : Result) (s' : Shared) : Prop :=
 match r with
 | .ok (.ret u) => CE outer P w H s Q u s'
 | .ok _ => False
 | .error e => CX outer H s E e s'
structure FnOk (P : Program) (w : World) (K : PySem.W.Frag) (mg : Str → Option Value) (base : Heap) (CX : CXT) (k : Nat) (f : Addr) (fd : FuncData) (ps : List Str) (sp : Sp) : Prop where
 len : ∀ vs H Q E, sp vs H Q E → vs.length = ps.length
 run : ∀ (A : Around) (outer : List Env) (s : Shared) (H : Hp) (args : Args) (us : List Value) (vs : List V) (Q : VK) (E : XK), Room k A → Zjy P w K mg base A outer s H → BindsTo s fd args (ps.zip us) → Vals vs us → sp vs H Q E →
  codeAny (model P w) A (.call (.ref f) args) (CR CX outer P w H s Q E) s
theorem FnOk.mono {P : Program} {w : World} {K : PySem.W.Frag} {mg : Str → Option Value} {base : Heap} {CX : CXT} {j k : Nat} {f : Addr} {fd : FuncData} {ps : List Str} {sp : Sp} (F : FnOk P w K mg base CX j f fd ps sp) (h : j ≤ k) :
  FnOk P w K mg base CX k f fd ps sp := ⟨F.len, fun A outer s H args us vs Q E hr => F.run A outer s H args us vs Q E (hr.mono h)⟩
section
variable {X : Cx} {pins : List (Addr × Obj)} {σ : St} {H : Hp} {s s' : Shared}
theorem Inv.env0 (I : Inv X pins σ H s) : Zjy X.prog X.w X.K X.mg X.base X.A X.stack s H :=
 ⟨I.ok.frames, I.ok.mod, I.bs, Nat.le_trans I.ok.bsz I.sz, I.stack, I.stkFree, I.hok, I.bare⟩
theorem Inv.after {Q : VK} {u : Value} (I : Inv X pins σ H s) (h : CE X.stack X.prog X.w H s Q u s') : EP X pins σ Q u s' := by
 obtain ⟨v, H', os, bare, un, hok, r, q⟩ := h
 obtain ⟨hh, g, d, t, os'⟩ := s'
 obtain rfl : os' = s.os := os
 exact ⟨v, H', I.call (h' := hh) (g' := g) (d' := d) (t' := t) (ch := []) un hok bare (fun b z => absurd z (by simp)), r, q⟩
end
def Zim (sp : Sp) (dvs : List V) (E : XK) (t : TA) : TE := fun σ H Q => t σ H fun vs H1 => sp (vs ++ dvs) H1 Q E
def Binds (K : PySem.W.Frag) (fd : FuncData) (ps : List Str) (ds : List Value) : Prop :=
 ∀ (s : Shared) (us : List Value), K.In s.heap → (us ++ ds).length = ps.length → BindsTo s fd ⟨us, []⟩ (ps.zip (us ++ ds))
theorem Binds.all {K : PySem.W.Frag} {fd : FuncData} {ps : List Str} (h : ∀ us : List Value, us.length = ps.length → bindArgs fd ⟨us, []⟩ = pure (ps.zip us)) : Binds K fd ps [] := fun s us _ hl => by
 rw [List.append_nil] at hl ⊢
 exact .of_eq (h us hl)
def Zfh (CX : CXT) (X : Cx) (E : XK) : Prop := ∀ (pins : List (Addr × Obj)) (σ : St) (H : Hp) (s : Shared) (e : Value) (s' : Shared), Inv X pins σ H s → CX X.stack H s E e s' → X.xe e s'
section
variable {X : Cx} {CX : CXT} {k : Nat} {f C : Addr} {fd : FuncData} {ps : List Str} {sp : Sp} {dvs : List V} {ds : List Value} {E : XK} {x m : Str} {p pos apos : Pos} {e o : Expr} {es : List Expr} {ta : TE} {t : TA}
theorem Zis {pins : List (Addr × Obj)} {σ : St} {H : Hp} {s : Shared} {Q : VK} {us : List Value} {vs : List V} (F : FnOk X.prog X.w X.K X.mg X.base CX k f fd ps sp) (hr : Room k X.A) (hb : Binds X.K fd ps ds) (hd : Vals dvs ds) (hx : Zfh CX X E)
  (I : Inv X pins σ H s) (r : Vals vs us) (h : sp (vs ++ dvs) H Q E) : wpAny (model X.prog X.w) X.A (call (.ref f) us) (EP X pins σ Q) X.xe s := by
 have r2 : Vals (vs ++ dvs) (us ++ ds) := r.append hd
 have hl : (us ++ ds).length = ps.length := by rw [← r2.length]; exact F.len _ _ _ _ h
 refine wpAny_call (codeAny_mono (F.run X.A X.stack s H ⟨us, []⟩ (us ++ ds) (vs ++ dvs) Q E hr I.env0 (hb s us I.kIn hl) r2 h) fun r s' hq => ?_)
 cases r with
 | error e => exact hx pins σ H s e s' I hq
 | ok fl =>
  cases fl with
  | ret u => exact I.after hq
  | next => exact False.elim hq
  | brk => exact False.elim hq
  | cont => exact False.elim hq
theorem Zhu (F : FnOk X.prog X.w X.K X.mg X.base CX k f fd ps sp) (hr : Room k X.A) (hg : Gl X x) (hm : X.mg x = some (.ref f)) (hk : PySem.W.keepIn X.K (.ref f) = true) (hb : Binds X.K fd ps ds) (hd : Vals dvs ds) (hx : Zfh CX X E)
  (ha : PA X (e :: es) t) (hdb : (x == ("__debug__" : Str)) = false := by decide) (he : starEach (e :: es) X.env = (false, eval e X.env) :: starEach es X.env := by rfl) (hpl : (backTo pos (starEach es X.env)).any (·.1) = false := by rfl) :
  PE X (.Call (.Name x p) (e :: es) [] pos) (Zim sp dvs E t) := by
 intro pins s σ H Q I h
 refine wpAny_Call_Name_kw (ZhM I hg hm ?_ hdb)
 refine PySem.W.callWith_K (h₀ := X.base) I.ok.mod.kin hk (thn (ha pos pins s σ H _ I h) fun us s1 ⟨vs, H1, I1, r, q⟩ => ⟨I1.kIn, ?_⟩) he hpl
 exact Zis F hr hb hd hx I1 r q
end
section
variable {X : Cx} {CX : CXT} {k : Nat} {f C : Addr} {fd : FuncData} {ps ks : List Str} {sp : Sp} {E : XK} {x m : Str} {p pos apos kpos : Pos} {e o : Expr} {es : List Expr} {kws : List Keyword} {te ta : TE} {t tk : TA} {nm : Option Str}
variable {g : List Value → List Value → List Value} {gV : List V → List V → List V}
end
structure Zt (N P : List Str) (sc : Scope) : Prop where
 kind : sc.kind = .function
 co : sc.isCoroutine = false
 gen : sc.isGenerator = false
 nd : N.Nodup
 pre : N.take P.length = P
 par : ∀ x ∈ P, sc.names.lookup x = some .local ∨ sc.names.lookup x = some .cell
 nofree : ∀ y ∈ sc.names, y.2 ≠ .free
theorem Zbx {kindOf : Str → Option NameKind} {x : Str} : ∀ {binds : List (Str × Value)} {m : Str → Option Value}, (∀ v, (x, v) ∉ binds) → bindL kindOf binds m x = m x
 | [], _, _ => rfl
 | (n, v) :: r, m, h => by
  unfold bindL
  rw [Zbx fun w hw => h w (List.mem_cons_of_mem _ hw)]
  split
  ·have : x ≠ n := by rintro rfl; exact h v List.mem_cons_self
   simp [this]
  ·rfl
theorem Zbz {kindOf : Str → Option NameKind} {x : Str} : ∀ {binds : List (Str × Value)} {m : Str → Option Value}, (∀ v, (x, v) ∉ binds) → bindC kindOf binds m x = m x
 | [], _, _ => rfl
 | (n, v) :: r, m, h => by
  unfold bindC
  rw [Zbz fun w hw => h w (List.mem_cons_of_mem _ hw)]
  split
  ·rfl
  ·have : x ≠ n := by rintro rfl; exact h v List.mem_cons_self
   simp [this]
theorem Zby {kindOf : Str → Option NameKind} {x : Str} {v : Value} : ∀ {P : List Str} {vs : List Value} {i : Nat} {m : Str → Option Value}, P.Nodup → P[i]? = some x → vs[i]? = some v → kindOf x = some .local →
  bindL kindOf (P.zip vs) m x = some v
 | [], _, _, _, _, h, _, _ => by simp at h
 | _ :: _, [], _, _, _, _, h, _ => by simp at h
 | p :: P, w :: vs, 0, m, nd, h1, h2, hk => by
  simp at h1 h2; subst h1; subst h2
  show bindL kindOf ((p, w) :: P.zip vs) m p = _
  unfold bindL
  rw [Zbx fun v hv => (List.nodup_cons.mp nd).1 (List.of_mem_zip hv).1, if_pos hk]
  simp
 | p :: P, w :: vs, i + 1, m, nd, h1, h2, hk => by
  show bindL kindOf ((p, w) :: P.zip vs) m x = _
  unfold bindL
  exact Zby (i := i) (List.nodup_cons.mp nd).2 (by simpa using h1) (by simpa using h2) hk
theorem ZbA {kindOf : Str → Option NameKind} {x : Str} {v : Value} : ∀ {P : List Str} {vs : List Value} {i : Nat} {m : Str → Option Value}, P.Nodup → P[i]? = some x → vs[i]? = some v → kindOf x ≠ some .local →
  bindC kindOf (P.zip vs) m x = some v
 | [], _, _, _, _, h, _, _ => by simp at h
 | _ :: _, [], _, _, _, _, h, _ => by simp at h
 | p :: P, w :: vs, 0, m, nd, h1, h2, hk => by
  simp at h1 h2; subst h1; subst h2
  show bindC kindOf ((p, w) :: P.zip vs) m p = _
  unfold bindC
  rw [Zbz fun v hv => (List.nodup_cons.mp nd).1 (List.of_mem_zip hv).1, if_neg hk]
  simp
 | p :: P, w :: vs, i + 1, m, nd, h1, h2, hk => by
  show bindC kindOf ((p, w) :: P.zip vs) m x = _
  unfold bindC
  exact ZbA (i := i) (List.nodup_cons.mp nd).2 (by simpa using h1) (by simpa using h2) hk
def start (N : List Str) (vs : List V) : St := vs.map some ++ List.replicate (N.length - vs.length) none
def Zh3 (CX : CXT) (P : Program) (w : World) (K : PySem.W.Frag) (mg : Str → Option Value) (base : Heap) (N : List Str) (qual : Str) (scope : Scope) (f : Addr) (cd : Value) (A : Around) (outer : List Env) (s : Shared) (H : Hp) (E : XK) : Cx where
 prog := P
 w := w
 K := K
 mg := mg
 base := base
 A := A.deeper (envOfC qual scope s.heap.objs.size f cd)
 N := N
 s₀ := s
 H₀ := H
 env := envOfC qual scope s.heap.objs.size f cd
 outer := outer
 stack := envOfC qual scope s.heap.objs.size f cd :: outer
 ex := []
 calm := true
 fn := fun _ => true
 pn := []
 xe := fun e s' => wpAny (model P w) (A.deeper (envOfC qual scope s.heap.objs.size f cd)) (leaving (envOfC qual scope s.heap.objs.size f cd) e) (fun _ s'' => CX outer H s E e s'') (fun e' s'' => CX outer H s E e' s'') s'
theorem ZcO {sc : Scope} {n : Nat} {x : Str} (h : sc.names.lookup x = some .cell) : ∃ c, (cellsFrom n sc.names []).lookup x = some c := by
 have q := PySem.W.cellsFrom_some sc.names n [] (.inl h)
 exact Option.isSome_iff_exists.mp q
theorem ZeP {CX : CXT} {P : Program} {w : World} {K : PySem.W.Frag} {mg : Str → Option Value} {base : Heap} {N ps : List Str} {qual : Str} {scope : Scope} {f : Addr} {cd : Value} {A : Around} {outer : List Env} {s s1 : Shared} {H : Hp} {E : XK} {us : List Value} {vs : List V}
  (S : Zt N ps scope) (hd : A.handled = none) (e0 : Zjy P w K mg base A outer s H) (hl : vs.length = ps.length) (r : Vals vs us)
  (x : InCallC s s.heap.objs.size (bindL (envOfC qual scope s.heap.objs.size f cd).kindOf (ps.zip us) fun _ => none) (cellsFrom (s.heap.objs.size + 1) scope.names []) (bindC (envOfC qual scope s.heap.objs.size f cd).kindOf (ps.zip us) fun _ => none) s1) :
  Inv (Zh3 CX P w K mg base N qual scope f cd A outer s H E) [] (start N vs) H s1 := by
 have hpl : ps.length ≤ N.length := by have := congrArg List.length S.pre; rw [List.length_take] at this; omega
 obtain ⟨h1, tk, rfl, hk⟩ := x.done
 have noA : ∀ b : Addr, b ∉ (Zh3 CX P w K mg base N qual scope f cd A outer s H E).ex := fun b z => absurd (show b ∈ ([] : List Addr) from z) (by simp)
 refine ⟨⟨e0.mod, S.kind, rfl, rfl, Nat.le_refl _, fun y z c h1 h2 => ?_, fun y hy => ?_, fun y c _ h => ?_, fun _ => hd, Around.frames_deeper e0.frames, .inr ⟨rfl, rfl⟩, fun b z => absurd z (noA b), e0.bs, e0.bsz, fun b _ _ => noA b, fun b z => absurd z (noA b), e0.funs, e0.frf⟩,
  rfl, e0.bare, Un.kept hk, ⟨_, x.toInCall.ns, fun i y v h1 h2 h3 => ?_⟩, fun y c h => ⟨_, x.cell y c h⟩, e0.hok.fresh (Nat.le_refl _), fun y c h => ?_, fun p hp => absurd (show p ∈ ([] : List (Addr × Obj)) from hp) (by simp), e0.hok.kept hk, ?_⟩
 ·exact name_of_addr x.apart (PySem.mem_of_lookup h1) (PySem.mem_of_lookup h2)
 ·have hy : scope.names.lookup y = some .cell ∨ scope.names.lookup y = some .free := hy
  rcases hy with hy | hy
  ·exact ZcO hy
  ·exact absurd rfl (S.nofree _ (PySem.mem_of_lookup hy))
 ·exact Nat.le_of_lt (x.above y c (PySem.mem_of_lookup h))
 ·have hi : i < vs.length := by
   unfold start at h2
   by_cases hi : i < vs.length
   ·exact hi
   ·rw [List.getElem?_append_right (by simpa using hi)] at h2
    rw [List.getElem?_replicate] at h2
    split at h2 <;> cases h2
  have ha : vs[i]? = some v := by
   unfold start at h2
   rw [List.getElem?_append_left (by simpa using hi), List.getElem?_map] at h2
   cases e : vs[i]? with
   | none => rw [e] at h2; cases h2
   | some a => rw [e] at h2; cases h2; rfl
  obtain ⟨u, hu, rv⟩ := r.get ha
  have hp : ps[i]? = some y := by
   rw [← S.pre, List.getElem?_take_of_lt (by omega)]; exact h1
  have ndP : ps.Nodup := by rw [← S.pre]; exact S.nd.sublist (List.take_sublist _ _)
  refine ⟨u, rv, ?_⟩
  rcases S.par y (List.mem_of_getElem? hp) with k | k
  ·exact .inl ⟨k, Zby ndP hp hu k⟩
  ·obtain ⟨c, e⟩ := ZcO (n := s.heap.objs.size + 1) k
   refine .inr ⟨.inl k, c, e, ?_⟩
   have q := x.cell y c e
   rw [ZbA ndP hp hu (by show scope.names.lookup y ≠ _; rw [k]; decide)] at q
   exact q
 ·exact e0.hok.fresh (Nat.le_of_lt (x.above y c (PySem.mem_of_lookup h)))
 ·unfold start
  show _ = N.length
  rw [List.length_append, List.length_map, List.length_replicate]
  omega
theorem Zj9 {CX : CXT} {P : Program} {w : World} {K : PySem.W.Frag} {mg : Str → Option Value} {base : Heap} {k : Nat} {f : Addr} {name qual : Str} {params : Arguments} {body : List Stmt} {scope : Scope} {dV kV doc pm cdv ct oc : Value} {an od : Option Addr}
  {osl : Array (Option Value)} {N ps : List Str} {sp : Sp} (lk : K.lookup f = some ⟨oc, od, .func (PySem.W.fnOf name qual params body scope dV kV doc pm an cdv ct), osl⟩) (hcd : PySem.W.codeIn K cdv qual = true) (S : Zt N ps scope)
  (len : ∀ vs H Q E, sp vs H Q E → vs.length = ps.length)
  (hbody : ∀ (A : Around) (outer : List Env) (s : Shared) (H : Hp) (vs : List V) (Q : VK) (E : XK), Room k (A.deeper (envOfC qual scope s.heap.objs.size f cdv)) → sp vs H Q E →
   ∃ t, PSs (Zh3 CX P w K mg base N qual scope f cdv A outer s H E) body t ∧ t { nx := fun _ H' => Q .non H', rt := Q } (start N vs) H) :
  FnOk P w K mg base CX (k + 1) f (PySem.W.fnOf name qual params body scope dV kV doc pm an cdv ct) ps sp := by
 refine ⟨len, fun A outer s H args us vs Q E hr e0 hb r hsp => ?_⟩
 have hl := len _ _ _ _ hsp
 have KX : K.In s.heap := e0.mod.kin.keeps fun b o e => (e0.bs b o e).1
 have lim : s.heap.NoLimit := e0.mod.nolimit.keeps fun b o e => (e0.bs b o e).1
 have hkind : ∀ y ∈ ps.zip us, scope.names.lookup y.1 = some .local ∨ (scope.names.lookup y.1 = some .cell ∧ ((cellsFrom (s.heap.objs.size + 1) scope.names []).lookup y.1).isSome = true) := fun ⟨n, v⟩ hy => by
  rcases S.par n (List.of_mem_zip hy).1 with q | q
  ·exact .inl q
  ·exact .inr ⟨q, PySem.W.cellsFrom_some _ _ _ (.inl q)⟩
 refine codeAny_call_function hr.depth (KX _ _ lk) rfl S.co S.gen rfl (PySem.W.codeRec_of KX hcd) (hb _ _ _ _ ?_)
 refine wpAny_newFunctionEnv_cells S.kind hkind fun env he s1 x => ?_
 subst he
 refine ⟨lim.keeps x.toInCall.keep, codeAny_func ?_⟩
 obtain ⟨t, ht, hq⟩ := hbody A outer s H vs Q E (hr.deeper _) hsp
 have I : Inv (Zh3 CX P w K mg base N qual scope f cdv A outer s H E) [] (start N vs) H s1 := ZeP S hr.hd e0 hl r x
 refine wpAny_mono (ht [] s1 (start N vs) H _ I hq) (fun fl s' hs => ?_) fun e s' hs => hs
 have fin : ∀ {σ' : St} {H' : Hp} {v : V} {u : Value}, Inv (Zh3 CX P w K mg base N qual scope f cdv A outer s H E) [] σ' H' s' → RelV v u → Q v H' → CE outer P w H s Q u s' :=
  fun {σ' H' v u} J rv q => ⟨v, H', J.os, J.bare, J.base, J.hok, rv, q⟩
 cases fl with
 | ret u =>
  obtain ⟨v, σ', H', J, rv, q⟩ := hs
  exact fin J rv q
 | next =>
  obtain ⟨σ', H', J, q⟩ := hs
  exact fin (v := V.non) (u := Value.none) J rfl q
 | brk =>
  obtain ⟨_, _, _, q⟩ := hs
  exact False.elim q
 | cont =>
  obtain ⟨_, _, _, q⟩ := hs
  exact False.elim q
section
variable {X : Cx} {x : Str} {p pos : Pos} {e : Expr} {es : List Expr} {t : TA} {id T : String} {r : List V → Hp → VK → Prop}
def tCB (r : List V → Hp → VK → Prop) (t : TA) : TE := fun σ H Q => t σ H fun vs H1 => r vs H1 Q
theorem Zi (hc : CallR X (.builtin id) r) (hg : Gl X x) (hm : X.mg x = none) (hv : bootBuiltins x = some (.builtin id)) (ha : PA X (e :: es) t) (hn : x ≠ "__name__" := by decide) (hdb : (x == ("__debug__" : Str)) = false := by decide)
  (he : starEach (e :: es) X.env = (false, eval e X.env) :: starEach es X.env := by rfl) (hpl : (backTo pos (starEach es X.env)).any (·.1) = false := by rfl) : PE X (.Call (.Name x p) (e :: es) [] pos) (tCB r t) := by
 intro pins s σ H Q I h
 refine wpAny_Call_Name_kw (Y8 I hg hm hv ?_ hn hdb)
 exact PyProof.Rows.callWith_builtin1 (thn (ha pos pins s σ H _ I h) fun us s1 ⟨vs, H1, I1, r1, q1⟩ => hc pins s1 σ H1 vs us Q I1 r1 q1) he hpl
theorem ZO (hc : CallR X (.type T) r) (hg : Gl X x) (hm : X.mg x = none) (hv : bootBuiltins x = some (.type T)) (ha : PA X (e :: es) t) (hn : x ≠ "__name__" := by decide) (hdb : (x == ("__debug__" : Str)) = false := by decide)
  (he : starEach (e :: es) X.env = (false, eval e X.env) :: starEach es X.env := by rfl) (hpl : (backTo pos (starEach es X.env)).any (·.1) = false := by rfl) : PE X (.Call (.Name x p) (e :: es) [] pos) (tCB r t) := by
 intro pins s σ H Q I h
 refine wpAny_Call_Name_kw (Y8 I hg hm hv ?_ hn hdb)
 exact PyProof.Rows.callWith_type1 (thn (ha pos pins s σ H _ I h) fun us s1 ⟨vs, H1, I1, r1, q1⟩ => hc pins s1 σ H1 vs us Q I1 r1 q1) he hpl
end
section
variable {κ : Type} [DecidableEq κ]
def Y5 (kvs : List (κ × V)) (k : κ) : Option V := (kvs.find? fun kv => decide (kv.1 = k)).map (·.2)
def Xz (kvs : List (κ × V)) (k : κ) (v : V) : List (κ × V) :=
 if (kvs.any fun kv => decide (kv.1 = k)) = true then kvs.map (fun kv => if kv.1 = k then (kv.1, v) else kv) else kvs ++ [(k, v)]
def Zbp (kvs : List (κ × V)) (k : κ) : List (κ × V) := kvs.filter fun kv => decide (kv.1 ≠ k)
theorem XL {p : κ × V} {r : List (κ × V)} {k : κ} (e : p.1 = k) : Y5 (p :: r) k = some p.2 := by simp [Y5, List.find?_cons, e]
theorem XM {p : κ × V} {r : List (κ × V)} {k : κ} (e : ¬ p.1 = k) : Y5 (p :: r) k = Y5 r k := by simp [Y5, List.find?_cons, e]
theorem XN (k : κ) : ∀ kvs : List (κ × V), (kvs.any fun kv => decide (kv.1 = k)) = (Y5 kvs k).isSome
 | [] => rfl
 | p :: r => by
  rw [List.any_cons]
  by_cases e : p.1 = k
  ·simp only [XL e, decide_eq_true e, Bool.true_or, Option.isSome_some]
  ·rw [XM e, decide_eq_false e, Bool.false_or]; exact XN k r
theorem YC (kvs : List (κ × V)) (k : κ) (v : V) : (Xz kvs k v).length ≤ kvs.length + 1 := by
 unfold Xz
 split
 ·rw [List.length_map]; omega
 ·rw [List.length_append, List.length_cons, List.length_nil]; omega
theorem Zas {kvs : List (κ × V)} {k : κ} (v : V) (h : Y5 kvs k = none) : Xz kvs k v = kvs ++ [(k, v)] := by
 unfold Xz
 rw [XN, h]
 exact if_neg (by decide)
theorem RelO.isSome_eq {o : Option V} {u : Option Value} (r : RelO o u) : o.isSome = u.isSome := by
 cases o with
 | none => cases u with
  | none => rfl
  | some _ => exact (show False from r).elim
 | some _ => cases u with
  | none => exact (show False from r).elim
  | some _ => rfl
theorem RelO.getD {o : Option V} {u : Option Value} {d : V} {d' : Value} (r : RelO o u) (rd : RelV d d') : RelV (o.getD d) (u.getD d') := by
 cases o with
 | none => cases u with
  | none => exact rd
  | some _ => exact (show False from r).elim
 | some _ => cases u with
  | none => exact (show False from r).elim
  | some _ => exact r
theorem KV.val {kvs : List (κ × V)} {vs : List (κ × Value)} (r : KV kvs vs) (k : κ) : RelO (Y5 kvs k) (valueAt vs k) := by
 unfold KV at r
 induction r with
 | nil => exact True.intro
 | @cons p q ps qs h t ih =>
  obtain ⟨h1, h2⟩ := h
  by_cases e : p.1 = k
  ·have e' : q.1 = k := h1.symm.trans e
   have b : valueAt (q :: qs) k = some q.2 := by simp [valueAt, List.find?_cons, e']
   rw [XL e, b]; exact h2
  ·have e' : ¬ q.1 = k := fun z => e (h1.trans z)
   have b : valueAt (q :: qs) k = valueAt qs k := by simp [valueAt, List.find?_cons, e']
   rw [XM e, b]; exact ih
theorem KV.any {kvs : List (κ × V)} {vs : List (κ × Value)} (r : KV kvs vs) (k : κ) : (kvs.any fun kv => decide (kv.1 = k)) = vs.any fun kv => decide (kv.1 = k) := by
 unfold KV at r
 induction r with
 | nil => rfl
 | cons h t ih => rw [List.any_cons, List.any_cons, ih, h.1]
theorem KV.repl {kvs : List (κ × V)} {vs : List (κ × Value)} (r : KV kvs vs) (k : κ) {y : V} {u : Value} (ry : RelV y u) :
  KV (kvs.map fun kv => if kv.1 = k then (kv.1, y) else kv) (vs.map fun kv => if kv.1 = k then (kv.1, u) else kv) := by
 unfold KV at r ⊢
 induction r with
 | nil => exact .nil
 | @cons p q ps qs h t ih =>
  rw [List.map_cons, List.map_cons]
  refine .cons ?_ ih
  obtain ⟨h1, h2⟩ := h
  by_cases e : p.1 = k
  ·rw [if_pos e, if_pos (h1.symm.trans e)]; exact ⟨h1, ry⟩
  ·rw [if_neg e, if_neg (fun z => e (h1.trans z))]; exact ⟨h1, h2⟩
theorem KV.put {kvs : List (κ × V)} {vs : List (κ × Value)} (r : KV kvs vs) (k : κ) {y : V} {u : Value} (ry : RelV y u) : KV (Xz kvs k y) (stored vs k u) := by
 unfold Xz stored
 rw [r.any k]
 by_cases e : (vs.any fun kv => decide (kv.1 = k)) = true
 ·rw [if_pos e, if_pos e]; exact r.repl k ry
 ·rw [if_neg e, if_neg e]; exact Paired.snoc r ⟨rfl, ry⟩
theorem KV.drop {kvs : List (κ × V)} {vs : List (κ × Value)} (r : KV kvs vs) (k : κ) : KV (Zbp kvs k) (without vs k) := by
 unfold KV at r ⊢
 unfold Zbp without
 induction r with
 | nil => exact .nil
 | @cons p q ps qs h t ih =>
  obtain ⟨h1, h2⟩ := h
  rw [List.filter_cons, List.filter_cons]
  by_cases e : p.1 = k
  ·have a : ¬ decide (p.1 ≠ k) = true := by simp [e]
   have b : ¬ decide (q.1 ≠ k) = true := by simp [h1.symm.trans e]
   rw [if_neg a, if_neg b]; exact ih
  ·have e' : ¬ q.1 = k := fun z => e (h1.trans z)
   have a : decide (p.1 ≠ k) = true := by simp [e]
   have b : decide (q.1 ≠ k) = true := by simp [e']
   rw [if_pos a, if_pos b]; exact .cons ⟨h1, h2⟩ ih
theorem KV.keys {kvs : List (κ × V)} {vs : List (κ × Value)} (r : KV kvs vs) : kvs.map (·.1) = vs.map (·.1) := by
 unfold KV at r
 induction r with
 | nil => rfl
 | cons h t ih => rw [List.map_cons, List.map_cons, ih, h.1]
theorem KV.length {kvs : List (κ × V)} {vs : List (κ × Value)} (r : KV kvs vs) : kvs.length = vs.length := Paired.length r
theorem ZcM (kvs : List (κ × V)) (k : κ) : (Zbp kvs k).length ≤ kvs.length := List.length_filter_le _ _
end
theorem JG {P : Program} {w : World} {k : Key} {u : Value} (r : RelV (kV k) u) : (Zp P w).is k u = true := by
 cases k with
 | inl i => obtain ⟨t, e⟩ := (show ∃ t, u = Value.int i t from r); subst e; exact Zb0 P w i t
 | inr x => obtain ⟨t, e⟩ := (show ∃ t, u = Value.str x t from r); subst e; exact Xd P w x t
theorem Zbj {P : Program} {w : World} : ∀ {ks : List Key} {us : List Value}, Vals (ks.map kV) us → ItemsAre (Zp P w) ks us
 | [], _, r => by rw [List.map_nil] at r; cases r; exact .nil
 | k :: ks, _, r => by
  rw [List.map_cons] at r
  cases r with
  | cons h t => exact .cons (JG h) (Zbj t)
abbrev KT (H : Hp) : List (List Key × V) → List (List Key × Addr × Value) → Prop := Paired fun p q => p.1 = q.1 ∧ H q.2.1 = some (.tup (p.1.map kV)) ∧ RelV p.2 q.2.2
theorem KT.val {H : Hp} {kvs : List (List Key × V)} {xs : List (List Key × Addr × Value)} (r : KT H kvs xs) (k : List Key) : RelO (Y5 kvs k) ((atKey xs k).map (·.2)) := by
 induction r with
 | nil => exact True.intro
 | @cons p q ps qs h t ih =>
  obtain ⟨h1, _, h2⟩ := h
  by_cases e : p.1 = k
  ·have e' : q.1 = k := h1.symm.trans e
   have b : atKey (q :: qs) k = some q.2 := by simp [atKey, List.find?_cons, e']
   rw [XL e, b]; exact h2
  ·have e' : ¬ q.1 = k := fun z => e (h1.trans z)
   have b : atKey (q :: qs) k = atKey qs k := by simp [atKey, List.find?_cons, e']
   rw [XM e, b]; exact ih
theorem KT.repl {H : Hp} {kvs : List (List Key × V)} {xs : List (List Key × Addr × Value)} (r : KT H kvs xs) (k : List Key) {y : V} {u : Value} (ry : RelV y u) :
  KT H (kvs.map fun kv => if kv.1 = k then (kv.1, y) else kv) (xs.map (putAt k u)) := by
 induction r with
 | nil => exact .nil
 | @cons p q ps qs h t ih =>
  rw [List.map_cons, List.map_cons]
  refine .cons ?_ ih
  obtain ⟨h1, h2, h3⟩ := h
  unfold putAt
  by_cases e : p.1 = k
  ·rw [if_pos e, if_pos (h1.symm.trans e)]; exact ⟨h1, h2, ry⟩
  ·rw [if_neg e, if_neg (fun z => e (h1.trans z))]; exact ⟨h1, h2, h3⟩
theorem KT.put {H : Hp} {kvs : List (List Key × V)} {xs : List (List Key × Addr × Value)} (r : KT H kvs xs) (k : List Key) {b : Addr} {y : V} {u : Value} (hb : H b = some (.tup (k.map kV))) (ry : RelV y u) :
  KT H (Xz kvs k y) (storedH xs k b u) := by
 have e : (kvs.any fun kv => decide (kv.1 = k)) = (atKey xs k).isSome := by
  rw [XN, (r.val k).isSome_eq, Option.isSome_map]
 unfold Xz storedH
 rw [e]
 by_cases q : (atKey xs k).isSome = true
 ·rw [if_pos q, if_pos q]; exact r.repl k ry
 ·rw [if_neg q, if_neg q]; exact Paired.snoc r ⟨rfl, hb, ry⟩
theorem KT.keeps {H H' : Hp} {kvs : List (List Key × V)} {xs : List (List Key × Addr × Value)} (r : KT H kvs xs) (ht : ∀ b ys, H b = some (.tup ys) → H' b = some (.tup ys)) : KT H' kvs xs :=
 Paired.mapP r fun _ _ z => ⟨z.1, ht _ _ z.2.1, z.2.2⟩
section
variable {P : Program} {w : World} {H : Hp} {h : Heap} {a : Addr}
theorem Zit {u : HO} (ok : HOk P w H h) (e : Rd H a u) : ObjOk P w H h a u := e.ok ok
theorem Zbr {kvs : List (Key × V)} (ok : HOk P w H h) (e : Rd H a (.dK kvs)) : kvs.length ≤ sizeLine ∧ (a == sysModules) = false ∧ ∃ vs, KV kvs vs ∧ h.DictOf (Zp P w) a vs :=
 show ObjOk P w H h a (.dK kvs) from Zit ok e
theorem Zbs {kvs : List (Key × V)} (ok : HOk P w H h) (e : H a = some (.dK kvs)) : kvs.length ≤ sizeLine ∧ (a == sysModules) = false ∧ ∃ vs, KV kvs vs ∧ h.DictOf (Zp P w) a vs := Zbr ok (.inl e)
theorem JR {ks : List Key} (ok : HOk P w H h) (e : H a = some (.tup (ks.map kV))) : (tupleKind (Zp P w)).is h ks a := by
 obtain ⟨_, its, r, ⟨o, h1, h2, n, h3⟩, _⟩ := (show ObjOk P w H h a (.tup (ks.map kV)) from ok a _ e)
 exact ⟨o, its.toArray, n, h1, h2, h3, by simpa using Zbj r⟩
theorem Zb6 {kvs : List (List Key × V)} (ok : HOk P w H h) (e : Rd H a (.dT kvs)) : kvs.length ≤ sizeLine ∧ (a == sysModules) = false ∧
  ∃ xs, KT H kvs xs ∧ h.DictOfH (tupleKind (Zp P w)) a xs := by
 obtain ⟨z, y, xs, r, o, es, ep, h1, h2, h3, h4, h5⟩ := (show ObjOk P w H h a (.dT kvs) from Zit ok e)
 refine ⟨z, y, xs, r, o, es, ep, h1, h2, h3, h4, fun x hx => ?_, h5⟩
 have all : ∀ {l : List (List Key × V)} {m : List (List Key × Addr × Value)}, KT H l m → ∀ x ∈ m, (tupleKind (Zp P w)).is h x.1 x.2.1 := by
  intro l m q
  induction q with
  | nil => intro x hx; exact nomatch hx
  | @cons p q ps qs hq t ih =>
   intro x hx
   rcases List.mem_cons.mp hx with e | hx
   ·subst e
    exact JR ok (by rw [← hq.1]; exact hq.2.1)
   ·exact ih x hx
 exact all r x hx
theorem Zka {kvs : List (List Key × V)} (ok : HOk P w H h) (e : H a = some (.dT kvs)) : kvs.length ≤ sizeLine ∧ (a == sysModules) = false ∧
  ∃ xs, KT H kvs xs ∧ h.DictOfH (tupleKind (Zp P w)) a xs := Zb6 ok (.inl e)
end
def DGet (H : Hp) (a : Addr) (y : V) (r : Option V) : Prop :=
 (∃ kvs k, Rd H a (.dK kvs) ∧ y = kV k ∧ r = Y5 kvs k) ∨ ∃ kvs k b, Rd H a (.dT kvs) ∧ y = .ref b ∧ H b = some (.tup (k.map kV)) ∧ r = Y5 kvs k
def DPut (H : Hp) (a : Addr) (y v : V) (H' : Hp) : Prop :=
 (∃ kvs k, H a = some (.dK kvs) ∧ y = kV k ∧ kvs.length < sizeLine ∧ H' = upd H a (.dK (Xz kvs k v))) ∨
 ∃ kvs k b, H a = some (.dT kvs) ∧ y = .ref b ∧ H b = some (.tup (k.map kV)) ∧ kvs.length < sizeLine ∧ H' = upd H a (.dT (Xz kvs k v))
theorem DGet.k {H : Hp} {a : Addr} {kvs : List (Key × V)} {k : Key} (e : H a = some (.dK kvs)) : DGet H a (kV k) (Y5 kvs k) := .inl ⟨kvs, k, .inl e, rfl, rfl⟩
theorem DPut.k {H : Hp} {a : Addr} {kvs : List (Key × V)} {k : Key} {v : V} (e : H a = some (.dK kvs)) (hl : kvs.length < sizeLine) : DPut H a (kV k) v (upd H a (.dK (Xz kvs k v))) := .inl ⟨kvs, k, e, rfl, hl, rfl⟩
section
variable {X : Cx} {pins : List (Addr × Obj)} {σ : St} {H : Hp} {s : Shared} {a : Addr} {y v : V} {u r : Value} {o : Option V} {A : Around} {E : Value → Shared → Prop}
theorem Inv.big (I : Inv X pins σ H s) : sysModules < s.heap.objs.size := by
 have h : mainGlobals < s.heap.objs.size := (I.mod.glob.keeps I.bk).lt
 exact Nat.lt_trans (by decide) h
theorem Ze5 {Q : Value → Shared → Prop} (hu : A.units + 1 < cLine) (I : Inv X pins σ H s) (g : DGet H a y (some v)) (ry : RelV y u) (h : ∀ w' s', Inv X pins σ H s' → RelV v w' → Q w' s') :
  wpAny (model X.prog X.w) A (getItem (.ref a) u) Q E s := by
 rcases g with ⟨kvs, k, e, ey, l⟩ | ⟨kvs, k, b, e, ey, eb, l⟩
 ·subst ey
  obtain ⟨z, hd, vs, rel, dd⟩ := Zbr I.hok e
  obtain ⟨w', hw, rw'⟩ := RelO.some_of (v := v) (o := valueAt vs k) (by rw [l]; exact rel.val k)
  exact wpAny_getItem_of (JG ry) dd.mapOf hw (h w' _ (I.tok _) rw')
 ·subst ey
  cases (show u = Value.ref b from ry)
  obtain ⟨z, hd, xs, rel, dd⟩ := Zb6 I.hok e
  obtain ⟨w', hw, rw'⟩ := RelO.some_of (v := v) (o := (atKey xs k).map (·.2)) (by rw [l]; exact rel.val k)
  obtain ⟨p, hp, hp2⟩ := Option.map_eq_some_iff.mp hw
  refine wpAny_getItem_heap (tupleKind_room_in1 hu) (JR I.hok eb) dd hp ?_
  rw [hp2]
  exact h w' _ (I.tok _) rw'
theorem ZkX {Q : Value → Shared → Prop} (hu : A.units + 1 < cLine) (I : Inv X pins σ H s) (g : DGet H a y o) (ry : RelV y u) (h : ∀ s', Inv X pins σ H s' → Q (.bool o.isSome) s') :
  wpAny (model X.prog X.w) A (compareOp .In u (.ref a)) Q E s := by
 rcases g with ⟨kvs, k, e, ey, l⟩ | ⟨kvs, k, b, e, ey, eb, l⟩
 ·subst ey
  obtain ⟨z, hd, vs, rel, dd⟩ := Zbr I.hok e
  refine wpAny_in_of (JG ry) hd dd.mapOf ?_
  rw [← (rel.val k).isSome_eq, ← l]
  exact h _ (I.tok _)
 ·subst ey
  cases (show u = Value.ref b from ry)
  obtain ⟨z, hd, xs, rel, dd⟩ := Zb6 I.hok e
  refine wpAny_in_heap (tupleKind_room_in1 hu) (JR I.hok eb) hd dd ?_
  have q := (rel.val k).isSome_eq
  rw [Option.isSome_map] at q
  rw [← q, ← l]
  exact h _ (I.tok _)
theorem Zh2 {Q : Value → Shared → Prop} (hu : A.units + 1 < cLine) (I : Inv X pins σ H s) (g : DGet H a y o) (ry : RelV y u) (h : ∀ s', Inv X pins σ H s' → Q (.bool (!o.isSome)) s') :
  wpAny (model X.prog X.w) A (compareOp .NotIn u (.ref a)) Q E s := by
 rcases g with ⟨kvs, k, e, ey, l⟩ | ⟨kvs, k, b, e, ey, eb, l⟩
 ·subst ey
  obtain ⟨z, hd, vs, rel, dd⟩ := Zbr I.hok e
  refine wpAny_notIn_of (JG ry) hd dd.mapOf ?_
  rw [← (rel.val k).isSome_eq, ← l]
  exact h _ (I.tok _)
 ·subst ey
  cases (show u = Value.ref b from ry)
  obtain ⟨z, hd, xs, rel, dd⟩ := Zb6 I.hok e
  refine wpAny_notIn_heap (tupleKind_room_in1 hu) (JR I.hok eb) hd dd ?_
  have q := (rel.val k).isSome_eq
  rw [Option.isSome_map] at q
  rw [← q, ← l]
  exact h _ (I.tok _)
theorem XE {h' : Heap} {t' : Nat} {ob : HO} (I : Inv X pins σ H s) (mu : Mut (H a)) (hs : Heap.SameBut a s.heap h') (he : ∃ q, h'.get? a = some q) (new : ObjOk X.prog X.w (upd H a ob) h' a ob) :
  Inv X pins σ (upd H a ob) { s with heap := h', toks := t' } :=
 I.write (x := a) (e := a) mu (.inl rfl) (fun b q hb z => (hs.2 b hb).trans z) he new
theorem Zbt {P : Program} {w : World} {H' : Hp} {h' : Heap} {kvs : List (Key × V)} {vs : List (Key × Value)} (z : kvs.length ≤ sizeLine) (hd : (a == sysModules) = false) (rel : KV kvs vs) (dd : h'.DictOf (Zp P w) a vs) :
  ObjOk P w H' h' a (.dK kvs) := ⟨z, hd, vs, rel, dd⟩
theorem Ze4 {H' : Hp} {Q : Unit → Shared → Prop} (hu : A.units + 1 < cLine) (I : Inv X pins σ H s) (g : DPut H a y v H') (ry : RelV y u) (rv : RelV v r) (h : ∀ s', Inv X pins σ H' s' → Q () s') :
  wpAny (model X.prog X.w) A (setItem (.ref a) u r) Q E s := by
 rcases g with ⟨kvs, k, e, ey, l, eH⟩ | ⟨kvs, k, b, e, ey, eb, l, eH⟩
 ·subst ey eH
  obtain ⟨z, hd, vs, rel, dd⟩ := Zbs I.hok e
  have hz : vs.length ≤ sizeLine := by rw [← rel.length]; exact z
  have hl : (Xz kvs k v).length ≤ sizeLine := by have := YC kvs k v; omega
  refine wpAny_setItem_pairs (hsz := hz) (JG ry) dd fun h' dd' hs => h _ ?_
  have he : ∃ q, h'.get? a = some q := let ⟨q, _, _, hq, _⟩ := dd'; ⟨q, hq⟩
  exact XE I (by rw [e]; exact True.intro) hs he (Zbt hl hd (rel.put k rv) dd')
 ·subst ey eH
  cases (show u = Value.ref b from ry)
  obtain ⟨z, hd, xs, rel, dd⟩ := Zka I.hok e
  have hz : xs.length ≤ sizeLine := by rw [← Paired.length rel]; exact z
  have hl : (Xz kvs k v).length ≤ sizeLine := by have := YC kvs k v; omega
  refine wpAny_setItem_heap (hsz := hz) (tupleKind_room_in1 hu) (JR I.hok eb) dd fun h' dd' hs => h _ ?_
  obtain ⟨q, es, ep, hq, h2, h3, h4, _, h5⟩ := dd'
  refine XE I (by rw [e]; exact True.intro) hs ⟨q, hq⟩ ⟨hl, hd, _, (rel.put k eb rv).keeps fun c ys ec => ?_, q, es, ep, hq, h2, h3, h4, h5⟩
  rw [Zg (ZfP ec e (fun z => nomatch z))]
  exact ec
end
section
variable {X : Cx} {pins : List (Addr × Obj)} {σ : St} {H : Hp} {s : Shared} {a : Addr} {kvs : List (Key × V)} {k : Key} {u : Value} {A : Around} {E : Value → Shared → Prop}
theorem Zjp {Q : Unit → Shared → Prop} (I : Inv X pins σ H s) (e : H a = some (.dK kvs)) (ry : RelV (kV k) u) (l : (Y5 kvs k).isSome = true) (h : ∀ s', Inv X pins σ (upd H a (.dK (Zbp kvs k))) s' → Q () s') :
  wpAny (model X.prog X.w) A (delItem (.ref a) u) Q E s := by
 obtain ⟨z, hd, vs, rel, dd⟩ := Zbs I.hok e
 refine wpAny_delItem_slot dd.typeIs (by decide) PySem.F.slot_dict_delitem
  (call_meetsIn PySem.F.slot_dict_delitem dd.typeIs PySem.F.entry_dict_delitem (PySem.F.args_dict_delitem_2 _ _) (meets_dict_delitem_pairs (Zp X.prog X.w) a (JG ry)) ⟨vs, dd, by rw [← rel.length]; exact z, by rw [← (rel.val k).isSome_eq]; exact l, fun h' dd' hs => h _ ?_⟩)
 have he : ∃ q, h'.get? a = some q := let ⟨q, _, _, hq, _⟩ := dd'; ⟨q, hq⟩
 exact XE I (by rw [e]; exact True.intro) hs he (Zbt (Nat.le_trans (ZcM kvs k) z) hd (rel.drop k) dd')
theorem Zkb {v : V} {more : List Value} {Q : Value → Shared → Prop} (I : Inv X pins σ H s) (e : H a = some (.dK kvs)) (ry : RelV (kV k) u) (l : Y5 kvs k = some v) (hm : more = [] ∨ ∃ x, more = [x])
  (h : ∀ w' s', Inv X pins σ (upd H a (.dK (Zbp kvs k))) s' → RelV v w' → Q w' s') : wpAny (model X.prog X.w) A (call (.builtin "dict.pop") (.ref a :: u :: more)) Q E s := by
 obtain ⟨z, hd, vs, rel, dd⟩ := Zbs I.hok e
 obtain ⟨w', hw, rw'⟩ := RelO.some_of (v := v) (o := valueAt vs k) (by rw [← l]; exact rel.val k)
 have hp : (keyPart u).isSome = true := by
  cases k with
  | inl i => obtain ⟨t, q⟩ := (show ∃ t, u = Value.int i t from ry); subst q; rfl
  | inr x => obtain ⟨t, q⟩ := (show ∃ t, u = Value.str x t from ry); subst q; rfl
 have ha : argsOk "dict.pop" ⟨.ref a :: u :: more, []⟩ := by
  rcases hm with q | ⟨x, q⟩
  ·subst q; exact PySem.F.args_dict_pop_2 _ _
  ·subst q; exact PySem.F.args_dict_pop_3 _ _ _
 refine call_meetsIn PySem.F.slot_dict_pop dd.typeIs PySem.F.entry_dict_pop ha (meets_dict_pop_there (Zp X.prog X.w) a (JG ry) more hm hp)
  ⟨vs, w', dd, by rw [← rel.length]; exact z, hw, fun h' dd' hs => h w' _ ?_ rw'⟩
 have he : ∃ q, h'.get? a = some q := let ⟨q, _, _, hq, _⟩ := dd'; ⟨q, hq⟩
 exact XE I (by rw [e]; exact True.intro) hs he (Zbt (Nat.le_trans (ZcM kvs k) z) hd (rel.drop k) dd')
theorem Zkc {Q : Value → Shared → Prop} (I : Inv X pins σ H s) (e : Rd H a (.dK kvs)) (h : ∀ t s', Inv X pins σ H s' → Q (.int kvs.length t) s') : wpAny (model X.prog X.w) A (call (.builtin "len") [.ref a]) Q E s := by
 obtain ⟨z, hd, vs, rel, dd⟩ := Zbr I.hok e
 refine call_len_dict hd dd (by rw [← rel.length]; rw [sizeLine_eq] at z; omega) ?_
 rw [← rel.length]
 exact h _ _ (I.tok _)
end
def Zky (i : Expr) : Prop := ∀ ov iv, subscripted i false ov iv = operate [ov, iv] (getItem ov iv)
theorem Zhg {prog : Program} {w : World} {A : Around} {E : Value → Shared → Prop} {s : Shared} {env : Env} {value slice : Expr} {pos : Pos} {T id : String} {Q : Value → Shared → Prop}
  (hl : typeLookup (.type T) "__getitem__" = pure (some (.builtin id))) (hs : Zky slice)
  (h : wpAny (model prog w) A (eval value env) (fun o s₁ => wpAny (model prog w) A (eval slice env) (fun i s₂ => s₂.TypeIs o T ∧ wpAny (model prog w) A (getItem o i) Q E s₂) E s₁) E s) :
  wpAny (model prog w) A (eval (.Subscript value slice pos) env) Q E s := by
 refine Subscript_ (wpAny_mono h (fun o s₁ h₁ => wpAny_mono h₁ (fun i s₂ h₂ => ?_) fun _ _ x => x) fun _ _ x => x)
 obtain ⟨hT, h₂⟩ := h₂
 unfold subscriptTail
 refine wpAny_bind ?_
 rw [getitemInPython_of_ne hT.not_modules]
 refine wpAny_bind (wpAny_specialOf hT hl ?_)
 have fin : wpAny (model prog w) A (subscripted slice false o i) (fun r s₃ => wpAny (model prog w) A (letTemporaryGo value o r >>= fun _ => pure r) Q E s₃) E s₂ := by
  rw [hs o i]
  exact wpAny_operating (wpAny_mono h₂ (fun r s₃ h₃ => wpAny_bind (wpAny_letTemporaryGo (wpAny_pure h₃))) fun _ _ x => x)
 first
  | exact wpAny_pure (wpAny_bind fin)
  | exact wpAny_bind (wpAny_pure (wpAny_bind fin))
  | exact wpAny_bind fin
theorem Zb7 {X : Cx} {pins : List (Addr × Obj)} {σ : St} {H : Hp} {s : Shared} {a : Addr} {y : V} {o : Option V} (I : Inv X pins σ H s) (g : DGet H a y o) : s.TypeIs (.ref a) "dict" := by
 rcases g with ⟨kvs, k, e, _, _⟩ | ⟨kvs, k, b, e, _, _, _⟩
 ·obtain ⟨_, _, vs, _, dd⟩ := Zbr I.hok e
  exact dd.typeIs
 ·obtain ⟨_, _, xs, _, dd⟩ := Zb6 I.hok e
  exact dd.typeIs
def ZjN (td ty : TE) : TE := fun σ H Q => td σ H fun x H1 => ty σ H1 fun y H2 => ∃ a v, x = .ref a ∧ DGet H2 a y (some v) ∧ Q v H2
def ZkJ (ty td : TE) : TE := fun σ H Q => ty σ H fun y H1 => td σ H1 fun x H2 => ∃ a o, x = .ref a ∧ DGet H2 a y o ∧ Q (.bl o.isSome) H2
def Zhe (ty td : TE) : TE := fun σ H Q => ty σ H fun y H1 => td σ H1 fun x H2 => ∃ a o, x = .ref a ∧ DGet H2 a y o ∧ Q (.bl (!o.isSome)) H2
def ZjR (td ty tv : TE) : TS := fun D σ H => tv σ H fun v H1 => td σ H1 fun x H2 => ty σ H2 fun y H3 => ∃ a H4, x = .ref a ∧ DPut H3 a y v H4 ∧ D.nx σ H4
section
variable {X : Cx} {o i e value : Expr} {pos pos' tpos : Pos} {td ty tv : TE}
theorem Zav (hu : X.A.units + 1 < cLine) (ho : PE X o td) (hi : PE X i ty) (hs : Zky i) : PE X (.Subscript o i pos) (ZjN td ty) := by
 intro pins s σ H Q I h
 refine Zhg PySem.F.slot_dict_getitem.lookup hs (thn (ho pins s σ H _ I h) fun u s1 ⟨x, H1, I1, rx, q1⟩ => thn (hi pins s1 σ H1 _ I1 q1) fun iv s2 ⟨y, H2, I2, ry, a, v, ex, g, q2⟩ => ?_)
 subst ex
 obtain rfl : u = Value.ref a := rx
 exact ⟨Zb7 I2 g, Ze5 hu I2 g ry fun w' s3 I3 rw' => ⟨v, H2, I3, rw', q2⟩⟩
theorem ZgI (hu : X.A.units + 1 < cLine) (hi : PE X i ty) (ho : PE X o td) : PC X .In i o (ZkJ ty td) := by
 intro pins s σ H Q I h
 refine thn (hi pins s σ H _ I h) fun iv s1 ⟨y, H1, I1, ry, q1⟩ => thn (ho pins s1 σ H1 _ I1 q1) fun u s2 ⟨x, H2, I2, rx, a, ov, ex, g, q2⟩ => ?_
 subst ex
 obtain rfl : u = Value.ref a := rx
 exact ZkX hu I2 g ry fun s3 I3 => ⟨.bl ov.isSome, H2, I3, rfl, q2⟩
theorem Zeh (hu : X.A.units + 1 < cLine) (hi : PE X i ty) (ho : PE X o td) : PC X .NotIn i o (Zhe ty td) := by
 intro pins s σ H Q I h
 refine thn (hi pins s σ H _ I h) fun iv s1 ⟨y, H1, I1, ry, q1⟩ => thn (ho pins s1 σ H1 _ I1 q1) fun u s2 ⟨x, H2, I2, rx, a, ov, ex, g, q2⟩ => ?_
 subst ex
 obtain rfl : u = Value.ref a := rx
 exact Zh2 hu I2 g ry fun s3 I3 => ⟨.bl (!ov.isSome), H2, I3, rfl, q2⟩
theorem Ys (hu : X.A.units + 1 < cLine) (ho : PE X o td) (hi : PE X i ty) (hv : PE X value tv) (hs : swapsWith value (some (.Subscript o i pos')) pos.line X.env = pure false) :
  PS X (.Assign [.Subscript o i pos'] value pos) (ZjR td ty tv) := by
 intro pins s σ H D I h
 refine wpAny_Assign_Subscript (thn (hv pins s σ H _ I h) fun r s1 ⟨v, H1, I1, rv, q1⟩ => thn (ho pins s1 σ H1 _ I1 q1) fun u s2 ⟨x, H2, I2, rx, q2⟩ => thn (hi pins s2 σ H2 _ I2 q2) fun iv s3 ⟨y, H3, I3, ry, a, H4, ex, g, q3⟩ => ?_) hs
 subst ex
 obtain rfl : u = Value.ref a := rx
 exact Ze4 hu I3 g ry rv fun s4 I4 => ⟨σ, H4, I4, q3⟩
end
theorem ZcN {P : Program} {w : World} {H : Hp} (h : Heap) (hb : sysModules < h.objs.size) : ObjOk P w H (h.push { cls := .type "dict", data := .dict #[] }) h.objs.size (.dK []) :=
 ⟨Nat.zero_le _, beq_eq_false_iff_ne.mpr (Ne.symm (Nat.ne_of_lt hb)), [], .nil, Heap.DictOf.new h⟩
def Zik : TE := fun _ H Q => ∀ p, H p = none → Q (.ref p) (upd H p (.dK []))
section
variable {X : Cx} {pos : Pos}
theorem YZ : PE X (.Dict [] [] pos) Zik := fun pins s σ H Q I h =>
 wpAny_Dict_empty ⟨.ref s.heap.objs.size, _, I.laid (a := s.heap.objs.size) (o := .dK []) (t' := s.toks) (fun _ _ q => Heap.get?_push_of_some _ q) (Nat.le_refl _) (ZcN s.heap I.big), rfl, h _ (I.hok.fresh (Nat.le_refl _))⟩
end
def Zdw : List (TE × TE) → St → Hp → (List (V × V) → Hp → Prop) → Prop
 | [], _, H, Q => Q [] H
 | (tk, tv) :: r, σ, H, Q => tk σ H fun x H1 => tv σ H1 fun y H2 => Zdw r σ H2 fun ps H3 => Q ((x, y) :: ps) H3
abbrev VV : List (V × V) → List (Value × Value) → Prop := Paired fun p q => RelV p.1 q.1 ∧ RelV p.2 q.2
def PPs (X : Cx) (pos : Pos) (keys : List (Option Expr)) (values : List Expr) (trs : List (TE × TE)) : Prop :=
 ∀ (pins : List (Addr × Obj)) (s : Shared) (σ : St) (H : Hp) (Q : List (V × V) → Hp → Prop), Inv X pins σ H s → Zdw trs σ H Q →
  wpAny (model X.prog X.w) X.A (evalPairs (pairTrees keys values X.env pos)) (fun vs s' => ∃ ps H', Inv X pins σ H' s' ∧ VV ps vs ∧ Q ps H') X.xe s
theorem Zd9 {X : Cx} {pos : Pos} : PPs X pos [] [] [] := fun pins s σ H Q I h => pairTrees_nil_walk ⟨[], H, I, .nil, h⟩
theorem Zct {X : Cx} {pos : Pos} {k v : Expr} {ks : List (Option Expr)} {vs : List Expr} {tk tv : TE} {trs : List (TE × TE)} (hk : PE X k tk) (hv : PE X v tv) (hr : PPs X pos ks vs trs) :
  PPs X pos (some k :: ks) (v :: vs) ((tk, tv) :: trs) := fun pins s σ H Q I h =>
 pairTrees_cons_walk (thn (hk pins s σ H _ I h) fun u s1 ⟨x, H1, I1, rx, q1⟩ => thn (hv pins s1 σ H1 _ I1 q1) fun w2 s2 ⟨y, H2, I2, ry, q2⟩ =>
  thn (hr pins s2 σ H2 _ I2 q2) fun ws s3 ⟨ps, H3, I3, rel, q3⟩ => ⟨(x, y) :: ps, H3, I3, .cons ⟨rx, ry⟩ rel, q3⟩)
def YQ (kvs more : List (Key × V)) : List (Key × V) := more.foldl (fun acc kv => Xz acc kv.1 kv.2) kvs
theorem KV.merge : ∀ {more : List (Key × V)} {rs : List (Key × Value)} {kvs : List (Key × V)} {vs : List (Key × Value)}, KV more rs → KV kvs vs → KV (YQ kvs more) (merged vs rs) := by
 intro more rs kvs vs r
 unfold KV at r
 induction r generalizing kvs vs with
 | nil => intro q; exact q
 | @cons p q ps qs h t ih =>
  intro r0
  have e : KV (Xz kvs p.1 p.2) (stored vs q.1 q.2) := by
   have := r0.put p.1 h.2
   rw [← h.1]; exact this
  exact ih e
theorem Xm : ∀ (more kvs : List (Key × V)), (YQ kvs more).length ≤ kvs.length + more.length
 | [], kvs => by show kvs.length ≤ kvs.length + 0; omega
 | p :: r, kvs => by
  have h1 := Xm r (Xz kvs p.1 p.2)
  have h2 := YC kvs p.1 p.2
  show (YQ (Xz kvs p.1 p.2) r).length ≤ _
  rw [List.length_cons]; omega
theorem J2 {P : Program} {w : World} : ∀ {kvs : List (Key × V)} {ws : List (Value × Value)}, VV (kvs.map fun kv => (kV kv.1, kv.2)) ws → ∃ rs, Carries (Zp P w) ws rs ∧ KV kvs rs
 | [], _, r => by rw [List.map_nil] at r; cases r; exact ⟨[], True.intro, .nil⟩
 | p :: kvs, _, r => by
  rw [List.map_cons] at r
  cases r with
  | @cons a b as bs h t =>
   obtain ⟨rs, c, q⟩ := J2 (P := P) (w := w) t
   obtain ⟨b1, b2⟩ := b
   exact ⟨(p.1, b2) :: rs, ⟨JG h.1, rfl, c⟩, .cons ⟨rfl, h.2⟩ q⟩
def ZjL (trs : List (TE × TE)) : TE := fun σ H Q => ∀ p, H p = none → Zdw trs σ (upd H p (.dK [])) fun ps H2 => H2 p = some (.dK []) ∧ ∃ kvs : List (Key × V), ps = kvs.map (fun kv => (kV kv.1, kv.2)) ∧ kvs.length ≤ 15 ∧ Q (.ref p) (upd H2 p (.dK (YQ [] kvs)))
theorem Zeg {X : Cx} {pos : Pos} {keys : List (Option Expr)} {values : List Expr} {trs : List (TE × TE)} (h : PPs X pos keys values trs) (hall : keys.all (·.isSome) = true) (hl : keys.length = values.length) (h0 : keys ≠ [])
  (h15 : keys.length ≤ 15) : PE X (.Dict keys values pos) (ZjL trs) := by
 intro pins s σ H Q I q
 have hn := I.hok.fresh (Nat.le_refl s.heap.objs.size)
 have I1 := I.laid (a := s.heap.objs.size) (o := .dK []) (h' := s.heap.push { cls := .type "dict", data := .dict #[] }) (t' := s.toks) (fun _ _ q => Heap.get?_push_of_some _ q) (Nat.le_refl _) (ZcN s.heap I.big)
 refine wpAny_Dict_walk (knd := Zp X.prog X.w) hall hl h0 h15 (thn (h pins _ σ _ _ I1 (q _ hn)) fun ws s2 ⟨ps, H2, I2, rel, e, kvs, ep, lk, q2⟩ => ?_)
 subst ep
 obtain ⟨rs, c, rk⟩ := J2 (P := X.prog) (w := X.w) rel
 obtain ⟨z, hd, vs0, r0, dd⟩ := Zbs I2.hok e
 cases r0
 refine ⟨rs, c, dd, fun h' dd' hs => ⟨.ref s.heap.objs.size, _, ?_, rfl, q2⟩⟩
 have hz : (YQ [] kvs).length ≤ sizeLine := by
  have h1 := Xm kvs []
  rw [List.length_nil] at h1
  rw [sizeLine_eq]; omega
 have he : ∃ q, h'.get? s.heap.objs.size = some q := let ⟨q, _, _, hq, _⟩ := dd'; ⟨q, hq⟩
 exact XE I2 (by rw [e]; exact True.intro) hs he (Zbt hz hd (rk.merge .nil) dd')
structure M1 (X : Cx) (o : Expr) (m : Str) (apos : Pos) (e : Expr) (cpos : Pos) : Prop where
 base : attributeBase o m X.env (eval o X.env) = eval o X.env
 few : ((backTo cpos (starEach [e] X.env)).all (fun x => !x.1) && (backToKw cpos (keywordEach [] X.env)).all (fun x => x.1.isSome)
  && decide (([e] : List Expr).length + ([] : List Keyword).length + (if ([] : List Keyword).isEmpty then 0 else 1) < 30)) = true
 line : (apos.endLine == cpos.line) = true
 trees : backTo cpos (starEach [e] X.env) = [(false, eval e X.env)]
structure M2 (X : Cx) (o : Expr) (m : Str) (apos : Pos) (e f : Expr) (cpos : Pos) : Prop where
 base : attributeBase o m X.env (eval o X.env) = eval o X.env
 few : ((backTo cpos (starEach [e, f] X.env)).all (fun x => !x.1) && (backToKw cpos (keywordEach [] X.env)).all (fun x => x.1.isSome)
  && decide (([e, f] : List Expr).length + ([] : List Keyword).length + (if ([] : List Keyword).isEmpty then 0 else 1) < 30)) = true
 line : (apos.endLine == cpos.line) = true
 trees : backTo cpos (starEach [e, f] X.env) = [(false, eval e X.env), (false, eval f X.env)]
def IsD (H : Hp) (a : Addr) : Prop := (∃ kvs, Rd H a (.dK kvs)) ∨ ∃ kvs, Rd H a (.dT kvs)
theorem ZcK {X : Cx} {pins : List (Addr × Obj)} {σ : St} {H : Hp} {s : Shared} {a : Addr} (I : Inv X pins σ H s) (d : IsD H a) :
  s.TypeIs (.ref a) "dict" ∧ (∀ b, Value.ref a = .ref b → ∃ ob, s.heap.get? b = some ob ∧ ob.dict = none) ∧ (a == sysModules) = false := by
 rcases d with ⟨kvs, e⟩ | ⟨kvs, e⟩
 ·obtain ⟨_, hd, vs, _, dd⟩ := Zbr I.hok e
  refine ⟨dd.typeIs, fun b q => ?_, hd⟩
  cases q
  obtain ⟨ob, _, _, h1, h2, _⟩ := dd
  exact ⟨ob, h1, h2.2.1⟩
 ·obtain ⟨_, hd, xs, _, dd⟩ := Zb6 I.hok e
  refine ⟨dd.typeIs, fun b q => ?_, hd⟩
  cases q
  obtain ⟨ob, _, _, h1, h2, _⟩ := dd
  exact ⟨ob, h1, h2.2.1⟩
section
variable {X : Cx} {pins : List (Addr × Obj)} {σ : St} {H : Hp} {s : Shared} {a : Addr} {y d : V} {u r : Value} {o : Option V} {A : Around} {E : Value → Shared → Prop}
theorem Zjo {Q : Value → Shared → Prop} (hu : A.units + 1 < cLine) (I : Inv X pins σ H s) (g : DGet H a y o) (ry : RelV y u) (rd : RelV d r) (h : ∀ w' s', Inv X pins σ H s' → RelV (o.getD d) w' → Q w' s') :
  wpAny (model X.prog X.w) A (call (.builtin "dict.get") [.ref a, u, r]) Q E s := by
 rcases g with ⟨kvs, k, e, ey, l⟩ | ⟨kvs, k, b, e, ey, eb, l⟩
 ·subst ey
  obtain ⟨z, hd, vs, rel, dd⟩ := Zbr I.hok e
  refine call_meetsIn PySem.F.slot_dict_get dd.typeIs PySem.F.entry_dict_get (PySem.F.args_dict_get_3 _ _ _) (meets_dict_get_default (Zp X.prog X.w) a (JG ry) hd r) ⟨_, dd.mapOf, h _ _ (I.tok _) ?_⟩
  rw [l]
  exact (rel.val k).getD rd
 ·subst ey
  cases (show u = Value.ref b from ry)
  obtain ⟨z, hd, xs, rel, dd⟩ := Zb6 I.hok e
  refine call_meetsIn PySem.F.slot_dict_get dd.typeIs PySem.F.entry_dict_get (PySem.F.args_dict_get_3 _ _ _) (meetsH_dict_get_default (tupleKind (Zp X.prog X.w)) a b hd r) ⟨tupleKind_room_in1 hu, k, xs, JR I.hok eb, dd, h _ _ (I.tok _) ?_⟩
  rw [l]
  exact (rel.val k).getD rd
end
def Zil (td ty tx : TE) : TE := fun σ H Q => td σ H fun x H1 => ∃ a, x = .ref a ∧ IsD H1 a ∧ ty σ H1 fun y H2 => tx σ H2 fun z H3 => ∃ o, DGet H3 a y o ∧ Q (o.getD z) H3
def Zij (td ty : TE) : TE := fun σ H Q => td σ H fun x H1 => ∃ a, x = .ref a ∧ IsD H1 a ∧ ty σ H1 fun y H2 => ∃ kvs k v, H2 a = some (.dK kvs) ∧ y = kV k ∧ Y5 kvs k = some v ∧ Q v (upd H2 a (.dK (Zbp kvs k)))
section
variable {X : Cx} {o e f : Expr} {apos cpos : Pos} {td ty tx : TE}
theorem Yh (hu : X.A.units + 1 < cLine) (ho : PE X o td) (he : PE X e ty) (hf : PE X f tx) (m : M2 X o "get" apos e f cpos) : PE X (.Call (.Attribute o "get" apos) [e, f] [] cpos) (Zil td ty tx) := by
 intro pins s σ H Q I h
 refine wpAny_Call_method m.base m.few m.line PySem.F.plainAttrs_dict PySem.F.slot_dict_get PySem.F.type_dict_get (thn (ho pins s σ H _ I h) fun u s1 ⟨x, H1, I1, rx, a, ex, d, q1⟩ => ?_)
 subst ex
 obtain rfl : u = Value.ref a := rx
 obtain ⟨t1, t2, _⟩ := ZcK I1 d
 refine ⟨t1, t2, ?_⟩
 rw [m.trees]
 refine Calls.callWith_builtin rfl (Calls.evalArgs_plain (Calls.spliced_cons (thn (he pins s1 σ H1 _ I1 q1) fun iv s2 ⟨y, H2, I2, ry, q2⟩ =>
  Calls.spliced_cons (thn (hf pins s2 σ H2 _ I2 q2) fun fv s3 ⟨z, H3, I3, rz, ov, g, q3⟩ => Calls.spliced_nil ?_))))
 exact Zjo hu I3 g ry rz fun w' s4 I4 rw' => ⟨_, H3, I4, rw', q3⟩
theorem ZfL (ho : PE X o td) (he : PE X e ty) (m : M1 X o "pop" apos e cpos) : PE X (.Call (.Attribute o "pop" apos) [e] [] cpos) (Zij td ty) := by
 intro pins s σ H Q I h
 refine wpAny_Call_method m.base m.few m.line PySem.F.plainAttrs_dict PySem.F.slot_dict_pop PySem.F.type_dict_pop (thn (ho pins s σ H _ I h) fun u s1 ⟨x, H1, I1, rx, a, ex, d, q1⟩ => ?_)
 subst ex
 obtain rfl : u = Value.ref a := rx
 obtain ⟨t1, t2, _⟩ := ZcK I1 d
 refine ⟨t1, t2, ?_⟩
 rw [m.trees]
 refine Calls.callWith_builtin rfl (Calls.evalArgs_plain (Calls.spliced_cons (thn (he pins s1 σ H1 _ I1 q1) fun iv s2 ⟨y, H2, I2, ry, kvs, k, v, ea, ey, l, q2⟩ => Calls.spliced_nil ?_)))
 subst ey
 exact Zkb I2 ea ry l (.inl rfl) fun w' s3 I3 rw' => ⟨v, _, I3, rw', q2⟩
end
section
variable {X : Cx} {pins : List (Addr × Obj)} {σ : St} {H : Hp} {s : Shared} {a : Addr} {kvs : List (Key × V)} {A : Around} {E : Value → Shared → Prop}
end
section
variable {X : Cx} {pins : List (Addr × Obj)} {σ : St} {H : Hp} {s : Shared} {a : Addr} {y : V} {u : Value} {A : Around} {E : Value → Shared → Prop}
end
end L2
namespace HT
open PySem PyProof.Rows
section
open PySem.SeqAt
open PySem.AutoSeq1 (wpAny_loadPart')
open PySem.MeetsSeq PySem.MeetsSeq2 PySem.MeetsSeq3
end
section
variable {prog : Program} {w : World} {A : Around} {E : Value → Shared → Prop} {s : Shared}
def sIx (n d : Nat) : Option Int → Nat
 | none => d
 | some v => if v < 0 then (v + (n : Int)).toNat else min v.toNat n
end
end HT
namespace L2
open PySem PySem.Spec PyProof.Rows
abbrev TO := St → Hp → (Option Int → Hp → Prop) → Prop
def PO (X : Cx) (e : Option Expr) (t : TO) : Prop :=
 ∀ (pins : List (Addr × Obj)) (s : Shared) (σ : St) (H : Hp) (Q : Option Int → Hp → Prop), Inv X pins σ H s → t σ H Q →
  wpAny (model X.prog X.w) X.A (evalPart e X.env) (fun u s' => ∃ o H', Inv X pins σ H' s' ∧ IsPart u o ∧ Q o H') X.xe s
def Zhc : TO := fun _ H Q => Q none H
def ZjI (t : TE) : TO := fun σ H Q => t σ H fun x H1 => ∃ i, x = .int i ∧ Q (some i) H1
section
variable {X : Cx} {e : Expr} {te : TE} {lo hi : Option Expr} {tl th : TO} {pos p2 : Pos}
theorem ZD : PO X none Zhc := by
 intro pins s σ H Q I h
 rw [evalPart_none]
 exact wpAny_pure ⟨none, H, I, .none, h⟩
theorem ZB (h : PE X e te) : PO X (some e) (ZjI te) := by
 intro pins s σ H Q I hw
 rw [evalPart_some]
 refine thn (h pins s σ H _ I hw) fun u s1 ⟨x, H1, I1, r1, q1⟩ => ?_
 obtain ⟨i, rfl, q⟩ := q1
 obtain ⟨t, rfl⟩ := r1
 exact ⟨some i, H1, I1, .int i t, q⟩
def SlR (X : Cx) (r : V → Option Int → Option Int → Hp → VK → Prop) : Prop :=
 ∀ (pins : List (Addr × Obj)) (s : Shared) (σ : St) (H : Hp) (x : V) (v vl vu : Value) (lo hi : Option Int) (sl : Addr) (Q : VK), Inv X pins σ H s → RelV x v → s.heap.IsSliceOf sl vl vu .none → IsPart vl lo → IsPart vu hi → r x lo hi H Q →
  ∃ T id, typeLookup (.type T) "__getitem__" = pure (some (.builtin id)) ∧ s.TypeIs v T ∧ wpAny (model X.prog X.w) X.A (getItem v (.ref sl)) (EP X pins σ Q) X.xe s
def tSl (r : V → Option Int → Option Int → Hp → VK → Prop) (te : TE) (tl th : TO) : TE := fun σ H Q => te σ H fun x H1 => tl σ H1 fun l H2 => th σ H2 fun u H3 => r x l u H3 Q
theorem Zu {r : V → Option Int → Option Int → Hp → VK → Prop} (hr : SlR X r) (he : PE X e te) (hl : PO X lo tl) (hu : PO X hi th) : PE X (.Subscript e (.Slice lo hi none p2) pos) (tSl r te tl th) := by
 intro pins s σ H Q I h
 refine Subscript_ (thn (he pins s σ H _ I h) fun v s1 ⟨x, H1, I1, r1, q1⟩ => ?_)
 refine wpAny_Slice (thn (hl pins s1 σ H1 _ I1 q1) fun vl s2 ⟨l, H2, I2, pl, q2⟩ => thn (hu pins s2 σ H2 _ I2 q2) fun vu s3 ⟨u, H3, I3, pu, q3⟩ => ?_)
 rw [evalPart_none]
 refine wpAny_pure ?_
 have I4 : Inv X pins σ H3 { s3 with heap := s3.heap.push { cls := .type "slice", data := .fields #[vl, vu, .none] } } := I3.kept (t' := s3.toks) fun b ob q => Heap.get?_push_of_some _ q
 obtain ⟨T, id, hT, ht, hg⟩ := hr pins { s3 with heap := s3.heap.push { cls := .type "slice", data := .fields #[vl, vu, .none] } } σ H3 x v vl vu l u s3.heap.objs.size Q I4 r1 (Heap.IsSliceOf.new ..) pl pu q3
 show wpAny (model X.prog X.w) X.A (subscriptTail e (.Slice lo hi none p2) v (.ref s3.heap.objs.size)) (EP X pins σ Q) X.xe { s3 with heap := s3.heap.push { cls := .type "slice", data := .fields #[vl, vu, .none] } }
 exact tail_any (ops := [.ref s3.heap.objs.size, v]) ht hT hg (by with_unfolding_all rfl)
def Zgo (xs : List V) (lo hi : Option Int) : List V := (xs.drop (HT.sIx xs.length 0 lo)).take (HT.sIx xs.length xs.length hi - HT.sIx xs.length 0 lo)
theorem Zb9 (xs : List V) (lo hi : Option Int) : (Zgo xs lo hi).length ≤ xs.length := by
 unfold Zgo
 rw [List.length_take, List.length_drop]
 omega
end
def ixN (n : Nat) (i : Int) : Option Nat := if 0 ≤ i then (if i < n then some i.toNat else none) else if -(n : Int) ≤ i then some (i + n).toNat else none
def atI {α : Type} (xs : List α) (i : Int) : Option α := (ixN xs.length i).bind fun j => xs[j]?
theorem ixN_seq {n : Nat} {i : Int} {j : Nat} (h : ixN n i = some j) : seqIndex? i n = some j ∧ j < n ∧ -(n : Int) ≤ i ∧ i < n := by
 unfold ixN at h
 by_cases h0 : 0 ≤ i
 ·rw [if_pos h0] at h
  by_cases h1 : i < n
  ·rw [if_pos h1] at h
   have e : i.toNat = j := Option.some.inj h
   exact ⟨by rw [seqIndex_of h0 h1, e], by omega, by omega, h1⟩
  ·rw [if_neg h1] at h; cases h
 ·rw [if_neg h0] at h
  by_cases h1 : -(n : Int) ≤ i
  ·rw [if_pos h1] at h
   have e : (i + n).toNat = j := Option.some.inj h
   exact ⟨by rw [seqIndex_neg (by omega) h1, e], by omega, h1, by omega⟩
  ·rw [if_neg h1] at h; cases h
theorem Zcd {α : Type} {xs : List α} {i : Int} {v : α} (h : atI xs i = some v) : ∃ j, seqIndex? i xs.length = some j ∧ xs[j]? = some v ∧ j < xs.length ∧ -(xs.length : Int) ≤ i ∧ i < xs.length := by
 unfold atI at h
 cases e : ixN xs.length i with
 | none => rw [e] at h; cases h
 | some j =>
  rw [e] at h
  obtain ⟨h1, h2, h3, h4⟩ := ixN_seq e
  exact ⟨j, h1, h, h2, h3, h4⟩
theorem Zcc {α : Type} {xs : List α} {j : Nat} {v : α} (h : xs[j]? = some v) : atI xs (j : Int) = some v := by
 have hj : j < xs.length := (List.getElem?_eq_some_iff.mp h).1
 have e : ixN xs.length (j : Int) = some j := by
  unfold ixN
  rw [if_pos (by omega), if_pos (by omega)]; simp
 unfold atI; rw [e]; exact h
def Zh7 (b : Expr) : Prop := ∀ o i, subscripted b false o i = operate [o, i] (getItem o i)
def IxR (X : Cx) (r : R2) : Prop :=
 ∀ (value slice : Expr) (pins : List (Addr × Obj)) (s : Shared) (σ : St) (H : Hp) (x y : V) (v u : Value) (Q : VK), Inv X pins σ H s → RelV x v → RelV y u → r x y H Q →
  subscripted slice false v u = operate [v, u] (getItem v u) → wpAny (model X.prog X.w) X.A (subscriptTail value slice v u) (EP X pins σ Q) X.xe s
def MtR (X : Cx) (id : String) (r : V → List V → Hp → VK → Prop) : Prop :=
 ∀ (pins : List (Addr × Obj)) (s : Shared) (σ : St) (H : Hp) (x : V) (xs : List V) (v : Value) (us : List Value) (Q : VK), Inv X pins σ H s → RelV x v → Vals xs us → r x xs H Q →
  wpAny (model X.prog X.w) X.A (call (.builtin id) (v :: us)) (EP X pins σ Q) X.xe s
section
variable {X : Cx} {a b : Expr} {ta tb : TE} {pos : Pos}
theorem IxR.or {r r' : R2} (h : IxR X r) (h' : IxR X r') : IxR X (fun x y H Q => r x y H Q ∨ r' x y H Q) := by
 intro value slice pins s σ H x y v u Q I rx ry q hs
 rcases q with q | q
 ·exact h value slice pins s σ H x y v u Q I rx ry q hs
 ·exact h' value slice pins s σ H x y v u Q I rx ry q hs
theorem ZF {r : R2} (hr : IxR X r) (ha : PE X a ta) (hb : PE X b tb) (hs : Zh7 b) : PE X (.Subscript a b pos) (tOp r ta tb) := by
 intro pins s σ H Q I h
 exact Subscript_ (Zke ha hb I h fun v u s2 x y H2 I2 rx ry q => hr a b pins s2 σ H2 x y v u Q I2 rx ry q (hs _ _))
def ZjX (K : PySem.W.Frag) : R2 := fun x y H Q => ∃ p xs i v, x = .ref p ∧ y = .int i ∧ SqL K H p xs ∧ atI xs i = some v ∧ Q v H
def ZjW (K : PySem.W.Frag) : R2 := fun x y H Q => ∃ p xs i v, x = .ref p ∧ y = .int i ∧ SqT K H p xs ∧ atI xs i = some v ∧ Q v H
def Zkr : R2 := fun x y H Q => ∃ z i c, x = .str z ∧ y = .int i ∧ z.length ≤ sizeLine ∧ atI z.cps.toList i = some c ∧ Q (.str ⟨#[c]⟩) H
theorem ix_list : IxR X (ZjX X.K) := by
 intro value slice pins s σ H x y v u Q I rx ry h hs
 obtain ⟨p, xs, i, z, rfl, rfl, hq, he, q⟩ := h
 cases rx
 obtain ⟨t, rfl⟩ := ry
 obtain ⟨its, r, pl, hz⟩ := I.list hq
 obtain ⟨j, h1, h2, h3, h4, h5⟩ := Zcd he
 obtain ⟨w, ew, rw'⟩ := r.get h2
 have hl := r.length
 have hn := JQ
 have fin : EP X pins σ Q w s := ⟨z, H, I, rw', q⟩
 by_cases h0 : 0 ≤ i
 ·have hj : i.toNat = j := by
   rw [seqIndex_of h0 h5] at h1
   exact Option.some.inj h1
  exact item_listR pl.isList h0 (by omega) (by rw [hj]; simpa using ew) fin hs
 ·have hj : (i + (its.toArray.size : Int)).toNat = j := by
   rw [seqIndex_neg (by omega) h4] at h1
   rw [List.size_toArray, ← hl]
   exact Option.some.inj h1
  exact subscriptTail_builtinR (x := w) pl.isList.typeIs slot_list_getitem.lookup
   (wpAny_getItem_list_neg (Q := fun r s' => r = w ∧ EP X pins σ Q r s') pl.isList (by omega) (by rw [List.size_toArray] <;> omega) (by omega) (by rw [hj]; simpa using ew) ⟨rfl, fin⟩) hs
theorem ix_tup : IxR X (ZjW X.K) := by
 intro value slice pins s σ H x y v u Q I rx ry h hs
 obtain ⟨p, xs, i, z, rfl, rfl, hq, he, q⟩ := h
 cases rx
 obtain ⟨t, rfl⟩ := ry
 obtain ⟨its, r, pl, hz⟩ := I.tuple hq
 obtain ⟨j, h1, h2, h3, h4, h5⟩ := Zcd he
 obtain ⟨w, ew, rw'⟩ := r.get h2
 have hl := r.length
 have hn := JQ
 have fin : EP X pins σ Q w s := ⟨z, H, I, rw', q⟩
 exact subscriptTail_builtinR (x := w) pl.typeIs slot_tuple_getitem.lookup
  (getItem_tuple (j := j) (Q := fun r s' => r = w ∧ EP X pins σ Q r s') pl (by omega) (by omega) (by rw [List.size_toArray, ← hl]; exact h1) (by simpa using ew) ⟨rfl, fin⟩) hs
theorem ZcJ : IxR X Zkr := by
 intro value slice pins s σ H x y v u Q I rx ry h hs
 obtain ⟨z, i, c, rfl, rfl, hz, he, q⟩ := h
 obtain ⟨t, rfl⟩ := rx
 obtain ⟨t', rfl⟩ := ry
 obtain ⟨j, h1, h2, h3, h4, h5⟩ := Zcd he
 have hl : z.cps.toList.length = z.length := by simp [Str.length]
 rw [hl] at h1 h4 h5
 have hn := JQ
 exact tail_any (typeIs_str s z t) slot_str_getitem.lookup (getItem_str (c := c) (by
  have e1 : decide (i < -(2 ^ 63 : Int)) = false := decide_eq_false (by omega)
  have e2 : decide (i ≥ 2 ^ 63) = false := decide_eq_false (by omega)
  rw [e1, e2, Bool.or_false]) (by rw [h1]; simpa using h2) ⟨.str ⟨#[c]⟩, H, I.tok _, ⟨_, rfl⟩, q⟩) hs
def rIx (K : PySem.W.Frag) : R2 := fun x y H Q => ZjX K x y H Q ∨ ZjW K x y H Q ∨ Zkr x y H Q
theorem Zjf : IxR X (rIx X.K) := ix_list.or (ix_tup.or ZcJ)
theorem Zdd (its : List Value) (n j : Nat) (u : Value) : Obj.mapSeq (·.setIfInBounds j u) { cls := .type "list", data := .seq its.toArray n } = { cls := .type "list", data := .seq (its.set j u).toArray n } := by
 simp [Obj.mapSeq]
theorem Inv.lst {pins : List (Addr × Obj)} {σ : St} {H : Hp} {s : Shared} {p : Addr} {xs : List V} (I : Inv X pins σ H s) (h : H p = some (.lst xs)) :
  ∃ (its : List Value) (n : Nat), Vals xs its ∧ s.heap.get? p = some { cls := .type "list", data := .seq its.toArray n } ∧ xs.length ≤ sizeLine := by
 obtain ⟨z, its, n, r, e⟩ := I.hok p _ h
 exact ⟨its, n, r, e, z⟩
theorem Inv.lstUpd {pins : List (Addr × Obj)} {σ : St} {H : Hp} {s : Shared} {p : Addr} {xs ys : List V} {its its' : List Value} {n n' : Nat} {f : Obj → Obj} (I : Inv X pins σ H s) (h : H p = some (.lst xs))
  (ho : s.heap.get? p = some { cls := .type "list", data := .seq its.toArray n }) (hf : f { cls := .type "list", data := .seq its.toArray n } = { cls := .type "list", data := .seq its'.toArray n' }) (r : Vals ys its') (hz : ys.length ≤ sizeLine) (t : Nat) :
  Inv X pins σ (upd H p (.lst ys)) { s with heap := s.heap.update p f, toks := t } := by
 have e : (s.heap.update p f).get? p = some { cls := .type "list", data := .seq its'.toArray n' } := by
  rw [Heap.get?_update_self f ho (by rw [hf] <;> rfl), hf]
 refine I.write (x := p) (e := p) (by rw [h]; trivial) (.inl rfl) (fun b u hb q => (Heap.get?_update_other _ _ (Ne.symm hb)).trans q) ⟨_, e⟩ ?_
 exact ⟨hz, its', n', r, e⟩
def ZjU : V → V → V → Hp → (Hp → Prop) → Prop := fun o i v H Q => ∃ p xs k j, o = .ref p ∧ i = .int k ∧ H p = some (.lst xs) ∧ ixN xs.length k = some j ∧ Q (upd H p (.lst (xs.set j v)))
theorem ZfC : Zkx X ZjU := by
 intro pins s σ H o i v ov iv u Q I ro ri rv h
 obtain ⟨p, xs, k, j, rfl, rfl, hp, hj, q⟩ := h
 cases ro
 obtain ⟨t, rfl⟩ := ri
 obtain ⟨its, n, r, ho, hz⟩ := I.lst hp
 obtain ⟨h1, h2, h3, h4⟩ := ixN_seq hj
 have hl := r.length
 have hn := JQ
 have I' : Inv X pins σ (upd H p (.lst (xs.set j v))) { s with heap := s.heap.update p (Obj.mapSeq (·.setIfInBounds j u)) } :=
  I.lstUpd hp ho (Zdd its n j u) (r.set rv j) (by rw [List.length_set]; exact hz) s.toks
 by_cases h0 : 0 ≤ k
 ·have hk : k.toNat = j := by
   rw [seqIndex_of h0 h4] at h1
   exact Option.some.inj h1
  exact PySem.W.ki_setAt ho h0 (by omega) (by rw [List.size_toArray, ← hl]; exact h4) (by rw [hk]; exact ⟨_, I', q⟩)
 ·have hk : (k + (its.toArray.size : Int)).toNat = j := by
   rw [seqIndex_neg (by omega) h3] at h1
   rw [List.size_toArray, ← hl]
   exact Option.some.inj h1
  exact PySem.W.ki_setBack ho (by omega) (by rw [List.size_toArray, ← hl]; exact h3) (by omega) (by rw [hk]; exact ⟨_, I', q⟩)
theorem Za1 (lo hi : Option Int) (n : Nat) : (sliceBounds lo hi none n).1 = ((HT.sIx n 0 lo : Nat) : Int) ∧ (sliceBounds lo hi none n).2.1 = ((HT.sIx n n hi : Nat) : Int) ∧ (sliceBounds lo hi none n).2.2 = 1 := by
 refine ⟨?_, ?_, rfl⟩
 ·cases lo with
  | none => simp [sliceBounds, HT.sIx]
  | some i =>
   simp only [sliceBounds, HT.sIx, Option.getD_none, show (1 : Int) > 0 by decide, if_true]
   by_cases h : i < 0
   ·simp only [h, if_true] <;> omega
   ·simp only [h, if_false] <;> omega
 ·cases hi with
  | none => simp [sliceBounds, HT.sIx]
  | some i =>
   simp only [sliceBounds, HT.sIx, Option.getD_none, show (1 : Int) > 0 by decide, if_true]
   by_cases h : i < 0
   ·simp only [h, if_true] <;> omega
   ·simp only [h, if_false] <;> omega
theorem Zah (its : List Value) (lo hi : Option Int) : slicePick its.toArray lo hi none = ((its.drop (HT.sIx its.length 0 lo)).take (HT.sIx its.length its.length hi - HT.sIx its.length 0 lo)).toArray := by
 obtain ⟨h1, h2, h3⟩ := Za1 lo hi its.toArray.size
 unfold slicePick
 rw [h1, h2, h3]
 simp only [sliceRange_one, pick_run, List.size_toArray] <;> rfl
def ZkN (K : PySem.W.Frag) : V → Option Int → Option Int → Hp → VK → Prop := fun x lo hi H Q => ∃ a xs, x = .ref a ∧ SqL K H a xs ∧ ∀ p, H p = none → Q (.ref p) (upd H p (.lst (Zgo xs lo hi)))
theorem ZdO : SlR X (ZkN X.K) := by
 intro pins s σ H x v vl vu lo hi sl Q I rx hs pl pu h
 obtain ⟨a, xs, rfl, hx, q⟩ := h
 cases rx
 obtain ⟨its, r, ht, hz⟩ := I.list hx
 have hlen := r.length
 refine ⟨"list", _, slot_list_getitem.lookup, ht.isList.typeIs, ?_⟩
 refine wpAny_getItem_list_slice ht.isList hs pl pu .none (by simp) ?_ (by rw [List.size_toArray] <;> omega)
 rw [Zah, ← hlen]
 refine ⟨.ref s.heap.objs.size, _, I.laid (t' := s.toks) (o := .lst (Zgo xs lo hi)) (fun b ob q => Heap.get?_push_of_some _ q) (Nat.le_refl _) ?_, rfl, q _ (I.hok.fresh (Nat.le_refl _))⟩
 exact ⟨Nat.le_trans (Zb9 xs lo hi) hz, _, 0, (r.drop (HT.sIx xs.length 0 lo)).take (HT.sIx xs.length xs.length hi - HT.sIx xs.length 0 lo), Heap.get?_push_size _ rfl⟩
def ZaH : V → Bool
 | .non => true
 | .bl _ => true
 | .int _ => true
 | .str _ => true
 | _ => false
def eqV : V → V → Bool
 | .non, .non => true
 | .bl a, .bl b => a == b
 | .bl a, .int b => (if a then 1 else 0) == b
 | .int a, .bl b => a == (if b then 1 else 0)
 | .int a, .int b => a == b
 | .str a, .str b => a == b
 | _, _ => false
theorem Zjj {A : Around} {s : Shared} {y x : V} {u v : Value} (ry : RelV y u) (rx : RelV x v) (fy : ZaH y = true) (fx : ZaH x = true) : SeqAt.EqAt A s u v (eqV y x) := by
 cases y with
 | non =>
  cases ry
  cases x with
  | non => cases rx; exact SeqAt.EqAt.same _
  | bl b => cases rx; exact SeqAt.EqAt.none_bool b
  | int b => obtain ⟨t, rfl⟩ := rx; exact SeqAt.EqAt.none_int b t
  | str b => obtain ⟨t, rfl⟩ := rx; exact SeqAt.EqAt.none_str b t
  | _ => exact absurd (show false = true from fx) Bool.false_ne_true
 | bl a =>
  cases ry
  cases x with
  | non => cases rx; exact SeqAt.EqAt.bool_none a
  | bl b => cases rx; exact SeqAt.EqAt.bool_bool a b
  | int b => obtain ⟨t, rfl⟩ := rx; exact SeqAt.EqAt.bool_int a b t
  | str b => obtain ⟨t, rfl⟩ := rx; exact SeqAt.EqAt.bool_str a b t
  | _ => exact absurd (show false = true from fx) Bool.false_ne_true
 | int a =>
  obtain ⟨t', rfl⟩ := ry
  cases x with
  | non => cases rx; exact SeqAt.EqAt.int_none a t'
  | bl b => cases rx; exact SeqAt.EqAt.int_bool a t' b
  | int b => obtain ⟨t, rfl⟩ := rx; exact SeqAt.EqAt.int_int a t' b t
  | str b => obtain ⟨t, rfl⟩ := rx; exact SeqAt.EqAt.int_str a t' b t
  | _ => exact absurd (show false = true from fx) Bool.false_ne_true
 | str a =>
  obtain ⟨t', rfl⟩ := ry
  cases x with
  | non => cases rx; exact SeqAt.EqAt.str_none a t'
  | bl b => cases rx; exact SeqAt.EqAt.str_bool a t' b
  | int b => obtain ⟨t, rfl⟩ := rx; exact SeqAt.EqAt.str_int a t' b t
  | str b => obtain ⟨t, rfl⟩ := rx; exact SeqAt.EqAt.str_str a t' b t
  | _ => exact absurd (show false = true from fx) Bool.false_ne_true
 | _ => exact absurd (show false = true from fy) Bool.false_ne_true
def eqU (x : V) (u : Value) : Bool := match u with
 | .none => eqV .non x
 | .bool b => eqV (.bl b) x
 | .int i _ => eqV (.int i) x
 | .str z _ => eqV (.str z) x
 | _ => false
theorem ZgX {x y : V} {u : Value} (r : RelV y u) (f : ZaH y = true) : eqU x u = eqV y x := by
 cases y with
 | non => cases r; rfl
 | bl b => cases r; rfl
 | int i => obtain ⟨t, rfl⟩ := r; rfl
 | str z => obtain ⟨t, rfl⟩ := r; rfl
 | _ => exact absurd (show false = true from f) Bool.false_ne_true
theorem Zce {x : V} : ∀ {xs : List V} {us : List Value}, Vals xs us → xs.all ZaH = true → us.any (eqU x) = xs.any fun y => eqV y x
 | _, _, .nil, _ => rfl
 | y :: xs, u :: us, .cons r t, f => by
  rw [List.all_cons, Bool.and_eq_true] at f
  rw [List.any_cons, List.any_cons, ZgX r f.1, Zce t f.2]
theorem Zaz {A : Around} {s : Shared} {x : V} {v : Value} (rx : RelV x v) (fx : ZaH x = true) : ∀ {xs : List V} {us : List Value}, Vals xs us → xs.all ZaH = true → ∀ u ∈ us, SeqAt.EqAt A s u v (eqU x u)
 | _, _, .nil, _ => fun u hu => by cases hu
 | y :: xs, u :: us, .cons r t, f => fun u' hu => by
  rw [List.all_cons, Bool.and_eq_true] at f
  rcases List.mem_cons.mp hu with rfl | hu
  ·rw [ZgX r f.1]; exact Zjj r rx f.1 fx
  ·exact Zaz rx fx t f.2 u' hu
def inV (x : V) (xs : List V) : Bool := xs.any fun y => eqV y x
def rIn (K : PySem.W.Frag) (neg : Bool) : R2 := fun x y H Q => ∃ p xs, y = .ref p ∧ (SqL K H p xs ∨ SqT K H p xs) ∧ ZaH x = true ∧ xs.all ZaH = true ∧ Q (.bl (if neg then !inV x xs else inV x xs)) H
theorem XJ : OpR X (compareOp .NotIn) (rIn X.K true) := by
 intro pins s σ H x y v u Q I rx ry h
 obtain ⟨p, xs, rfl, hq, fx, fs, q⟩ := h
 cases ry
 rcases hq with hq | hq
 ·obtain ⟨its, r, pl, hz⟩ := I.list hq
  refine SeqAt.notIn_listAt (eqU x) pl.isList (fun w hw => Zaz rx fx r fs w (by simpa using hw)) ⟨.bl _, H, I, rfl, ?_⟩
  rw [show its.toArray.any (eqU x) = its.any (eqU x) by simp, Zce r fs]
  exact q
 ·obtain ⟨its, r, pl, hz⟩ := I.tuple hq
  refine SeqAt.notIn_tupleAt (eqU x) pl (fun w hw => Zaz rx fx r fs w (by simpa using hw)) ⟨.bl _, H, I, rfl, ?_⟩
  rw [show its.toArray.any (eqU x) = its.any (eqU x) by simp, Zce r fs]
  exact q
theorem Zbw : CallR X (.type "list") (fun xs H Q => ∃ p ys, xs = [.ref p] ∧ (SqL X.K H p ys ∨ SqT X.K H p ys) ∧ ∀ l, H l = none → Q (.ref l) (upd H l (.lst ys))) := by
 intro pins s σ H xs us Q I r h
 obtain ⟨p, ys, rfl, hq, q⟩ := h
 obtain ⟨u, rfl, rx⟩ := Xt r
 cases rx
 have fin : ∀ (its : List Value), Vals ys its → ys.length ≤ sizeLine → ∀ (h' : Heap) (c' : Nat), (∀ b o', s.heap.get? b = some o' → h'.get? b = some o') →
   h'.get? s.heap.objs.size = some { cls := .type "list", dict := none, data := .seq its.toArray c', slots := #[] } → EP X pins σ Q (.ref s.heap.objs.size) { s with heap := h' } := fun its r' hz h' c' kp e =>
  ⟨.ref s.heap.objs.size, _, I.laid (t' := s.toks) kp (Nat.le_refl _) (show ObjOk X.prog X.w _ h' _ (.lst ys) from ⟨hz, its, c', r', e⟩), rfl, q _ (I.hok.fresh (Nat.le_refl _))⟩
 rcases hq with hq | hq
 ·obtain ⟨its, r', pl, hz⟩ := I.list hq
  have hlen := r'.length
  obtain ⟨o, ho, hc, n, hd⟩ := pl.isList
  exact call_list_seq p (.inl rfl) ho hc hd (fun h' c' kp e => fin its r' hz h' c' kp e) (by simp only [List.size_toArray] <;> omega)
 ·obtain ⟨its, r', pl, hz⟩ := I.tuple hq
  have hlen := r'.length
  obtain ⟨o, ho, hc, n, hd⟩ := pl
  exact call_list_seq p (.inr rfl) ho hc hd (fun h' c' kp e => fin its r' hz h' c' kp e) (by simp only [List.size_toArray] <;> omega)
theorem ZE : CallR X (.type "tuple") (fun xs H Q => ∃ p ys, xs = [.ref p] ∧ ((SqL X.K H p ys ∧ ∀ l, H l = none → Q (.ref l) (upd H l (.tup ys))) ∨ (SqT X.K H p ys ∧ Q (.ref p) H))) := by
 intro pins s σ H xs us Q I r h
 obtain ⟨p, ys, rfl, h⟩ := h
 obtain ⟨u, rfl, rx⟩ := Xt r
 cases rx
 rcases h with ⟨hq, q⟩ | ⟨hq, q⟩
 ·obtain ⟨its, r', pl, hz⟩ := I.list hq
  have hlen := r'.length
  refine call_tuple_list pl.isList (fun h' kp => ?_) (by simp only [List.size_toArray] <;> omega)
  have I1 : Inv X pins σ H { s with heap := h' } := I.kept (t' := s.toks) kp
  have I2 : Inv X pins σ (upd H h'.objs.size (.tup ys)) { s with heap := h'.push { cls := .type "tuple", data := .seq its.toArray } } :=
   I1.laid (t' := s.toks) (fun b o e => Heap.get?_push_of_some _ e) (Nat.le_refl _) (show ObjOk X.prog X.w _ _ _ (.tup ys) from ⟨hz, its, r', IsTup.new _ _, Zcy rfl rfl⟩)
  exact ⟨.ref h'.objs.size, _, I2, rfl, q _ (I1.hok.fresh (Nat.le_refl _))⟩
 ·obtain ⟨its, r', pl, hz⟩ := I.tuple hq
  exact call_tuple_same pl ⟨.ref p, H, I, rfl, q⟩
def tyV (K : PySem.W.Frag) (T : String) (x : V) (H : Hp) : Prop := match x with
 | .str _ => T = "str"
 | .int _ => T = "int"
 | .ref p => (T = "list" ∧ ∃ xs, SqL K H p xs) ∨ (T = "tuple" ∧ ∃ o, K.lookup p = some o ∧ o.cls = .type "tuple" ∧ o.dict = none) ∨
   (T = "dict" ∧ ((∃ kvs, H p = some (.dK kvs)) ∨ ∃ kvs, H p = some (.dT kvs))) ∨ (T = "set" ∧ ∃ S n, H p = some (.set S n))
 | _ => False
theorem Zgv {pins : List (Addr × Obj)} {σ : St} {H : Hp} {s : Shared} {T : String} {x : V} {v : Value} (I : Inv X pins σ H s) (r : RelV x v) (ty : tyV X.K T x H) :
  s.TypeIs v T ∧ ∀ a, v = .ref a → ∃ ob, s.heap.get? a = some ob ∧ ob.dict = none := by
 cases x with
 | str z =>
  obtain ⟨t, rfl⟩ := r
  cases (show T = "str" from ty)
  exact ⟨typeIs_str s z t, fun _ e => nomatch e⟩
 | int i =>
  obtain ⟨t, rfl⟩ := r
  cases (show T = "int" from ty)
  exact ⟨typeIs_int s i t, fun _ e => nomatch e⟩
 | ref p =>
  cases r
  rcases ty with ⟨rfl, xs, hq⟩ | ⟨rfl, o, hk, hc, hd⟩ | ⟨rfl, hk⟩ | ⟨rfl, S, n, hk⟩
  ·obtain ⟨its, _, pl, _⟩ := I.list hq
   refine ⟨pl.isList.typeIs, fun a e => ?_⟩
   cases e
   obtain ⟨o, n, e, c, hd, _⟩ := pl
   exact ⟨o, e, hd⟩
  ·refine ⟨⟨o, I.kIn p o hk, hc⟩, fun a e => ?_⟩
   cases e
   exact ⟨o, I.kIn _ o hk, hd⟩
  ·have z : ∃ o, s.heap.get? p = some o ∧ o.ExactDict := by
    rcases hk with ⟨kvs, hk⟩ | ⟨kvs, hk⟩
    ·obtain ⟨_, _, _, _, o, _, _, e, ex, _⟩ := I.hok p _ hk
     exact ⟨o, e, ex⟩
    ·obtain ⟨_, _, _, _, o, _, _, e, ex, _⟩ := I.hok p _ hk
     exact ⟨o, e, ex⟩
   obtain ⟨o, e, ex⟩ := z
   refine ⟨⟨o, e, ex.1⟩, fun a e2 => ?_⟩
   cases e2
   exact ⟨o, e, ex.2.1⟩
  ·obtain ⟨o, _, _, _, e, ex, _⟩ := I.hok p _ hk
   refine ⟨⟨o, e, ex.1⟩, fun a e2 => ?_⟩
   cases e2
   exact ⟨o, e, ex.2.1⟩
 | _ => exact False.elim ty
def ZkK (K : PySem.W.Frag) (T : String) (r : V → List V → Hp → VK → Prop) (to : TE) : TE := fun σ H Q => to σ H fun x H1 => tyV K T x H1 ∧ r x [] H1 Q
def tBM (K : PySem.W.Frag) (T : String) (r : V → List V → Hp → VK → Prop) (to : TE) (t : TA) : TE := fun σ H Q => to σ H fun x H1 => tyV K T x H1 ∧ t σ H1 fun xs H2 => r x xs H2 Q
variable {o e : Expr} {es : List Expr} {to : TE} {t : TA} {name : Str} {apos cpos : Pos} {T id : String} {r : V → List V → Hp → VK → Prop}
theorem Ym (pa : PlainAttrs T) (slot : Slot T name id) (hty : typeOf (.builtin id) = pure (.type "method_descriptor")) (hm : MtR X id r) (ho : PE X o to)
  (hbase : attributeBase o name X.env (eval o X.env) = eval o X.env := by rfl) (hline : (apos.endLine == cpos.line) = true := by rfl) : PE X (.Call (.Attribute o name apos) [] [] cpos) (ZkK X.K T r to) := by
 intro pins s σ H Q I h
 refine wpAny_Call_method0_late hbase hline (thn (ho pins s σ H _ I h) fun v s1 ⟨x, H1, I1, r1, ty, q1⟩ => ?_)
 obtain ⟨h1, h2⟩ := Zgv I1 r1 ty
 exact ⟨T, id, pa, slot, hty, h1, h2, Calls.callWith_builtin rfl (PySem.evalArgs_none (hm pins s1 σ H1 x [] v [] Q I1 r1 .nil q1))⟩
theorem JC (pa : PlainAttrs T) (slot : Slot T name id) (hty : typeOf (.builtin id) = pure (.type "method_descriptor")) (hm : MtR X id r) (ho : PE X o to) (ha : PA X (e :: es) t)
  (hbase : attributeBase o name X.env (eval o X.env) = eval o X.env := by rfl)
  (hfew : ((backTo cpos (starEach (e :: es) X.env)).all (fun x => !x.1) && (backToKw cpos (keywordEach [] X.env)).all (fun x => x.1.isSome)
   && decide ((e :: es).length + ([] : List Keyword).length + (if ([] : List Keyword).isEmpty then 0 else 1) < 30)) = true := by rfl)
  (hline : (apos.endLine == cpos.line) = true := by rfl) (hs : starEach (e :: es) X.env = (false, eval e X.env) :: starEach es X.env := by rfl) (hplain : (backTo cpos (starEach es X.env)).any (·.1) = false := by rfl) :
  PE X (.Call (.Attribute o name apos) (e :: es) [] cpos) (tBM X.K T r to t) := by
 intro pins s σ H Q I h
 refine wpAny_Call_method_late hbase hfew hline rfl (thn (ho pins s σ H _ I h) fun v s1 ⟨x, H1, I1, r1, ty, q1⟩ => ?_)
 obtain ⟨h1, h2⟩ := Zgv I1 r1 ty
 refine ⟨T, id, pa, slot, hty, h1, h2, ?_⟩
 have hA := ha cpos pins s1 σ H1 _ I1 q1
 rw [hs] at hA ⊢
 refine Calls.callWith_builtin (by show (false || (backTo cpos (starEach es X.env)).any (·.1)) = false; rw [hplain] <;> rfl) (Calls.evalArgs_plain ?_)
 exact thn hA fun us s2 ⟨vs, H2, I2, r2, q2⟩ => hm pins s2 σ H2 x vs v us Q I2 r1 r2 q2
end
def MtM (X : Cx) (id : String) (r : V → List V → Hp → VK → Prop) : Prop :=
 ∀ (pins : List (Addr × Obj)) (s : Shared) (σ : St) (H : Hp) (x : V) (xs : List V) (v : Value) (us : List Value) (Q : VK), Inv X pins σ H s → RelV x v → Vals xs us → r x xs H Q →
  wpAny (model X.prog X.w) X.A (call (.builtin id) (v :: us)) (EP X pins σ Q) X.xe s
theorem Vals.one : ∀ {x : V} {us : List Value}, Vals [x] us → ∃ u, us = [u] ∧ RelV x u
 | _, _, .cons r .nil => ⟨_, rfl, r⟩
theorem Vals.zero : ∀ {us : List Value}, Vals [] us → us = []
 | _, .nil => rfl
theorem Vals.dropLast {xs : List V} {us : List Value} (h : Vals xs us) : Vals xs.dropLast us.dropLast := by
 induction h with
 | nil => exact .nil
 | cons r t ih =>
  cases t with
  | nil => exact .nil
  | cons q t' => exact .cons r ih
theorem Vals.rep {xs : List V} {us : List Value} (h : Vals xs us) : ∀ k : Nat, Vals (List.replicate k xs).flatten (List.replicate k us).flatten
 | 0 => .nil
 | k + 1 => by
  rw [List.replicate_succ, List.replicate_succ, List.flatten_cons, List.flatten_cons]
  exact Vals.append h (Vals.rep h k)
theorem Zdm {α : Type} (l : List α) : l.eraseIdx (l.length - 1) = l.dropLast := by
 induction l with
 | nil => rfl
 | cons a r ih =>
  cases r with
  | nil => rfl
  | cons b r =>
   have e : (a :: b :: r).length - 1 = ((b :: r).length - 1) + 1 := by
    have h1 : (a :: b :: r).length = r.length + 2 := rfl
    have h2 : (b :: r).length = r.length + 1 := rfl
    omega
   rw [e, List.eraseIdx_cons_succ, ih]
   all_goals rfl
theorem Zbm (its : List Value) : ∀ (k : Nat) (acc : List Value),
  List.foldl (fun x1 x2 => x1 ++ x2) acc.toArray (List.replicate k its.toArray) = (acc ++ (List.replicate k its).flatten).toArray
 | 0, acc => by simp
 | k + 1, acc => by
  have e : acc.toArray ++ its.toArray = (acc ++ its).toArray := by simp
  have e2 : (acc ++ its) ++ (List.replicate k its).flatten = acc ++ (List.replicate (k + 1) its).flatten := by
   rw [List.replicate_succ, List.flatten_cons, List.append_assoc]
  rw [← e2, ← Zbm its k (acc ++ its), ← e, List.replicate_succ, List.foldl_cons]
section
variable {X : Cx} {pins : List (Addr × Obj)} {σ : St} {H : Hp} {s : Shared} {l b : Addr} {xs ys zs : List V}
theorem Inv.lset {its its' : List Value} {n : Nat} {f : Array Value → Array Value} {t' : Nat} (I : Inv X pins σ H s) (hH : H l = some (.lst xs))
  (e : s.heap.get? l = some { cls := .type "list", data := .seq its.toArray n }) (hf : f its.toArray = its'.toArray) (hv : Vals ys its') (hz : ys.length ≤ sizeLine) :
  Inv X pins σ (upd H l (.lst ys)) { s with heap := s.heap.update l (Obj.mapSeq f), toks := t' } := by
 have q := PySem.IsL.update e f
 rw [hf] at q
 refine I.write (x := l) (e := l) (by rw [hH]; exact trivial) (.inl rfl) (fun b' u hb hu => (Heap.get?_update_other s.heap (Obj.mapSeq f) (Ne.symm hb)).trans hu) ⟨_, q⟩ ?_
 exact ⟨hz, its', _, hv, q⟩
theorem Inv.lnew {its : List Value} {t' : Nat} (I : Inv X pins σ H s) (hv : Vals ys its) (hz : ys.length ≤ sizeLine) :
  Inv X pins σ (upd H s.heap.objs.size (.lst ys)) { s with heap := s.heap.push { cls := .type "list", data := .seq its.toArray }, toks := t' } :=
 I.laid (fun _ _ q => Heap.get?_push_of_some _ q) (Nat.le_refl _) ⟨hz, its, 0, hv, Heap.get?_push_size _ rfl⟩
theorem Inv.fresh (I : Inv X pins σ H s) : H s.heap.objs.size = none := I.hok.fresh (Nat.le_refl _)
theorem Inv.lstM (I : Inv X pins σ H s) (hH : H l = some (.lst xs)) : xs.length ≤ sizeLine ∧ ∃ (its : List Value) (n : Nat), Vals xs its ∧ xs.length = its.length ∧ s.heap.get? l = some { cls := .type "list", data := .seq its.toArray n } := by
 obtain ⟨z, its, n, r, e⟩ := I.hok l _ hH
 exact ⟨z, its, n, r, r.length, e⟩
theorem Zcw {n : Nat} (h : n ≤ sizeLine) : Builtin.List.listTooLong n = false := by
 unfold Builtin.List.listTooLong
 exact decide_eq_false (by omega)
end
section
variable {X : Cx}
def Zd7 : V → List V → Hp → VK → Prop := fun x vs H Q => ∃ l xs y, x = .ref l ∧ vs = [y] ∧ H l = some (.lst xs) ∧ xs.length < sizeLine ∧ Q .non (upd H l (.lst (xs ++ [y])))
theorem Zbe : MtM X "list.append" Zd7 := by
 intro pins s σ H x vs v us Q I rx rv h
 obtain ⟨l, xs, y, rfl, rfl, hH, hz, q⟩ := h
 cases rx
 obtain ⟨u, rfl, ru⟩ := rv.one
 obtain ⟨z, its, n, r, hl, e⟩ := I.lstM hH
 refine call_meets F.slot_list_append ⟨_, e, rfl⟩ F.entry_list_append (F.args_list_append_2 _ _) (PySem.list_append l its.toArray n u (by rw [List.size_toArray]; omega)) ⟨e, ?_⟩
 refine ⟨.non, _, I.lset (its' := its ++ [u]) hH e (by simp) (r.append (.cons ru .nil)) ?_, rfl, q⟩
 rw [List.length_append, List.length_singleton]
 omega
def Zd5 : V → List V → Hp → VK → Prop := fun x vs H Q => ∃ l b xs zs, x = .ref l ∧ vs = [.ref b] ∧ H l = some (.lst xs) ∧ H b = some (.lst zs) ∧ xs.length + zs.length ≤ sizeLine ∧ Q .non (upd H l (.lst (xs ++ zs)))
theorem ZeA : MtM X "list.extend" Zd5 := by
 intro pins s σ H x vs v us Q I rx rv h
 obtain ⟨l, b, xs, zs, rfl, rfl, hH, hB, hz, q⟩ := h
 cases rx
 obtain ⟨u, rfl, ru⟩ := rv.one
 cases ru
 obtain ⟨z, its, n, r, hl, e⟩ := I.lstM hH
 obtain ⟨z2, its2, n2, r2, hl2, e2⟩ := I.lstM hB
 have hsz : its.toArray.size + its2.toArray.size ≤ sizeLine := by rw [List.size_toArray, List.size_toArray]; omega
 have hlong : ¬ (!its.toArray.isEmpty && Builtin.List.listTooLong (its.toArray.size + its2.toArray.size)) = true := by
  rw [Zcw hsz, Bool.and_false]
  exact Bool.false_ne_true
 refine call_meets F.slot_list_extend ⟨_, e, rfl⟩ F.entry_list_extend (F.args_list_extend_2 _ _)
  (AutoSeq1.list_extend_list_list_0 l its.toArray n b its2.toArray n2 hlong (by rw [List.size_toArray]; omega) (by omega)) ⟨e, e2, ?_⟩
 refine ⟨.non, _, I.lset (its' := its ++ its2) hH e (by simp) (r.append r2) ?_, rfl, q⟩
 rw [List.length_append]
 omega
def Zkq : V → List V → Hp → VK → Prop := fun x vs H Q => ∃ l xs y, x = .ref l ∧ vs = [] ∧ H l = some (.lst xs) ∧ xs[xs.length - 1]? = some y ∧ Q y (upd H l (.lst xs.dropLast))
theorem ZiX : MtM X "list.pop" Zkq := by
 intro pins s σ H x vs v us Q I rx rv h
 obtain ⟨l, xs, y, rfl, rfl, hH, hy, q⟩ := h
 cases rx
 have hus := rv.zero
 subst hus
 obtain ⟨z, its, n, r, hl, e⟩ := I.lstM hH
 obtain ⟨u, hu, ru⟩ := r.get hy
 have hy' : its.toArray[its.toArray.size - 1]? = some u := by
  show its.toArray[its.length - 1]? = some u
  rw [← Array.getElem?_toList, ← hl]
  exact hu
 refine call_meets F.slot_list_pop ⟨_, e, rfl⟩ F.entry_list_pop (F.args_list_pop_1 _) (MeetsSeq.list_pop_last l its.toArray n u hy' (by rw [List.size_toArray]; omega)) ⟨e, ?_⟩
 refine ⟨y, _, I.lset (its' := its.dropLast) hH e ?_ r.dropLast ?_, ru, q⟩
 ·show its.toArray.eraseIdxIfInBounds (its.toArray.size - 1) = its.dropLast.toArray
  rw [List.size_toArray, List.eraseIdxIfInBounds_toArray, Zdm]
 ·rw [List.length_dropLast]
  omega
def ZkP : R2 := fun x y H Q => ∃ l b xs zs, x = .ref l ∧ y = .ref b ∧ H l = some (.lst xs) ∧ H b = some (.lst zs) ∧ xs.length + zs.length ≤ sizeLine ∧ ∀ p, H p = none → Q (.ref p) (upd H p (.lst (xs ++ zs)))
theorem ZgL : OpR X (binaryOp .Add) ZkP := by
 intro pins s σ H x y v u Q I rx ry h
 obtain ⟨l, b, xs, zs, rfl, rfl, hH, hB, hz, q⟩ := h
 cases rx
 cases ry
 obtain ⟨z, its, n, r, hl, e⟩ := I.lstM hH
 obtain ⟨z2, its2, n2, r2, hl2, e2⟩ := I.lstM hB
 refine PySem.P.add_list e e2 ?_ (by rw [List.size_toArray, List.size_toArray]; omega)
 have ea : its.toArray ++ its2.toArray = (its ++ its2).toArray := by simp
 rw [ea]
 exact ⟨.ref _, _, I.lnew (t' := s.toks) (r.append r2) (by rw [List.length_append]; omega), rfl, q _ I.fresh⟩
def ZkO : R2 := fun x y H Q => ∃ l k xs, x = .ref l ∧ y = .int k ∧ H l = some (.lst xs) ∧ -(2 ^ 63) ≤ k ∧ k < 2 ^ 63 ∧ xs.length * k.toNat ≤ sizeLine ∧
 ∀ p, H p = none → Q (.ref p) (upd H p (.lst (List.replicate k.toNat xs).flatten))
theorem ZhL {α : Type} (xs : List α) (k : Nat) : (List.replicate k xs).flatten.length = k * xs.length := by
 induction k with
 | zero => simp
 | succ k ih => rw [List.replicate_succ, List.flatten_cons, List.length_append, ih, Nat.succ_mul, Nat.add_comm]
theorem ZiG : OpR X (binaryOp .Mult) ZkO := by
 intro pins s σ H x y v u Q I rx ry h
 obtain ⟨l, k, xs, rfl, rfl, hH, h1, h2, hz, q⟩ := h
 cases rx
 obtain ⟨t, rfl⟩ := ry
 obtain ⟨z, its, n, r, hl, e⟩ := I.lstM hH
 have hlen : its.toArray.size * k.toNat ≤ sizeLine := by rw [List.size_toArray, ← hl]; exact hz
 have hcap : ¬ its.toArray.size * k.toNat > (2 ^ 63 - 1) / 8 := by
  have : (sizeLine : Nat) ≤ (2 ^ 63 - 1) / 8 := by decide
  omega
 have hfit : ¬ (!Builtin.List.listFitsIndex k) = true := by
  rw [fitsIndex_both h1 h2]
  exact Bool.false_ne_true
 have hlong : ¬ Builtin.List.listTooLong (its.toArray.size * k.toNat) = true := by
  rw [Zcw hlen]
  exact Bool.false_ne_true
 have hnew : List.foldl (fun x1 x2 => x1 ++ x2) #[] (List.replicate (if its.toArray.isEmpty = true then 0 else k.toNat) its.toArray) = (List.replicate k.toNat its).flatten.toArray := by
  have f0 : ∀ m : Nat, List.foldl (fun x1 x2 => x1 ++ x2) #[] (List.replicate m its.toArray) = (List.replicate m its).flatten.toArray := fun m => by
   have := Zbm its m []
   rw [List.nil_append] at this
   exact this
  rw [f0]
  cases its with
  | nil => simp
  | cons a r' => rw [if_neg (by simp)]
 refine wpAny_binaryOp_repeat_ref (T := "list") (U := "int") (by decide) ⟨_, e, rfl⟩ (fun s' => typeIs_int s' k t) noFill_list_mul F.fills_int_mul F.slot_int_rmul repeat_list F.slot_int_index.lookup
  (call_meets F.slot_int_rmul (typeIs_int s k t) F.entry_int_rmul (F.args_int_rmul_2 _ _) (int___rmul___int_list k t l its.toArray n)
   ⟨e, rfl, ⟨_, e, rfl⟩, call_meets F.slot_list_mul ⟨_, e, rfl⟩ F.entry_list_mul (F.args_list_mul_2 _ _) (AutoListH.list___mul___list_int_3 l its.toArray n k t hfit hcap hlong) ⟨e, ?_⟩⟩)
 rw [hnew]
 exact ⟨.ref _, _, I.lnew (t' := s.toks) (r.rep k.toNat) (by rw [ZhL, Nat.mul_comm]; exact hz), rfl, q _ I.fresh⟩
end
section
variable {prog : Program} {w : World} {A : Around} {E : Value → Shared → Prop} {s : Shared}
end
section
variable {X : Cx}
end
end L2
namespace Att
open PySem PySem.W PySem.Calls PyProof.Rows
theorem Jm {P : Params} {h : Heap} : ∀ (ns : List Int) (vs : List Value), WellAll P h vs (ns.map WData.int) → IntsAre vs ns := by
 intro ns
 induction ns with
 | nil =>
  intro vs w
  rw [List.map_nil] at w
  cases w
  exact .nil
 | cons n ns ih =>
  intro vs w
  rw [List.map_cons] at w
  cases w with
  | cons a b =>
   cases a
   exact .cons _ _ (ih _ b)
theorem ZdR {l : OpenLaw} {n : Nat} (hn : l.most = some n) {P : Params} {h : Heap} {args : List WData} {vals : List Value}
  (hpre : l.row.toRowW.claim.pre args = true) (hwl : WellAll P h vals args) :
  ∃ a vs ns, vals = [Value.ref a] ∧ args = [WData.list (ns.map WData.int)] ∧ h.get? a = some { cls := .type "list", data := .seq vs.toArray } ∧ IntsAre vs ns ∧ ns.length ≤ n := by
 have hsh : WShape.hasAll [] args [.list .int] = true := (pre_splitW hpre).1
 have hc : l.pre.holds [] { args := args } = true := (pre_splitW hpre).2
 obtain ⟨d, r, rfl, h1, h2⟩ := hasAllW_cons hsh
 obtain rfl := hasAllW_nil h2
 obtain ⟨xs, rfl, h3⟩ := hasW_list h1
 obtain ⟨ns, rfl⟩ := items_int h3
 have hlen : ns.length ≤ n := by
  unfold OpenLaw.pre at hc
  have h4 : (WTm.not (.lt (.lit (.int (n : Int))) (.len (.arg 0)))).holds [] { args := [.list (ns.map .int)] } = true := by
   have h4 := (holds_andW hc).1
   rw [hn] at h4
   exact h4
  have h5 := condW_of h4 (w_not (w_lt w_lit (w_len_list (w_arg rfl))))
  rw [List.length_map] at h5
  refine Nat.le_of_not_lt fun q => ?_
  have q' : (n : Int) < ((ns.length : Nat) : Int) := by omega
  first
   | (rw [decide_eq_true q'] at h5; exact absurd h5 (by decide))
   | (simp at h5; omega)
 cases hwl with
 | cons w1 w2 =>
  cases w2
  cases w1 with
  | list ho hall => exact ⟨_, _, ns, rfl, rfl, ho, Jm ns _ hall, hlen⟩
theorem Zea (l : OpenLaw) (args : List WData) : l.row.toRowW.claim.post args (.bool true) args = true :=
 postW_of (r := l.row.toRowW) (X := (true == true))
  (show WShape.has [] (.bool true) .bool = true by first | rfl | decide | simp [WShape.has, WShape.arms, WShape.armsAll])
  (show (WTm.eq .res (.lit (.bool true))).value [] { args := args, res := some (.bool true), after := args } = some (.bool (true == true)) from w_eq_bool (w_res rfl) w_lit) rfl
theorem attach_call {l : OpenLaw} {n : Nat} {q : Program} {loose : List Str} {XP : (Str → Option Value) → Heap → Prop} {YP : World → Heap → Prop} {d : DefRec}
  (hn : l.most = some n) (hdf : d.params.defaults = [])
  (call : ∀ (w : World) (s₀ s₁ : Shared) (mg mb : Str → Option Value) (fa : Addr) (o : Obj) (pm cd doc : Value) (a : Addr) (vs : List Value) (ns : List Int),
   Ground q loose [] XP w s₀ mg mb s₁.heap → YP w s₁.heap →
   s₁.heap.get? fa = some o → o.data = .func (docDef d.name d.params d.body d.scope pm cd doc) → s₁.heap.CodeRec cd d.name → mg d.name = some (.ref fa) →
   s₁.heap.get? a = some { cls := .type "list", data := .seq vs.toArray } → IntsAre vs ns → ns.length ≤ n → s₁.gens = #[] →
   codeAny (model l.prog w) callerA (.call (.ref fa) ⟨[.ref a], []⟩) (fun r s' => r = .ok (.ret (.bool true)) ∧ OldK s₁.heap s'.heap ∧ s'.os = s₁.os ∧ AllBare s'.gens) s₁) :
  WalkO q loose XP YP l.row.toRowW d [] (fun f vs => PySem.call f vs) := by
 intro w s₀ s₁ mg mb G Y fa o pm cd doc dV kV ho hd hcd hD hmg hg args vals as hpre hlay hrd hwl hlo
 obtain rfl : dV = .none := Dflts.none hD hdf
 obtain rfl : kV = .none := Dflts.noKw hD
 obtain ⟨a, vs, ns, rfl, rfl, hobj, hints, hlen⟩ := ZdR hn hpre hwl
 refine enter_call (codeAny_mono (call w s₀ s₁ mg mb fa o pm cd doc a vs ns G Y ho (fd_plain hd) hcd hmg hobj hints hlen hg) fun r s' hq => ?_)
 obtain ⟨rfl, h2, h3, h4⟩ := hq
 exact ⟨.inl ⟨.bool true, .bool true, [], rfl, fun _ => rfl, .bool true, Zea l _, fun _ => ⟨List.Pairwise.nil, fun _ hm => (nomatch hm)⟩⟩, h2, h3, h4⟩
section
variable {prog : Program} {w : World} {A : Around} {E : Value → Shared → Prop} {s : Shared} {K : Frag}
def Zku (h : Heap) (L d : Addr) : List (Addr × Obj) := (List.range h.objs.size).filterMap fun a => if a = L ∨ a = d then none else (h.get? a).map fun o => (a, o)
end
end Att
namespace L2
open PySem PySem.Spec PyProof.Rows
theorem ZaU : ∀ {vs : List Value} {ns : List Int}, IntsAre vs ns → Vals (ns.map V.int) vs
 | _, _, .nil => .nil
 | _, _, .cons n t h => .cons ⟨t, rfl⟩ (ZaU h)
def Zkk (H : Hp) : Prop := ∀ b, H b = none ∨ ∃ o xs, H b = some (.frz o (.lst xs))
theorem Zf3 {P : Program} {w : World} {K : PySem.W.Frag} {mg mb : Str → Option Value} {CX : CXT} {k : Nat} {fa a : Addr} {fd : FuncData} {x : Str} {sp : Sp} {s₁ : Shared} {vs : List Value} {ns : List Int}
  (KX : K.In s₁.heap) (hns : s₁.heap.Ns mainGlobals mg) (hb : s₁.heap.Ns builtinsNs mb) (hbb : ∀ x : Str, x ≠ "__name__" → mb x = bootBuiltins x) (hlim : s₁.heap.NoLimit) (hg : s₁.gens = #[])
  (ha : s₁.heap.get? a = some { cls := .type "list", data := .seq vs.toArray }) (hi : IntsAre vs ns) (hl : ns.length ≤ sizeLine) (hr : Room k callerA)
  (F : ∀ base : Heap, K.In base → base.Ns mainGlobals mg → FnOk P w K mg base CX k fa fd [x] sp) (hbind : ∀ (s : Shared) (u : Value), BindsTo s fd ⟨[u], []⟩ [(x, u)])
  (hsp : ∀ H : Hp, Zkk H → SqL K H a (ns.map V.int) → sp [.ref a] H (fun v _ => v = .bl true) fun _ _ _ => False)
  (hCX : ∀ H e s', CX [] H s₁ (fun _ _ _ => False) e s' → False) :
  codeAny (model P w) callerA (.call (.ref fa) ⟨[.ref a], []⟩) (fun r s' => r = .ok (.ret (.bool true)) ∧ OldK s₁.heap s'.heap ∧ s'.os = s₁.os ∧ AllBare s'.gens) s₁ := by
 have rv := ZaU hi
 have lenV := hi.length
 -- from an abstract heap in which nothing but the script may be tracked
 have core : ∀ H : Hp, Zkk H → SqL K H a (ns.map V.int) → HOk P w H s₁.heap → (∀ b, H b ≠ none → b = a) → (H a ≠ none → K.lookup a = none) →
   codeAny (model P w) callerA (.call (.ref fa) ⟨[.ref a], []⟩) (fun r s' => r = .ok (.ret (.bool true)) ∧ OldK s₁.heap s'.heap ∧ s'.os = s₁.os ∧ AllBare s'.gens) s₁ := by
  intro H hO hS hok hA hK
  have base_of : ∀ {b : Addr} {o : Obj}, s₁.heap.get? b = some o → H b = none → (Zgb s₁.heap H).get? b = some o := fun e n => Zga e n
  have noA : ∀ {b : Addr} {o : Obj} {es : Array DictEntry} {ep : Nat}, s₁.heap.get? b = some o → o.data = .dict es ep → H b = none := fun {b o es ep} e d => by
   cases q : H b with
   | none => rfl
   | some u =>
    have e' : b = a := hA b (by rw [q]; simp)
    subst e'
    rw [ha] at e; cases e
    have d' : Data.seq vs.toArray _ = Data.dict es ep := d
    cases d'
  have nsK : ∀ {b : Addr} {m : Str → Option Value}, s₁.heap.Ns b m → (Zgb s₁.heap H).Ns b m := fun {b m} ⟨o, es, ep, e, d, r⟩ => ⟨o, es, ep, base_of e (noA e d), d, r⟩
  have hKb : K.In (Zgb s₁.heap H) := fun b o e => base_of (KX b o e) (by
   cases q : H b with
   | none => rfl
   | some u =>
    have e' : b = a := hA b (by rw [q]; simp)
    subst e'
    rw [hK (by rw [q]; simp)] at e; cases e)
  have hM : Mod K mg (Zgb s₁.heap H) := ⟨hKb, nsK hns, ⟨mb, nsK hb, hbb⟩, let ⟨mc, h1, h2⟩ := hlim; ⟨mc, nsK h1, h2⟩⟩
  have e0 : Zjy P w K mg (Zgb s₁.heap H) callerA [] s₁ H := ⟨rfl, hM, fun b o e => Zhz e, Nat.le_of_eq (ZeQ _ _), trivial, fun b hb => absurd (show b ∈ ([] : List Addr) from hb) (by simp), hok, .of_eq hg⟩
  refine codeAny_mono ((F _ hKb (nsK hns)).run callerA [] s₁ H ⟨[.ref a], []⟩ [.ref a] [.ref a] _ _ hr e0 (hbind s₁ (.ref a)) (.cons rfl .nil) (hsp H hO hS)) fun r s' h => ?_
  cases r with
  | error e => exact (hCX H e s' h).elim
  | ok fl =>
   cases fl with
   | next => exact False.elim h
   | brk => exact False.elim h
   | cont => exact False.elim h
   | ret u =>
    obtain ⟨v, H', os, bare, un, hok', r', q⟩ := h
    have q' : v = .bl true := q
    subst q'
    obtain rfl : u = Value.bool true := r'
    refine ⟨rfl, OldK.of_keep fun b o e => ?_, os, bare⟩
    cases q : H b with
    | none => exact un.keep b o e q (by intro z; exact absurd (show b ∈ ([] : List Addr) from z) (by simp)) (by simp)
    | some u =>
     rcases hO b with z | ⟨ob, xs, z⟩
     ·rw [q] at z; cases z
     ·have z2 := un.frzs b ob _ z
      obtain ⟨e1, _⟩ := hok b _ z
      obtain ⟨e2, _⟩ := hok' b _ z2
      rw [e] at e1; cases e1
      exact e2
 cases hk : K.lookup a with
 | some o =>
  -- the script is one of the module's own objects
  have e := KX a o hk
  rw [ha] at e
  cases e
  refine core (fun _ => none) (fun _ => .inl rfl) (.inr ⟨_, vs.toArray, _, hk, rfl, rfl, rfl, by rw [List.size_toArray, lenV]; exact hl, by simpa using rv⟩) (fun b u z => by have z' : (none : Option HO) = some u := z; cases z') (fun b z => absurd rfl z) fun z => absurd rfl z
 | none =>
  refine core (fun b => if b = a then some (.frz { cls := .type "list", data := .seq vs.toArray } (.lst (ns.map V.int))) else none) (fun b => ?_) (.inl (.inr ⟨{ cls := .type "list", data := .seq vs.toArray }, if_pos rfl⟩)) (fun b u z => ?_) (fun b z => ?_) fun _ => hk
  ·by_cases hb : b = a
   ·exact .inr ⟨_, _, if_pos hb⟩
   ·exact .inl (if_neg hb)
  ·by_cases hb : b = a
   ·have z' := (if_pos hb).symm.trans z
    cases z'
    subst hb
    exact ⟨ha, by rw [List.length_map]; exact hl, vs, _, rv, ha⟩
   ·have z' := (if_neg hb).symm.trans z
    cases z'
  ·by_cases hb : b = a
   ·exact hb
   ·exact absurd (if_neg hb) z
theorem walk_of {l : PySem.W.OpenLaw} {n k : Nat} {q : Program} {loose : List Str} {XP : (Str → Option Value) → Heap → Prop} {YP : World → Heap → Prop} {d : DefRec} {K : Params → PySem.W.Frag} {CX : World → CXT} {sp : World → Sp} {x : Str}
  (hn : l.most = some n) (hn2 : n ≤ sizeLine) (hdf : d.params.defaults = []) (hr : Room k callerA)
  (hY : ∀ (w : World) (h : Heap), YP w h → (K w.params).In h)
  (F : ∀ (w : World) (mg : Str → Option Value) (fa : Addr) (h : Heap), (K w.params).In h → h.Ns mainGlobals mg → mg d.name = some (.ref fa) →
   ∃ fd : FuncData, (∀ (s : Shared) (u : Value), BindsTo s fd ⟨[u], []⟩ [(x, u)]) ∧
    ∀ base : Heap, (K w.params).In base → base.Ns mainGlobals mg → FnOk l.prog w (K w.params) mg base (CX w) k fa fd [x] (sp w))
  (hsp : ∀ (w : World) (H : Hp) (a : Addr) (ns : List Int), ns.length ≤ n → Zkk H → SqL (K w.params) H a (ns.map V.int) → sp w [.ref a] H (fun v _ => v = .bl true) fun _ _ _ => False)
  (hCX : ∀ (w : World) (H : Hp) (s : Shared) (e : Value) (s' : Shared), CX w [] H s (fun _ _ _ => False) e s' → False) :
  PySem.W.WalkO q loose XP YP l.row.toRowW d [] (fun f vs => PySem.call f vs) := by
 refine Att.attach_call hn hdf fun w s₀ s₁ mg mb fa o pm cd doc a vs ns G Y ho hd hcd hmg hobj hints hlen hg => ?_
 have KX := hY w _ Y
 obtain ⟨fd, hb, hF⟩ := F w mg fa _ KX G.T.g hmg
 exact Zf3 KX G.T.g G.T.b G.T.builtins G.T.nolimit hg hobj hints (Nat.le_trans hlen hn2) hr hF hb (fun H hO hS => hsp w H a ns hlen hO hS) fun H e s' => hCX w H s₁ e s'
def YT (s : Stmt) : Arguments := match s with
 | .FunctionDef _ a _ _ _ _ _ _ _ _ => a
 | _ => { posonlyargs := [], args := [], vararg := none, kwonlyargs := [], kw_defaults := [], kwarg := none, defaults := [] }
def Yt (s : Stmt) : List Stmt := match s with
 | .FunctionDef _ _ b _ _ _ _ _ _ _ => b
 | _ => []
def Zk (s : Stmt) : Scope := match s with
 | .FunctionDef _ _ _ _ _ _ sc _ _ _ => sc
 | _ => { kind := .function, names := [], isGenerator := false, isCoroutine := false }
abbrev CX0 : CXT := fun _ _ _ _ _ _ => False
abbrev E0 : XK := fun _ _ _ => False
theorem ZjY {X : Cx} : Zfh CX0 X E0 := fun _ _ _ _ _ _ _ h => h.elim
structure Fun (K : PySem.W.Frag) (x qual : Str) (st : Stmt) (f : Addr) (fd : FuncData) : Prop where
 ex : ∃ (oc : Value) (od : Option Addr) (kV doc pm : Value) (an : Option Addr) (cdv ct : Value) (osl : Array (Option Value)),
  fd = PySem.W.fnOf x qual (YT st) (Yt st) (Zk st) .none kV doc pm an cdv ct ∧ K.lookup f = some ⟨oc, od, .func fd, osl⟩ ∧ PySem.W.codeIn K cdv qual = true
 kp : PySem.W.keepIn K (.ref f) = true
section
variable {P : Program} {w : World} {K : PySem.W.Frag} {mg : Str → Option Value} {base : Heap}
theorem Fun.ok {x qual : Str} {st : Stmt} {f : Addr} {fd : FuncData} {N ps : List Str} {k : Nat} {sp : Sp} (F : Fun K x qual st f fd) (S : Zt N ps (Zk st)) (len : ∀ vs H Q E, sp vs H Q E → vs.length = ps.length)
  (hbody : ∀ (cdv : Value) (A : Around) (outer : List Env) (s : Shared) (H : Hp) (vs : List V) (Q : VK) (E : XK), Room k (A.deeper (envOfC qual (Zk st) s.heap.objs.size f cdv)) → sp vs H Q E →
   ∃ t, PSs (Zh3 CX0 P w K mg base N qual (Zk st) f cdv A outer s H E).nox (Yt st) t ∧ t { nx := fun _ H' => Q .non H', rt := Q } (start N vs) H) : FnOk P w K mg base CX0 (k + 1) f fd ps sp := by
 obtain ⟨oc, od, kV, doc, pm, an, cdv, ct, osl, rfl, lk, hcd⟩ := F.ex
 refine Zj9 lk hcd S len fun A outer s H vs Q E hr hsp => ?_
 obtain ⟨t, h, q⟩ := hbody cdv A outer s H vs Q E hr hsp
 exact ⟨t, h.nox, q⟩
theorem Fun.binds {x qual : Str} {st : Stmt} {f : Addr} {fd : FuncData} {ps : List Str} (F : Fun K x qual st f fd)
  (h : ∀ (kV doc pm : Value) (an : Option Addr) (cdv ct : Value) (us : List Value), us.length = ps.length → bindArgs (PySem.W.fnOf x qual (YT st) (Yt st) (Zk st) .none kV doc pm an cdv ct) ⟨us, []⟩ = pure (ps.zip us)) : Binds K fd ps [] := by
 obtain ⟨oc, od, kV, doc, pm, an, cdv, ct, osl, rfl, lk, hcd⟩ := F.ex
 exact .all (h kV doc pm an cdv ct)
theorem ZeU {x qual : Str} {st : Stmt} {f : Addr} {oc : Value} {od an : Option Addr} {osl : Array (Option Value)} {kV doc pm cdv ct : Value} (l : K.lookup f = some ⟨oc, od, .func (PySem.W.fnOf x qual (YT st) (Yt st) (Zk st) .none kV doc pm an cdv ct), osl⟩)
  (c : PySem.W.codeIn K cdv qual = true) (k : PySem.W.keepIn K (.ref f) = true) : Fun K x qual st f (PySem.W.fnOf x qual (YT st) (Yt st) (Zk st) .none kV doc pm an cdv ct) := ⟨⟨oc, od, kV, doc, pm, an, cdv, ct, osl, rfl, l, c⟩, k⟩
end
theorem ZaE {A : Around} {k : Nat} (hr : Room k A) : A.units + 1 < cLine := Nat.lt_of_le_of_lt (Nat.add_le_add_left (by decide : 1 ≤ 64) _) hr.units
theorem Zr {n : Nat} (h : n ≤ 1000) : n < sizeLine := Nat.lt_of_le_of_lt h (by decide)
section
variable {X : Cx}
theorem pv (i : Nat) {x : Str} {pos : Pos} (hN : X.N[i]? = some x := by rfl) (hv : Vis X.env.scope x := by first | exact Or.inl rfl | exact Or.inr (.inl rfl) | exact Or.inr (.inr rfl)) (hd : (x == ("__debug__" : Str)) = false := by decide)
  (hcd : (x == ("__classdict__" : Str)) = false := by decide) : PE X (.Name x pos) (ZjG i) := Ziz hN hv hd hcd
theorem Xr : CallR X (.builtin "len") (fun xs H Q => ∃ a kvs, xs = [V.ref a] ∧ H a = some (.dK kvs) ∧ Q (.int kvs.length) H) := by
 intro pins s σ H xs us Q I r h
 obtain ⟨a, kvs, rfl, ha, q⟩ := h
 obtain ⟨u, rfl, ru⟩ := Xt r
 cases ru
 exact Zkc I (.inl ha) fun t s' I' => ⟨.int kvs.length, H, I', ⟨t, rfl⟩, q⟩
end
theorem ZkT {A B : Prop} (h : B) : if false = true then A else B := by
 rw [if_neg Bool.false_ne_true]
 exact h
theorem Zjg {c A B : Prop} [Decidable c] (h1 : c → A) (h2 : ¬ c → B) : if c then A else B := by
 by_cases h : c
 ·rw [if_pos h]
  exact h1 h
 ·rw [if_neg h]
  exact h2 h
def Same (H H' : Hp) : Prop := ∀ b o, H b = some o → H' b = some o
theorem Same.refl (H : Hp) : Same H H := fun _ _ h => h
theorem Same.trans {H H1 H2 : Hp} (a : Same H H1) (b : Same H1 H2) : Same H H2 := fun c o h => b c o (a c o h)
theorem Same.free {H H' : Hp} (e : Same H H') {l : Addr} (h : H' l = Option.none) : H l = Option.none := by
 cases q : H l with
 | none => rfl
 | some o =>
  rw [e l o q] at h
  cases h
theorem Same.seq {K : PySem.W.Frag} {H H' : Hp} {a : Addr} {xs : List V} (e : Same H H') (h : SqL K H a xs) : SqL K H' a xs := by
 rcases h with (h | ⟨o, h⟩) | h
 ·exact .inl (.inl (e _ _ h))
 ·exact .inl (.inr ⟨o, e _ _ h⟩)
 ·exact .inr h
section
variable {κ : Type} [DecidableEq κ]
end
def YU (env : Env) : List (Str × NameKind) → List (Str × Addr) → List (Str × Addr)
 | [], cs => cs
 | y :: r, cs => YU env r (if y.2 == NameKind.free then (y.1, (env.cells.lookup y.1).getD 0) :: cs else cs)
theorem Jt {env : Env} (f : Str × NameKind → List (Str × Addr) → Sem (ForInStep (List (Str × Addr)))) :
  ∀ (ns : List (Str × NameKind)) (cs : List (Str × Addr)), (∀ y ∈ ns, ∀ c, f y c = pure (.yield (if y.2 == NameKind.free then (y.1, (env.cells.lookup y.1).getD 0) :: c else c))) →
   forIn ns cs f = pure (YU env ns cs)
 | [], cs, _ => rfl
 | y :: r, cs, h => by
  rw [List.forIn_cons, h y List.mem_cons_self, pure_bind]
  exact Jt f r _ fun z hz => h z (List.mem_cons_of_mem _ hz)
theorem ZaL {env : Env} {scope : Scope} (h : ∀ y ∈ scope.names, y.2 = .free → ∃ c, env.cells.lookup y.1 = some c) :
  closureFor scope env = pure (YU env scope.names []) := by
 simp only [closureFor]
 rw [Jt (env := env) _ _ _ (fun y hy c => ?_)]
 ·rfl
 ·obtain ⟨n, k⟩ := y
  cases hk : (k == NameKind.free) with
  | true =>
   obtain ⟨a, ha⟩ := h (n, k) hy (by simpa using hk)
   have ha' : env.cells.lookup n = some a := ha
   simp only [if_true, cellOf, ha', Option.getD_some, pure_bind]
  | false => simp only [Bool.false_eq_true, if_false]
theorem Zbu {env : Env} : ∀ (ns : List (Str × NameKind)) (cs : List (Str × Addr)), (∀ y ∈ ns, y.2 = .free → ∃ c, env.cells.lookup y.1 = some c) →
  (∀ n c, cs.lookup n = some c → env.cells.lookup n = some c) → ∀ n c, (YU env ns cs).lookup n = some c → env.cells.lookup n = some c
 | [], cs, _, h, n, c, e => h n c e
 | y :: r, cs, hf, h, n, c, e => by
  refine Zbu r _ (fun z hz => hf z (List.mem_cons_of_mem _ hz)) (fun n c e => ?_) n c e
  split at e
  ·rename_i hk
   obtain ⟨a, ha⟩ := hf y List.mem_cons_self (by simpa using hk)
   rw [ha, Option.getD_some] at e
   cases hn : n == y.1 with
   | true =>
    simp only [List.lookup_cons, hn] at e
    cases e
    rw [eq_of_beq hn]
    exact ha
   | false =>
    simp only [List.lookup_cons, hn] at e
    exact h n c e
  ·exact h n c e
theorem Jw {env : Env} : ∀ (ns : List (Str × NameKind)) (cs : List (Str × Addr)) (n : Str), ((n, NameKind.free) ∈ ns ∨ (cs.lookup n).isSome = true) →
  ((YU env ns cs).lookup n).isSome = true
 | [], cs, n, h => by
  rcases h with h | h
  ·cases h
  ·exact h
 | y :: r, cs, n, h => by
  refine Jw r _ n ?_
  rcases h with h | h
  ·rcases List.mem_cons.mp h with h | h
   ·right
    subst h
    simp
   ·exact .inl h
  ·right
   split
   ·cases hn : n == y.1 with
    | true => simp only [List.lookup_cons, hn]; rfl
    | false => simp only [List.lookup_cons, hn]; exact h
   ·exact h
def Zh9 (env : Env) (n : Str) (k : NameKind) : NameKind := if (k == NameKind.free && env.scope.kind == .function && env.kindOf n == some .cell) = true then .cell else k
theorem JM (env : Env) (x : Str) : ∀ names : List (Str × NameKind),
  (names.map fun (n, k) => if (k == NameKind.free && env.scope.kind == .function && env.kindOf n == some .cell) then (n, NameKind.cell) else (n, k)).lookup x = (names.lookup x).map (Zh9 env x)
 | [] => rfl
 | (n, k) :: r => by
  have ih := JM env x r
  have e1 : (if (k == NameKind.free && env.scope.kind == .function && env.kindOf n == some .cell) = true then (n, NameKind.cell) else (n, k)) = (n, Zh9 env n k) := by
   unfold Zh9
   split <;> rfl
  rw [List.map_cons]
  show List.lookup x ((if (k == NameKind.free && env.scope.kind == .function && env.kindOf n == some .cell) = true then (n, NameKind.cell) else (n, k)) :: _) = _
  rw [e1]
  cases hx : x == n with
  | true =>
   simp only [List.lookup_cons, hx]
   rw [eq_of_beq hx]
   rfl
  | false =>
   simp only [List.lookup_cons, hx]
   exact ih
theorem XG (scope : Scope) (env : Env) (x : Str) : (relabel scope env).names.lookup x = (scope.names.lookup x).map (Zh9 env x) := JM env x scope.names
def lcN (N xs : List Str) (mp : List Nat) : List Str := xs ++ mp.map fun j => N.getD j ""
def lcS (k : Nat) (mp : List Nat) (σ : St) : St := List.replicate k none ++ mp.map fun j => (σ[j]?).getD none
structure Zib (sc scope : Scope) (N xs : List Str) (mp : List Nat) : Prop where
 kind : scope.kind = .function
 nocell : ∀ y ∈ scope.names, y.2 ≠ .cell
 names : ∀ y ∈ scope.names, y.2 = .local → scope.names.lookup y.1 = some .local
 tg : ∀ x ∈ xs, scope.names.lookup x = some .local
 fr : ∀ y ∈ scope.names, y.2 = .free → sc.names.lookup y.1 = some .cell ∨ sc.names.lookup y.1 = some .free
 out : ∀ j ∈ mp, scope.names.lookup (N.getD j "") = some .free
 nd : (lcN N xs mp).Nodup
def ZhO (sc scope : Scope) (N xs : List Str) (mp : List Nat) : Bool :=
 decide (scope.kind = .function) && scope.names.all (fun y => decide (y.2 ≠ .cell)) && scope.names.all (fun y => decide (y.2 = .local → scope.names.lookup y.1 = some .local)) &&
  xs.all (fun x => decide (scope.names.lookup x = some .local)) && scope.names.all (fun y => decide (y.2 = .free → sc.names.lookup y.1 = some .cell ∨ sc.names.lookup y.1 = some .free)) &&
  mp.all (fun j => decide (scope.names.lookup (N.getD j "") = some .free)) && decide (lcN N xs mp).Nodup
theorem Zf2 {sc scope : Scope} {N xs : List Str} {mp : List Nat} (h : ZhO sc scope N xs mp = true) : Zib sc scope N xs mp := by
 simp only [ZhO, Bool.and_eq_true, List.all_eq_true, decide_eq_true_eq] at h
 obtain ⟨⟨⟨⟨⟨⟨h1, h2⟩, h3⟩, h4⟩, h5⟩, h6⟩, h7⟩ := h
 exact ⟨h1, h2, h3, h4, h5, h6, h7⟩
abbrev lcx (X : Cx) (M : List Str) (scope : Scope) (cl : List (Str × Addr)) (C : Addr) (s₀ : Shared) (H₀ : Hp) (fp : List Addr) : Cx where
 prog := X.prog
 w := X.w
 K := X.K
 mg := X.mg
 base := X.base
 A := X.A
 N := M
 s₀ := s₀
 H₀ := H₀
 env := compEnvC scope cl C X.env
 outer := X.stack
 stack := X.stack
 ex := fp
 fn := fun _ => false
 calm := X.calm
 pn := []
 xe := fun _ _ => False
section
variable {X : Cx} {pins : List (Addr × Obj)} {σ : St} {H₀ : Hp} {s₀ : Shared} {scope sc : Scope} {N xs : List Str} {mp : List Nat} {fp : List Addr}
theorem ZcE (I : Inv X pins σ H₀ s₀) (hsc : X.env.scope = sc) (S : Zib sc scope N xs mp) : ∀ y ∈ scope.names, y.2 = .free → ∃ c, X.env.cells.lookup y.1 = some c := fun y hy e => by
 refine I.ok.has y.1 ?_
 have q := S.fr y hy e
 rw [← hsc] at q
 exact q
theorem ZgM (I : Inv X pins σ H₀ s₀) (hsc : X.env.scope = sc) (S : Zib sc scope N xs mp) {n : Str} {c : Addr} (e : (YU X.env scope.names []).lookup n = some c) : X.env.cells.lookup n = some c :=
 Zbu scope.names [] (ZcE I hsc S) (fun _ _ z => nomatch z) n c e
theorem Zi1 {h₁ : Heap} {o : Obj} {m : Str → Option Value} {tk : Nat} (I : Inv X pins σ H₀ s₀) (hsc : X.env.scope = sc) (S : Zib sc scope N xs mp) (hf : ∀ b ∈ fp, Zcg X pins H₀ b)
  (hx : ∀ b ∈ fp, ∃ ob, s₀.heap.get? b = some ob) (hns : h₁.Ns s₀.heap.objs.size m) (hsb : Heap.SameBut s₀.heap.objs.size (s₀.heap.push o) h₁) :
  Inv (lcx X (lcN N xs mp) scope (YU X.env scope.names []) s₀.heap.objs.size s₀ H₀ fp) [] (List.replicate (xs.length + mp.length) none) H₀ { s₀ with heap := h₁, toks := tk } := by
 have kp : ∀ b u, s₀.heap.get? b = some u → h₁.get? b = some u := fun b u e => hsb.extBut b u (Nat.ne_of_lt (Heap.lt_size e)) (Heap.get?_push_of_some _ e)
 have sub := @ZgM X pins σ H₀ s₀ scope sc N xs mp I hsc S
 refine ⟨⟨I.ok.mod, S.kind, I.ok.glob, I.ok.blt, Nat.le_refl _, fun x y c e1 e2 => I.ok.inj x y c (sub e1) (sub e2), fun x hk => ?_, fun x c h _ => (Bool.false_ne_true h).elim, I.ok.hd, I.ok.frames, .inl rfl,
  fun b hb => ⟨?_, fun x c e => (hf b hb).2.2.2.2.1 x c (sub e)⟩, fun b o e => I.bs b o e, Nat.le_trans I.ok.bsz I.sz, fun b o e hb => ?_, fun b hb z => ?_, I.stack, I.stkFree⟩,
  rfl, I.bare, Un.kept kp, ⟨m, hns, fun i x v _ e2 _ => ?_⟩, fun x c e => ?_, I.hok.fresh (Nat.le_refl _), fun x c e => I.freeC x c (sub e), fun p hp => absurd (show p ∈ ([] : List (Addr × Obj)) from hp) (by simp), I.hok.kept kp, ?_⟩
 ·have hk' : (relabel scope X.env).names.lookup x = some .cell ∨ (relabel scope X.env).names.lookup x = some .free := hk
  rw [XG] at hk'
  cases e : scope.names.lookup x with
  | none => rw [e] at hk'; rcases hk' with z | z <;> cases z
  | some k =>
   have mem : (x, k) ∈ scope.names := PySem.mem_of_lookup e
   have hkf : k = .free := by
    rw [e] at hk'
    have n1 := S.nocell _ mem
    simp only [Option.map_some, Option.some.injEq] at hk'
    unfold Zh9 at hk'
    split at hk'
    ·rename_i hc
     simp only [Bool.and_eq_true] at hc
     simpa using hc.1.1
    ·rcases hk' with z | z
     ·exact absurd z n1
     ·exact z
   subst hkf
   exact Option.isSome_iff_exists.mp (Jw scope.names [] x (.inl mem))
 ·obtain ⟨ob, e⟩ := hx b hb
  exact Nat.ne_of_lt (Heap.lt_size e)
 ·rcases (hf b hb).2.2.2.1 with z | z
  ·exact I.ok.noex b o e z
  ·exact absurd (Nat.lt_of_lt_of_le (Heap.lt_size (I.ok.bs b o e).1) z) (Nat.lt_irrefl _)
 ·rcases List.mem_cons.mp (I.stkSub b z) with e | e
  ·exact (hf b hb).2.1 e
  ·exact (hf b hb).2.2.1 e
 ·rw [List.getElem?_replicate] at e2
  split at e2 <;> cases e2
 ·obtain ⟨v, ob, ho, hd⟩ := I.cell x c (sub e)
  exact ⟨v, ob, kp c ob ho, hd⟩
 ·show (List.replicate (xs.length + mp.length) none : St).length = (lcN N xs mp).length
  simp [lcN]
theorem ZcC {pY : List (Addr × Obj)} {σ' : St} {H : Hp} {s' : Shared} {C : Addr} (I : Inv X pins σ H₀ s₀) (hsc : X.env.scope = sc) (hN : X.N = N) (S : Zib sc scope N xs mp) (hf : ∀ b ∈ fp, Zcg X pins H₀ b)
  (J : Inv (lcx X (lcN N xs mp) scope (YU X.env scope.names []) C s₀ H₀ fp) pY σ' H s') : Inv (lcx X (lcN N xs mp) scope (YU X.env scope.names []) C s₀ H₀ fp) pY (lcS xs.length mp σ) H s' := by
 obtain ⟨m, hn, _⟩ := J.loc
 refine ⟨J.ok, J.os, J.bare, J.base, ⟨m, hn, fun i x v e1 e2 e3 => ?_⟩, J.cell, J.free, J.freeC, J.pin, J.hok, ?_⟩
 ·have e1' : (lcN N xs mp)[i]? = some x := e1
  unfold lcN at e1'
  unfold lcS at e2
  by_cases hi : i < xs.length
  ·rw [List.getElem?_append_left (by simpa using hi), List.getElem?_replicate, if_pos hi] at e2
   cases e2
  ·rw [List.getElem?_append_right (by simpa using hi), List.length_replicate, List.getElem?_map] at e2
   rw [List.getElem?_append_right (by simpa using hi), List.getElem?_map] at e1'
   cases ej : mp[i - xs.length]? with
   | none => rw [ej] at e2; cases e2
   | some j =>
    rw [ej] at e1' e2
    have e1'' : N.getD j "" = x := Option.some.inj e1'
    have e2' : (σ[j]?).getD none = some v := Option.some.inj e2
    have e2'' : σ[j]? = some (some v) := by
     cases q : σ[j]? with
     | none => rw [q] at e2'; cases e2'
     | some z => rw [q] at e2'; exact congrArg some e2'
    have hj : j < N.length := by
     have h1 := (List.getElem?_eq_some_iff.mp e2'').1
     rw [I.len, hN] at h1
     exact h1
    have eN : N[j]? = some x := by
     rw [← e1'', List.getD_eq_getElem?_getD]
     cases q : N[j]? with
     | none => exact absurd (List.getElem?_eq_none_iff.mp q) (by omega)
     | some z => rfl
    have fr : scope.names.lookup x = some .free := by rw [← e1'']; exact S.out j (List.mem_of_getElem? ej)
    have mem : (x, NameKind.free) ∈ scope.names := PySem.mem_of_lookup fr
    have kX : X.env.scope.names.lookup x = some .cell ∨ X.env.scope.names.lookup x = some .free := by
     rw [hsc]
     exact S.fr _ mem rfl
    obtain ⟨mX, hnX, hl⟩ := I.loc
    obtain ⟨u, r, lk⟩ := hl j x v (by rw [hN]; exact eN) e2'' (.inr kX)
    rcases lk with ⟨k, _⟩ | ⟨k, c, hc, hcell⟩
    ·have k' : X.env.scope.names.lookup x = some .local := k
     rw [k'] at kX
     rcases kX with z | z <;> cases z
    ·refine ⟨u, r, .inr ⟨?_, c, ?_, ?_⟩⟩
     ·show (relabel scope X.env).names.lookup x = some .cell ∨ (relabel scope X.env).names.lookup x = some .free
      rw [XG, fr]
      simp only [Option.map_some]
      unfold Zh9
      split
      ·exact .inl rfl
      ·exact .inr rfl
     ·obtain ⟨c', e'⟩ := Option.isSome_iff_exists.mp (Jw (env := X.env) scope.names [] x (.inl mem))
      have e'' := ZgM I hsc S e'
      rw [hc] at e''
      cases e''
      exact e'
     ·obtain ⟨ob, ho, hd⟩ := hcell
      obtain ⟨sl, q⟩ := J.base.any ho (I.freeC x c hc) fun z => (hf c z).2.2.2.2.1 x c hc rfl
      exact ⟨_, q, hd⟩
 ·show (lcS xs.length mp σ).length = (lcN N xs mp).length
  simp [lcS, lcN]
theorem ZhN {pY : List (Addr × Obj)} {σ' : St} {H : Hp} {s' : Shared} {C : Addr} {M : List Str} {cl : List (Str × Addr)} (I : Inv X pins σ H₀ s₀) (hf : ∀ b ∈ fp, Zcg X pins H₀ b)
  (J : Inv (lcx X M scope cl C s₀ H₀ fp) pY σ' H s') : Inv X pins σ H s' :=
 I.call' (ch := fp) J.os J.base J.hok J.bare fun b hb => ⟨(hf b hb).2.2.2.1, (hf b hb).2.1, (hf b hb).2.2.2.2.1, (hf b hb).2.2.2.2.2⟩
end
theorem Zca {prog : Program} {w : World} {A : Around} {R : Result → Shared → Prop} {s : Shared} {elt target iter : Expr} {ifs : List Expr} {scope : Scope} {pos : Pos} {it acc : Value} {env : Env} (I : Nat → Shared → Prop)
  (turn : ∀ n s, I n s → wpAny (model prog w) A (pyNext it) (fun r s1 => match r with
   | none => R (.ok .next) s1
   | some v => wpAny (model prog w) A (letOwnedTupleGo target it v) (fun _ s1' => wpAny (model prog w) A (assign target env v) (fun _ s2 =>
     wpAny (model prog w) A (forIn ifs true fun c r => if r = true then do let ok ← isTrue c env (eval c env); pure (ForInStep.yield ok) else pure (ForInStep.yield r)) (fun ok s3 =>
      if ok = true then wpAny (model prog w) A (eval elt env) (fun x s4 => wpAny (model prog w) A (call (.builtin "list.append") [acc, x]) (fun _ s5 => ∃ m, m < n ∧ I m s5) (fun _ _ => False) s4) (fun _ _ => False) s3
      else ∃ m, m < n ∧ I m s3) (fun _ _ => False) s2) (fun _ _ => False) s1') (fun _ _ => False) s1) (fun _ _ => False) s)
  (n : Nat) (h : I n s) : codeAny (model prog w) A (.compLoop (.ListComp elt [⟨target, iter, ifs, 0⟩] scope pos) 0 it acc env) R s := by
 refine codeAny_loop rfl I (fun n s hI => ?_) n h
 show wpAny (model prog w) A ((compTurn (.ListComp elt [⟨target, iter, ifs, 0⟩] scope pos) 0 it acc env).onRaise (fun x => do noteFrame x env; theTreesLotGoes x)) _ _ s
 refine wpAny_noted ?_
 rw [compTurn_list]
 refine wpAny_bind (wpAny_standAt (wpAny_bind (wpAny_mono (turn n s hI) (fun r s1 h1 => ?_) fun _ _ z => z.elim)))
 cases r with
 | none => exact wpAny_pure h1
 | some v =>
  refine wpAny_bind (wpAny_mono h1 (fun _ s1' h1' => ?_) fun _ _ z => z.elim)
  refine wpAny_bind (wpAny_mono h1' (fun _ s2 h2 => wpAny_bind (wpAny_mono h2 (fun ok s3 h3 => ?_) fun _ _ z => z.elim)) fun _ _ z => z.elim)
  cases ok with
  | false => exact wpAny_pure ⟨rfl, h3⟩
  | true => exact wpAny_bind (wpAny_bind (wpAny_mono h3 (fun x s4 h4 => wpAny_bind (wpAny_mono h4 (fun _ s5 h5 => wpAny_pure (wpAny_pure ⟨rfl, h5⟩)) fun _ _ z => z.elim)) fun _ _ z => z.elim))
def PCs (X : Cx) (ifs : List Expr) (t : TT) : Prop :=
 ∀ (pins : List (Addr × Obj)) (s : Shared) (σ : St) (H : Hp) (Q : Bool → Hp → Prop), Inv X pins σ H s → t σ H Q →
  wpAny (model X.prog X.w) X.A (forIn ifs true fun c r => if r = true then do let ok ← isTrue c X.env (eval c X.env); pure (ForInStep.yield ok) else pure (ForInStep.yield r)) (TP X pins σ Q) X.xe s
def ZjF : TT := fun _ H Q => Q true H
theorem Je {X : Cx} : PCs X [] ZjF := fun _ _ _ H _ I h => wpAny_tests_nil ⟨H, I, h⟩
theorem ZbO {X : Cx} {c : Expr} {t : TT} (h : PT X c t) : PCs X [c] t := fun pins s σ H Q I hw => wpAny_tests_one (h pins s σ H Q I hw)
def Zbf (k : Nat) (mp : List Nat) (σ : St) (g : TG) (tc : TT) (te : TE) (J : It) (H1 : Hp) (Q : VK) : Prop :=
 ∀ D, H1 D = none → ∃ W : Nat → Nat → List V → Hp → Prop, (∃ m, W 0 m [] (upd H1 D (.lst []))) ∧ ∀ i m acc H2, W i m acc H2 →
  (J.stop i H2 ∧ Q (.ref D) H2) ∨ (J.go i H2 ∧ ∀ x H3, J.yld i H2 x H3 → g x (lcS k mp σ) H3 fun σ4 H4 => tc σ4 H4 fun b H5 =>
   if b = true then te σ4 H5 fun v H6 => H6 D = some (.lst acc) ∧ acc.length < sizeLine ∧ ∃ m', m' < m ∧ W (i + 1) m' (acc ++ [v]) (upd H6 D (.lst (acc ++ [v])))
   else ∃ m', m' < m ∧ W (i + 1) m' acc H5)
def tLc (k : Nat) (mp : List Nat) (wi : TI) (g : TG) (tc : TT) (te : TE) : TE := fun σ H Q => wi σ H fun J H1 => Zbf k mp σ g tc te J H1 Q
section
variable {X : Cx} {pins : List (Addr × Obj)} {σ : St} {elt tgt iter : Expr} {ifs : List Expr} {scope sc : Scope} {pos : Pos} {N xs : List Str} {mp : List Nat} {wi : TI} {g : TG} {tc : TT} {te : TE}
theorem Zi0 {H2 : Hp} {s2 : Shared} {it : Addr} {fp : List Addr} {tn : Nat → Heap → Prop} {J : It} {Qv : VK} {E : Value → Shared → Prop} {RR : Value → Addr → Result → Shared → Prop}
  (hsc : X.env.scope = sc) (hN : X.N = N) (S : Zib sc scope N xs mp) (hcalm : X.calm = true)
  (hg : ∀ cl C s₀ H₀ fp, PG (lcx X (lcN N xs mp) scope cl C s₀ H₀ fp) tgt g) (hc : ∀ cl C s₀ H₀ fp, PCs (lcx X (lcN N xs mp) scope cl C s₀ H₀ fp) ifs tc) (he : ∀ cl C s₀ H₀ fp, PE (lcx X (lcN N xs mp) scope cl C s₀ H₀ fp) elt te)
  (I2 : Inv X pins σ H2 s2) (T : Zg3 X.prog X.w X.K tgt J fp it tn) (st2 : tn 0 s2.heap) (f2 : ∀ b ∈ fp, Zcg X pins H2 b) (h : Zbf xs.length mp σ g tc te J H2 Qv)
  (hRR : ∀ (D C : Addr) (s' : Shared) (H' : Hp) (m : Str → Option Value), s'.heap.Ns C m → Inv X pins σ H' s' → Zcg X pins H' C → Qv (.ref D) H' → RR (.ref D) C (.ok .next) s') :
  wpAny (model X.prog X.w) X.A (newList []) (fun acc s3 => wpAny (model X.prog X.w) X.A (newFunctionEnv scope X.env.globals (YU X.env scope.names []) [] X.env.qual none .none (some X.env)) (fun cenv s4 =>
   codeAny (model X.prog X.w) X.A (.compStart (.ListComp elt [⟨tgt, iter, ifs, 0⟩] scope pos) 0 (.ref it) acc { cenv with scope := relabel scope X.env }) (RR acc cenv.locals) s4) E s3) E s2 := by
 have hD : H2 s2.heap.objs.size = none := I2.hok.fresh (Nat.le_refl _)
 obtain ⟨W, ⟨m0, w0⟩, turn⟩ := h s2.heap.objs.size hD
 refine wpAny_newObj_type (wpAny_newFunctionEnv S.nocell (by intro y hy; simp at hy) (fun h1 hns1 hsb1 => ?_) S.kind)
 dsimp only at hns1 hsb1 ⊢
 have fpD : ∀ b ∈ fp, b ≠ s2.heap.objs.size := fun b hb => by
  obtain ⟨o, e, _⟩ := T.obj _ _ st2 b hb
  exact Nat.ne_of_lt (Heap.lt_size e)
 have I3 : Inv X pins σ (upd H2 s2.heap.objs.size (.lst [])) { s2 with heap := s2.heap.push { cls := .type "list", dict := none, data := .seq ([] : List Value).toArray } } :=
  I2.laid (t' := s2.toks) (fun b u e => Heap.get?_push_of_some _ e) (Nat.le_refl _) ⟨Nat.zero_le _, [], 0, .nil, Heap.get?_push_size _ rfl⟩
 have f3 : ∀ b ∈ fp, Zcg X pins (upd H2 s2.heap.objs.size (.lst [])) b := fun b hb => ⟨by rw [Zg (fpD b hb)]; exact (f2 b hb).1, (f2 b hb).2⟩
 generalize hs3 : ({ s2 with heap := s2.heap.push { cls := .type "list", dict := none, data := .seq ([] : List Value).toArray } } : Shared) = s3 at I3
 have hh3 : s2.heap.push { cls := .type "list", dict := none, data := .seq ([] : List Value).toArray } = s3.heap := by rw [← hs3]
 have kp3 : ∀ b o, s2.heap.get? b = some o → s3.heap.get? b = some o := fun b o e => by rw [← hh3]; exact Heap.get?_push_of_some _ e
 rw [hh3] at hns1 hsb1 ⊢
 have st3 : tn 0 s3.heap := T.keep _ _ _ st2 fun b _ o e => kp3 b o e
 have x3 : ∀ b ∈ fp, ∃ o, s3.heap.get? b = some o := fun b hb => by
  obtain ⟨o, e, _⟩ := T.obj _ _ st3 b hb
  exact ⟨o, e⟩
 have st4 : tn 0 h1 := T.keep _ _ _ st3 fun b _ o e => hsb1.extBut b o (Nat.ne_of_lt (Heap.lt_size e)) (Heap.get?_push_of_some _ e)
 have I4 := fun tk => ZcC I3 hsc hN S f3 (Zi1 (tk := tk) I3 hsc S f3 x3 hns1 hsb1)
 have key : ∀ s4 : Shared, s4 = { s3 with heap := h1, toks := s4.toks } → codeAny (model X.prog X.w) X.A (.compLoop (.ListComp elt [⟨tgt, iter, ifs, 0⟩] scope pos) 0 (.ref it) (.ref s2.heap.objs.size) (compEnvC scope (YU X.env scope.names []) s3.heap.objs.size X.env))
   (RR (.ref s2.heap.objs.size) s3.heap.objs.size) s4 := by
  intro s4 hs4
  have stat : ∀ {H' : Hp}, (∀ b ∈ fp, H' b = none) → ∀ b ∈ fp, Zcg (lcx X (lcN N xs mp) scope (YU X.env scope.names []) s3.heap.objs.size s3 (upd H2 s2.heap.objs.size (.lst [])) fp) [] H' b := fun hn b hb =>
   ⟨hn b hb, ((I4 0).ok.exf b hb).1, (I4 0).ok.exfs b hb, .inl hb, ((I4 0).ok.exf b hb).2, fun p hp => absurd (show p ∈ ([] : List (Addr × Obj)) from hp) (by simp)⟩
  refine Zca (fun n s' => ∃ i acc H', Inv (lcx X (lcN N xs mp) scope (YU X.env scope.names []) s3.heap.objs.size s3 (upd H2 s2.heap.objs.size (.lst [])) fp) [] (lcS xs.length mp σ) H' s' ∧ tn i s'.heap ∧ (∀ b ∈ fp, H' b = none) ∧ W i n acc H') ?_ m0
   ⟨0, [], _, (by rw [hs4]; exact I4 _), (by rw [hs4]; exact st4), fun b hb => (f3 b hb).1, w0⟩
  rintro n s6 ⟨i, acc, H6, I6, st6, fr6, w6⟩
  rcases turn i n acc H6 w6 with ⟨stop, q⟩ | ⟨go, step⟩
  ·refine thn (T.done (lcx X (lcN N xs mp) scope (YU X.env scope.names []) s3.heap.objs.size s3 (upd H2 s2.heap.objs.size (.lst [])) fp) rfl rfl rfl hcalm i [] s6 _ H6 _ I6 (stat fr6) st6 stop) fun r s7 ⟨hr, I7⟩ => ?_
   subst hr
   obtain ⟨m7, hn7, _⟩ := I7.loc
   exact hRR _ _ s7 H6 m7 hn7 (ZhN I3 f3 I7) (I3.fpOk (Nat.le_refl _) I7.free) q
  ·refine thn (T.item (lcx X (lcN N xs mp) scope (YU X.env scope.names []) s3.heap.objs.size s3 (upd H2 s2.heap.objs.size (.lst [])) fp) rfl rfl rfl hcalm i [] s6 _ H6 _ I6 (stat fr6) st6 go) fun r s7 ⟨u, hr, h7⟩ => ?_
   subst hr
   refine thn h7 fun _ s8 ⟨x, H8, I8, r8, y8, st8, fr8⟩ => ?_
   have I8' := I8.pinned (stat fr8) (T.obj _ _ st8)
   have again : ∀ {σ' : St} {H' : Hp} {s' : Shared}, Inv (lcx X (lcN N xs mp) scope (YU X.env scope.names []) s3.heap.objs.size s3 (upd H2 s2.heap.objs.size (.lst [])) fp) ([] ++ Za6 fp s8.heap) σ' H' s' → (∃ m acc', m < n ∧ W (i + 1) m acc' H') →
     ∃ m, m < n ∧ ∃ i acc H', Inv (lcx X (lcN N xs mp) scope (YU X.env scope.names []) s3.heap.objs.size s3 (upd H2 s2.heap.objs.size (.lst [])) fp) [] (lcS xs.length mp σ) H' s' ∧ tn i s'.heap ∧ (∀ b ∈ fp, H' b = none) ∧ W i m acc H' := by
    intro σ' H' s' J ⟨m, acc', hm, w'⟩
    refine ⟨m, hm, i + 1, acc', H', ZcC I3 hsc hN S f3 J.unpinned, T.keep _ _ _ st8 fun b hb o e => (J.pin (b, o) (List.mem_append_right _ (List.mem_append_right _ (Y1 hb e)))).1, fun b hb => ?_, w'⟩
    obtain ⟨o, e, _⟩ := T.obj _ _ st8 b hb
    exact (J.pin (b, o) (List.mem_append_right _ (List.mem_append_right _ (Y1 hb e)))).2.1
   refine thn (hg _ _ _ _ _ _ s8 _ H8 x u _ I8' r8 (step x H8 y8)) fun _ s9 ⟨σ9, H9, I9, q9⟩ => ?_
   refine thn (hc _ _ _ _ _ _ s9 σ9 H9 _ I9 q9) fun b s10 ⟨H10, I10, q10⟩ => ?_
   cases b with
   | false =>
    obtain ⟨m', hm, w'⟩ := q10
    exact again I10 ⟨m', acc, hm, w'⟩
   | true =>
    refine thn (he _ _ _ _ _ _ s10 σ9 H10 _ I10 q10) fun yv s11 ⟨v, H11, I11, r11, hDa, hz, m', hm, w'⟩ => ?_
    refine thn (Zbe _ s11 σ9 H11 (.ref s2.heap.objs.size) [v] (.ref s2.heap.objs.size) [yv] (fun _ H12 => H12 = upd H11 s2.heap.objs.size (.lst (acc ++ [v]))) I11 rfl (.cons r11 .nil) ⟨_, acc, v, rfl, rfl, hDa, hz, rfl⟩) fun _ s12 ⟨_, H12, I12, _, e12⟩ => ?_
    subst e12
    exact again I12 ⟨m', _, hm, w'⟩
 subst hs3
 exact codeAny_compStart_list (key _ rfl) (T.self X.A 0 _ _ _ st4 (key _ rfl))
theorem Yp (sc : Scope) (N xs : List Str) (mp : List Nat) (hcalm : X.calm = true) (hi : PI X tgt iter wi) (hg : ∀ cl C s₀ H₀ fp, PG (lcx X (lcN N xs mp) scope cl C s₀ H₀ fp) tgt g)
  (hc : ∀ cl C s₀ H₀ fp, PCs (lcx X (lcN N xs mp) scope cl C s₀ H₀ fp) ifs tc) (he : ∀ cl C s₀ H₀ fp, PE (lcx X (lcN N xs mp) scope cl C s₀ H₀ fp) elt te)
  (S : ZhO sc scope N xs mp = true := by decide +kernel) (hsc : X.env.scope = sc := by rfl) (hN : X.N = N := by rfl) (hs : ∀ x, foldedSetIterable iter X.env x = pure x := by intro _; rfl) :
  PE X (.ListComp elt [⟨tgt, iter, ifs, 0⟩] scope pos) (tLc xs.length mp wi g tc te) := by
 intro pins s σ H Q I h
 have S' := Zf2 S
 rw [eval_ListComp]
 refine wpAny_comprehension_free (use := none) rfl hs (ZaL (ZcE I hsc S')) S'.kind S'.names (thn (hi pins s σ H _ I h) fun v s1 h1 => thn h1 fun itv s2 h2 => ?_)
 obtain ⟨it, fp, tn, J, H2, e, I2, T, st2, f2, h3⟩ := h2
 subst e
 refine Zi0 (RR := fun acc C => compPost (model X.prog X.w) X.A X.xe none (EP X pins σ Q) acc C) hsc hN S' hcalm hg hc he I2 T st2 f2 h3 ?_
 intro D C s' H' m hn I' fC q
 exact ⟨m, hn, fun h' hs' => ⟨.ref D, H', I'.turned (t' := s'.toks) (fun b o hb e => hs'.extBut b o hb e) fC.1 fC.2.1 fC.2.2.2.1 fC.2.2.2.2.1 fC.2.2.2.2.2, rfl, q⟩⟩
end
def TSame (H H' : Hp) : Prop := ∀ b xs, H b = some (.tup xs) → H' b = some (.tup xs)
theorem Same.tup {H H' : Hp} (h : Same H H') : TSame H H' := fun b xs e => h b _ e
theorem TSame.trans {H H1 H2 : Hp} (a : TSame H H1) (b : TSame H1 H2) : TSame H H2 := fun c xs e => b c xs (a c xs e)
theorem Yz {H : Hp} {D : Addr} {xs ys : List V} (h : H D = some (.lst xs)) : TSame H (upd H D (.lst ys)) := fun b zs e => by
 rw [Zg (fun z => by rw [z, h] at e; cases e)]
 exact e
theorem Zb {H : Hp} {D : Addr} {o : HO} (h : H D = none) : Same H (upd H D o) := fun b u e => by
 rw [Zg (Zj e h)]
 exact e
theorem ZcD {k : Nat} {mp : List Nat} {σ : St} {g : TG} {te : TE} {J : It} {H1 : Hp} {Q : VK} (n : Nat) (xs : Nat → V) (R : Nat → V → Hp → Prop) (hn : n ≤ sizeLine)
  (hR : ∀ i v H H', TSame H H' → R i v H → R i v H')
  (hJ : ∀ H, Same H1 H → (∀ i, i < n → J.go i H ∧ ∀ x H', J.yld i H x H' → H' = H ∧ x = xs i) ∧ J.stop n H)
  (step : ∀ i H (Qe : VK), i < n → Same H1 H → (∀ v H6, Same H H6 → R i v H6 → Qe v H6) → g (xs i) (lcS k mp σ) H fun σ4 H4 => te σ4 H4 Qe)
  (done : ∀ D vs H', vs.length = n → (∀ i v, vs[i]? = some v → R i v H') → Same H1 H' → H1 D = none → H' D = some (.lst vs) → Q (.ref D) H') : Zbf k mp σ g ZjF te J H1 Q := by
 intro D hD
 refine ⟨fun i m acc H => m = n - i ∧ i ≤ n ∧ acc.length = i ∧ Same H1 H ∧ H D = some (.lst acc) ∧ ∀ j v, acc[j]? = some v → R j v H, ⟨n, by simp, Nat.zero_le _, rfl, Zb hD, Zd, fun j v e => by simp at e⟩, ?_⟩
 rintro i m acc H ⟨rfl, hi, hl, hs, hDa, hr⟩
 obtain ⟨j1, j2⟩ := hJ H hs
 by_cases hlt : i < n
 ·refine .inr ⟨(j1 i hlt).1, fun x H3 y => ?_⟩
  obtain ⟨e1, e2⟩ := (j1 i hlt).2 x H3 y
  subst e1 e2
  refine step i H3 _ hlt hs fun v H6 s6 r6 => ⟨s6 _ _ hDa, by omega, n - (i + 1), by omega, rfl, hlt, by rw [List.length_append, hl]; rfl, fun b o e => ?_, Zd, fun j u e => ?_⟩
  ·rw [Zg (Zj e hD)]
   exact s6 _ _ (hs b o e)
  ·have ts : TSame H6 (upd H6 D (.lst (acc ++ [v]))) := Yz (s6 _ _ hDa)
   rcases Nat.lt_trichotomy j acc.length with h | h | h
   ·rw [List.getElem?_append_left h] at e
    exact hR _ _ _ _ (s6.tup.trans ts) (hr j u e)
   ·subst h
    rw [List.getElem?_append_right (Nat.le_refl _), Nat.sub_self] at e
    cases e
    rw [hl]
    exact hR _ _ _ _ ts r6
   ·rw [List.getElem?_eq_none (by rw [List.length_append, List.length_singleton]; omega)] at e
    cases e
 ·have e : i = n := by omega
  subst e
  exact .inl ⟨j2, done D acc H hl hr hs hD hDa⟩
theorem ZhT {K : PySem.W.Frag} {a : Addr} {ys : List V} {H1 : Hp} (h : SqL K H1 a ys) : ∀ H, Same H1 H → (∀ i, i < ys.length → (Itl K a).go i H ∧ ∀ x H', (Itl K a).yld i H x H' → H' = H ∧ x = ys.getD i .non) ∧ (Itl K a).stop ys.length H := fun H s => by
 have q := s.seq h
 refine ⟨fun i hi => ⟨⟨ys, ys[i], q, by simp [hi]⟩, fun x H' y => ⟨y.1, ?_⟩⟩, ⟨ys, q, Nat.le_refl _⟩⟩
 have e := y.2 ys q
 rw [List.getD_eq_getElem?_getD, e]
 rfl
theorem Same.tupS {K : PySem.W.Frag} {H H' : Hp} {a : Addr} {xs : List V} (e : Same H H') (h : SqT K H a xs) : SqT K H' a xs := by
 rcases h with (h | ⟨o, h⟩) | h
 ·exact .inl (.inl (e _ _ h))
 ·exact .inl (.inr ⟨o, e _ _ h⟩)
 ·exact .inr h
theorem Zbh {K : PySem.W.Frag} {a : Addr} {ys : List V} {H1 : Hp} (h : SqT K H1 a ys) : ∀ H, Same H1 H → (∀ i, i < ys.length → (Itt K a).go i H ∧ ∀ x H', (Itt K a).yld i H x H' → H' = H ∧ x = ys.getD i .non) ∧ (Itt K a).stop ys.length H := fun H s => by
 have q := s.tupS h
 refine ⟨fun i hi => ⟨⟨ys, ys[i], q, by simp [hi]⟩, fun x H' y => ⟨y.1, ?_⟩⟩, ⟨ys, q, Nat.le_refl _⟩⟩
 have e := y.2 ys q
 rw [List.getD_eq_getElem?_getD, e]
 rfl
section
variable {X : Cx}
def ZkM : V → Option Int → Option Int → Hp → VK → Prop := fun x lo hi H Q => ∃ z : Str, x = .str z ∧ z.length ≤ sizeLine ∧ Q (.str (Txt.slice z lo hi)) H
theorem ZQ : SlR X ZkM := by
 intro pins s σ H x v vl vu lo hi sl Q I rx hs pl pu h
 obtain ⟨z, rfl, hz, q⟩ := h
 obtain ⟨t, rfl⟩ := rx
 have fin : ∀ t' k, EP X pins σ Q (.str (Txt.slice z lo hi) t') { s with toks := k } := fun t' k => ⟨.str _, H, I.tok _, ⟨_, rfl⟩, q⟩
 have hle : (Txt.slice z lo hi).length ≤ sizeLine := Nat.le_trans (Txt.slice_le z _ _) hz
 cases pl with
 | none =>
  cases pu with
  | none => exact ⟨"str", _, F.slot_str_getitem.lookup, typeIs_str _ _ _, wpAny_getItem_str_slice (l := none) (u := none) (st := none) hs rfl (post_val_or_str ⟨hle, fin⟩)⟩
  | int j u => exact ⟨"str", _, F.slot_str_getitem.lookup, typeIs_str _ _ _, wpAny_getItem_str_slice (l := none) (u := some (j, u)) (st := none) hs rfl (post_val_or_str ⟨hle, fin⟩)⟩
 | int i u' =>
  cases pu with
  | none => exact ⟨"str", _, F.slot_str_getitem.lookup, typeIs_str _ _ _, wpAny_getItem_str_slice (l := some (i, u')) (u := none) (st := none) hs rfl (post_val_or_str ⟨hle, fin⟩)⟩
  | int j u => exact ⟨"str", _, F.slot_str_getitem.lookup, typeIs_str _ _ _, wpAny_getItem_str_slice (l := some (i, u')) (u := some (j, u)) (st := none) hs rfl (post_val_or_str ⟨hle, fin⟩)⟩
theorem Zhx : OpR X (binaryOp .Mult) (fun x y H Q => ∃ (z : Str) (n : Int), x = .str z ∧ y = .int n ∧ MulOk z n ∧ Q (.str (Txt.mul z n)) H) := by
 intro pins s σ H x y v u Q I rx ry h
 obtain ⟨z, n, rfl, rfl, hok, q⟩ := h
 obtain ⟨t, rfl⟩ := rx
 obtain ⟨t', rfl⟩ := ry
 exact SB.mul hok fun t' k => ⟨.str _, H, I.tok _, ⟨_, rfl⟩, q⟩
theorem Xv : ∀ {ss : List Str} {us : List Value}, Vals (ss.map V.str) us → StrsAre us ss
 | [], _, r => by
  cases r
  exact .nil
 | x :: ss, _, r => by
  cases r with
  | cons r1 r2 =>
   obtain ⟨t, e⟩ := r1
   subst e
   exact .cons x t (Xv r2)
def ZjV (K : PySem.W.Frag) : V → List V → Hp → VK → Prop := fun x vs H Q => ∃ (z : Str) (a : Addr) (ys : List Str), x = .str z ∧ vs = [.ref a] ∧ SqL K H a (ys.map V.str) ∧ (ys.map (·.length)).sum + ys.length * z.length ≤ 16777216 ∧ Q (.str (Txt.join z ys)) H
theorem Zez : MtR X "str.join" (ZjV X.K) := by
 intro pins s σ H x vs v us Q I rx rv h
 obtain ⟨z, a, ys, rfl, rfl, hq, hz, q⟩ := h
 obtain ⟨t, rfl⟩ := rx
 obtain ⟨u, rfl, ru⟩ := Xt rv
 cases ru
 obtain ⟨its, r, pl, _⟩ := I.list hq
 exact join_list pl.isList (Xv (by simpa using r)) hz fun t' k => ⟨.str _, H, I.tok _, ⟨_, rfl⟩, q⟩
theorem Xb : ∀ (ns : List Int) (k : Nat), preSum (fun i => ns.getD i 0) k = (ns.take k).sum
 | ns, 0 => by simp [preSum]
 | ns, k + 1 => by
  rw [preSum, Xb ns k]
  by_cases h : k < ns.length
  ·rw [List.take_add_one, List.getElem?_eq_getElem h, List.getD_eq_getElem?_getD, List.getElem?_eq_getElem h]
   simp only [List.sum_append, Option.toList_some, List.sum_cons, List.sum_nil, Option.getD_some]
   omega
  ·have h' : ns.length ≤ k := Nat.le_of_not_lt h
   rw [List.take_of_length_le h', List.take_of_length_le (Nat.le_succ_of_le h'), List.getD_eq_getElem?_getD, List.getElem?_eq_none h']
   simp
theorem Zbv (hc : X.calm = true) : CallR X (.builtin "sum") (fun xs H Q => ∃ (a : Addr) (ns : List Int), xs = [.ref a] ∧ SqL X.K H a (ns.map V.int) ∧ (∀ n ∈ ns, InLong n) ∧ (∀ k, InLong (ns.take k).sum) ∧ Q (.int ns.sum) H) := by
 intro pins s σ H xs us Q I r h
 obtain ⟨a, ns, rfl, hq, h1, h2, q⟩ := h
 obtain ⟨u, rfl, ru⟩ := Xt r
 cases ru
 obtain ⟨its, rv, pl, hz⟩ := I.list hq
 have hl := rv.length
 rw [List.length_map] at hl
 have hlt : a < s.heap.objs.size := by
  obtain ⟨o, n, e, _⟩ := pl
  exact Heap.lt_size e
 refine call_sum_walk (wpAny_pyIter_list pl.isList ⟨s.heap.objs.size, [s.heap.objs.size, a], [s.heap.objs.size], its.toArray.size, _, _, fun i => ns.getD i 0, rfl, Walks.list (A := X.A.in1) (I.ok.hd hc) _ _ (Nat.ne_of_lt hlt) its.toArray,
  ⟨⟨_, Heap.get?_push_size _ rfl, rfl, rfl⟩, pl.isList.push _⟩, ?_, ?_, ?_, ?_⟩)
 ·intro b hb
  show b < (s.heap.push _).objs.size
  rw [Heap.size_push]
  have : b = s.heap.objs.size ∨ b = a := by simpa using hb
  rcases this with z | z
  ·rw [z]; exact Nat.lt_succ_self _
  ·rw [z]; exact Nat.lt_succ_of_lt hlt
 ·intro i v hv
  have e1 : its[i]? = some v := by simpa using hv
  have hi : i < its.length := (List.getElem?_eq_some_iff.mp e1).1
  have hb : (ns.map V.int)[i]? = some (.int (ns.getD i 0)) := by
   rw [List.getElem?_map, List.getD_eq_getElem?_getD]
   cases e : ns[i]? with
   | none => exact absurd (List.getElem?_eq_none_iff.mp e) (by omega)
   | some b => rfl
  obtain ⟨u', hu, ru⟩ := rv.get hb
  rw [e1] at hu
  cases hu
  exact ru
 ·intro j hj
  have hj' : j < ns.length := by rw [hl]; simpa using hj
  refine ⟨?_, ?_⟩
  ·show InLong (ns.getD j 0)
   rw [List.getD_eq_getElem?_getD, List.getElem?_eq_getElem hj']
   exact h1 _ (List.getElem_mem hj')
  ·rw [Xb]
   exact h2 _
 ·intro h' tk t' kk
  refine ⟨.int ns.sum, H, I.kept fun b o e => kk b o (by simpa using Nat.ne_of_lt (Heap.lt_size e)) (Heap.get?_push_of_some _ e), ⟨t', ?_⟩, q⟩
  rw [Xb, List.take_of_length_le (by rw [List.size_toArray]; omega)]
def ZkY : V → Option Value
 | .ty n => some (.type n)
 | .ref a => some (.ref a)
 | _ => none
theorem Zgp : CallR X (.builtin "isinstance") (fun xs H Q => ∃ (x c : V) (t cv : Value) (b : Bool), xs = [x, c] ∧ ZcT X.K H x t ∧ ZkY c = some cv ∧ PySem.W.kitOne X.K t cv = some b ∧ Q (.bl b) H) := by
 intro pins s σ H xs us Q I r h
 obtain ⟨x, c, t, cv, b, rfl, ty, rc, e, q⟩ := h
 obtain ⟨u, w', rfl, ru, rw'⟩ := Zfo r
 have ec : w' = cv := by
  cases c with
  | ty n => exact (show w' = Value.type n from rw').trans (Option.some.inj rc)
  | ref n => exact (show w' = Value.ref n from rw').trans (Option.some.inj rc)
  | _ => cases rc
 subst ec
 exact ZeO I ru ty e fun tk => ⟨.bl b, H, I.tok _, rfl, q⟩
end
mutual
def RepD (H : Hp) : PyData → V → Prop
 | .none, v => v = .non
 | .bool b, v => v = .bl b
 | .int i, v => v = .int i
 | .str x, v => v = .str x
 | .tuple ds, v => ∃ a xs, v = .ref a ∧ H a = some (.tup xs) ∧ RepA H ds xs
 | .list ds, v => ∃ a xs, v = .ref a ∧ H a = some (.lst xs) ∧ RepA H ds xs
 | .dict _, _ => False
def RepA (H : Hp) : List PyData → List V → Prop
 | [], xs => xs = []
 | d :: ds, xs => ∃ v vs, xs = v :: vs ∧ RepD H d v ∧ RepA H ds vs
end
mutual
theorem RepD.same {H H' : Hp} (h : Same H H') : ∀ (d : PyData) (v : V), RepD H d v → RepD H' d v
 | .none, _, r => r
 | .bool _, _, r => r
 | .int _, _, r => r
 | .str _, _, r => r
 | .tuple ds, v, r => by
  rw [RepD] at r ⊢
  obtain ⟨a, xs, e, e2, q⟩ := r
  exact ⟨a, xs, e, h _ _ e2, RepA.same h ds xs q⟩
 | .list ds, v, r => by
  rw [RepD] at r ⊢
  obtain ⟨a, xs, e, e2, q⟩ := r
  exact ⟨a, xs, e, h _ _ e2, RepA.same h ds xs q⟩
 | .dict _, v, r => by
  rw [RepD] at r
  exact r.elim
theorem RepA.same {H H' : Hp} (h : Same H H') : ∀ (ds : List PyData) (vs : List V), RepA H ds vs → RepA H' ds vs
 | [], _, r => r
 | d :: ds, vs, r => by
  rw [RepA] at r ⊢
  obtain ⟨v, us, e, q1, q2⟩ := r
  exact ⟨v, us, e, RepD.same h d v q1, RepA.same h ds us q2⟩
end
section
variable {X : Cx} {pins : List (Addr × Obj)} {σ : St} {H : Hp} {s : Shared}
mutual
theorem RepD.reads (I : Inv X pins σ H s) : ∀ (d : PyData) (v : V) (u : Value), RepD H d v → RelV v u → ∃ as, Reads s.heap u d as
 | .none, v, u, r, q => by
  rw [RepD] at r
  subst r
  cases q
  exact ⟨_, .none⟩
 | .bool b, v, u, r, q => by
  rw [RepD] at r
  subst r
  cases q
  exact ⟨_, .bool b⟩
 | .int i, v, u, r, q => by
  rw [RepD] at r
  subst r
  obtain ⟨t, rfl⟩ := q
  exact ⟨_, .int i t⟩
 | .str x, v, u, r, q => by
  rw [RepD] at r
  subst r
  obtain ⟨t, rfl⟩ := q
  exact ⟨_, .str x t⟩
 | .tuple ds, v, u, r, q => by
  rw [RepD] at r
  obtain ⟨a, xs, e, e2, q2⟩ := r
  subst e
  cases q
  obtain ⟨its, rv, ⟨o, h1, h2, n, h3⟩, _⟩ := I.tuple (SqT.of e2)
  obtain ⟨as, q3⟩ := RepA.reads I ds xs its q2 rv
  exact ⟨_, .tuple h1 h2 h3 (by simpa using q3)⟩
 | .list ds, v, u, r, q => by
  rw [RepD] at r
  obtain ⟨a, xs, e, e2, q2⟩ := r
  subst e
  cases q
  obtain ⟨its, rv, ⟨o, n, h1, h2, _, h3⟩, _⟩ := I.list (SqL.of e2)
  obtain ⟨as, q3⟩ := RepA.reads I ds xs its q2 rv
  exact ⟨_, .list h1 h2 h3 (by simpa using q3)⟩
 | .dict _, v, u, r, q => by
  rw [RepD] at r
  exact r.elim
theorem RepA.reads (I : Inv X pins σ H s) : ∀ (ds : List PyData) (vs : List V) (us : List Value), RepA H ds vs → Vals vs us → ∃ as, ReadsAll s.heap us ds as
 | [], vs, us, r, q => by
  rw [RepA] at r
  subst r
  cases q
  exact ⟨_, .nil⟩
 | d :: ds, vs, us, r, q => by
  rw [RepA] at r
  obtain ⟨v, vs', e, q1, q2⟩ := r
  subst e
  cases q with
  | cons p1 p2 =>
   obtain ⟨as, r1⟩ := RepD.reads I d v _ q1 p1
   obtain ⟨bs, r2⟩ := RepA.reads I ds vs' _ q2 p2
   exact ⟨_, .cons r1 r2⟩
end
end
section
variable {X : Cx}
theorem ZiI (hu : X.A.units + 64 < cLine) : OpR X (compareOp .Eq) (fun x y H Q => ∃ da db, RepD H da x ∧ RepD H db y ∧ SeqAt.shaped da = true ∧ SeqAt.shaped db = true ∧ Q (.bl (PyData.eqv da db)) H) := by
 intro pins s σ H x y v u Q I rx ry h
 obtain ⟨da, db, r1, r2, s1, s2, q⟩ := h
 obtain ⟨as, q1⟩ := RepD.reads I da x v r1 rx
 obtain ⟨bs, q2⟩ := RepD.reads I db y u r2 ry
 exact eq_dataH q1 q2 s1 s2 hu ⟨.bl _, H, I, rfl, q⟩
end
structure HasDef (K : PySem.W.Frag) (mg : Str → Option Value) (name : Str) (st : Stmt) (ps : List Str) : Prop where
 ex : ∃ f fd, Fun K name name st f fd ∧ Binds K fd ps [] ∧ mg name = some (.ref f)
structure FOk (P : Program) (w : World) (K : PySem.W.Frag) (mg : Str → Option Value) (base : Heap) (k : Nat) (name : Str) (ps : List Str) (sp : Sp) : Prop where
 ex : ∃ f fd, FnOk P w K mg base CX0 k f fd ps sp ∧ Binds K fd ps [] ∧ mg name = some (.ref f) ∧ PySem.W.keepIn K (.ref f) = true
section
variable {P : Program} {w : World} {K : PySem.W.Frag} {mg : Str → Option Value} {base : Heap}
theorem HasDef.ok {name : Str} {st : Stmt} {N ps : List Str} {k : Nat} {sp : Sp} (D : HasDef K mg name st ps) (S : Zt N ps (Zk st)) (len : ∀ vs H Q E, sp vs H Q E → vs.length = ps.length)
  (hbody : ∀ (f : Addr) (cdv : Value) (A : Around) (outer : List Env) (s : Shared) (H : Hp) (vs : List V) (Q : VK) (E : XK), Room k (A.deeper (envOfC name (Zk st) s.heap.objs.size f cdv)) → sp vs H Q E →
   ∃ t, PSs (Zh3 CX0 P w K mg base N name (Zk st) f cdv A outer s H E).nox (Yt st) t ∧ t { nx := fun _ H' => Q .non H', rt := Q } (start N vs) H) : FOk P w K mg base (k + 1) name ps sp := by
 obtain ⟨f, fd, F, b, m⟩ := D.ex
 exact ⟨f, fd, F.ok S len fun cdv A outer s H vs Q E => hbody f cdv A outer s H vs Q E, b, m, F.kp⟩
theorem FOk.mono {name : Str} {ps : List Str} {j k : Nat} {sp : Sp} (G : FOk P w K mg base j name ps sp) (h : j ≤ k) : FOk P w K mg base k name ps sp := by
 obtain ⟨f, fd, F, r⟩ := G.ex
 exact ⟨f, fd, F.mono h, r⟩
end
theorem ZA {X : Cx} {k : Nat} {name : Str} {ps : List Str} {sp : Sp} {p pos : Pos} {e : Expr} {es : List Expr} {t : TA} (G : FOk X.prog X.w X.K X.mg X.base k name ps sp) (hr : Room k X.A) (ha : PA X (e :: es) t) (hg : Gl X name := by rfl)
  (hdb : (name == ("__debug__" : Str)) = false := by decide) (he : starEach (e :: es) X.env = (false, eval e X.env) :: starEach es X.env := by rfl) (hpl : (backTo pos (starEach es X.env)).any (·.1) = false := by rfl) :
  PE X (.Call (.Name name p) (e :: es) [] pos) (Zim sp [] E0 t) := by
 obtain ⟨f, fd, F, b, m, kp⟩ := G.ex
 exact Zhu F hr hg m kp b .nil ZjY ha hdb he hpl
inductive TyB (H : Hp) : V → String → Prop where
 | non : TyB H .non "NoneType"
 | bl (b : Bool) : TyB H (.bl b) "bool"
 | int (i : Int) : TyB H (.int i) "int"
 | str (x : Str) : TyB H (.str x) "str"
 | lst {a : Addr} {xs : List V} (e : H a = some (.lst xs)) : TyB H (.ref a) "list"
 | tup {a : Addr} {xs : List V} (e : H a = some (.tup xs)) : TyB H (.ref a) "tuple"
 | dK {a : Addr} {kvs : List (Key × V)} (e : H a = some (.dK kvs)) : TyB H (.ref a) "dict"
theorem TyB.of {K : PySem.W.Frag} {H : Hp} {x : V} {n : String} (h : TyB H x n) : ZcT K H x (.type n) := by
 cases h with
 | non => exact .non
 | bl b => exact .bl b
 | int i => exact .int i
 | str x => exact .str x
 | lst e => exact .lst e
 | tup e => exact .tup e
 | dK e => exact .dK e
def ZbC : List String := ["NoneType", "bool", "int", "str", "list", "tuple", "dict"]
theorem TyB.mem {H : Hp} {x : V} {n : String} (h : TyB H x n) : n ∈ ZbC := by
 cases h <;> simp [ZbC]
def Zkv (n c : String) : Bool := n == c || (n == "bool" && c == "int")
def Ze7 : List String := ["int", "bool", "str", "tuple", "list"]
def ZkR (a b : String) : Option Bool := if (Value.type a == Value.type b) = true then some true else if PySem.W.kitMeta b = true then (fastBuiltinMro a).map (·.contains (Value.type b)) else none
theorem ZhP : ∀ n ∈ ZbC, ∀ c ∈ Ze7, ZkR n c = some (Zkv n c) := by decide +kernel
theorem Z5 {X : Cx} : CallR X (.builtin "isinstance") (fun xs H Q => ∃ (x : V) (c n : String), xs = [x, .ty c] ∧ c ∈ Ze7 ∧ TyB H x n ∧ Q (.bl (Zkv n c)) H) := by
 intro pins s σ H xs us Q I r h
 obtain ⟨x, c, n, rfl, hc, ty, q⟩ := h
 exact Zgp pins s σ H _ us Q I r ⟨x, .ty c, _, _, _, rfl, ty.of, rfl, ZhP n ty.mem c hc, q⟩
theorem ZaQ : bootBuiltins "isinstance" = some (.builtin "isinstance") := by decide +kernel
theorem ZR : bootBuiltins "len" = some (.builtin "len") := by decide +kernel
theorem Zjq : bootBuiltins "sum" = some (.builtin "sum") := by decide +kernel
theorem Zgr : bootBuiltins "min" = some (.builtin "min") := by decide +kernel
theorem Yj : bootBuiltins "sorted" = some (.builtin "sorted") := by decide +kernel
theorem Zjr : bootBuiltins "int" = some (.type "int") := by decide +kernel
theorem Zjs : bootBuiltins "bool" = some (.type "bool") := by decide +kernel
theorem Zgq : bootBuiltins "str" = some (.type "str") := by decide +kernel
theorem Yf : bootBuiltins "tuple" = some (.type "tuple") := by decide +kernel
theorem Zfd : bootBuiltins "list" = some (.type "list") := by decide +kernel
theorem Zau {X : Cx} {x : Str} {c : String} {pos : Pos} (hg : Gl X x) (hm : X.mg x = none) (hv : bootBuiltins x = some (.type c)) (hn : x ≠ "__name__" := by decide) (hd : (x == ("__debug__" : Str)) = false := by decide) : PE X (.Name x pos) (tC (.ty c)) :=
 Zhv hg hm hv (show RelV (.ty c) (.type c) from rfl) hn hd
theorem Xi {X : Cx} {N xs : List Str} {mp : List Nat} {scope : Scope} {cl : List (Str × Addr)} {C : Addr} {s₀ : Shared} {H₀ : Hp} {fp : List Addr} (i : Nat) {x : Str} {pos : Pos} (nd : (lcN N xs mp).Nodup := by decide +kernel) (hi : (lcN N xs mp)[i]? = some x := by rfl)
  (hx : (lcx X (lcN N xs mp) scope cl C s₀ H₀ fp).env.scope.names.lookup x = some .local := by rfl) : PG (lcx X (lcN N xs mp) scope cl C s₀ H₀ fp) (.Name x pos) (JH i) := ZL nd hi (.inl hx) (.inr hx)
def tx (l : List Nat) : Str := ⟨l.toArray⟩
theorem ZI (l : List Nat) : (tx l).cps.toList = l := by simp [tx]
theorem Zz (l : List Nat) : (tx l).length = l.length := by simp [tx, Str.length]
theorem tx_eta (x : Str) : tx x.cps.toList = x := by simp [tx]
theorem ZhV {X : Cx} (K : PySem.W.Frag) (h : X.K = K := by rfl) : IxR X (ZjW K) := by subst h; exact ix_tup
theorem Zf6 {X : Cx} (K : PySem.W.Frag) (h : X.K = K := by rfl) : IxR X (ZjX K) := by subst h; exact ix_list
theorem YX {n : Nat} (h : n ≤ 16777216) : n ≤ sizeLine := by rw [sizeLine_eq]; exact h
end L2
namespace L2
open PySem PySem.Spec PyProof.Rows PySem.Builtin.Str
section
variable {X : Cx}
theorem Ye {es : List Expr} {k : Nat} {t : TGs} {pos : Pos} (n : Nat) (K : PySem.W.Frag) (hc : X.calm = true) (h : PGs X es t) (hK : X.K = K := by rfl)
  (hn : (assignEach es X.env).length = n := by rfl) (hst : (assignEach es X.env).findIdx? (·.1) = none := by rfl) : PG X (.Tuple es k pos) (Zj8 K n t) := by
 subst hK
 exact Zix hc h hn hst
end
theorem Z3 (x : Str) : x.cps.toList.length = x.length := by simp [Str.length]
theorem JB {x : Str} {n : Int} (h : 0 ≤ n) : (Txt.slice x none (some n)).cps.toList = x.cps.toList.take n.toNat := by
 by_cases c : n ≤ x.length
 ·have e := eq_of_beq (slice_closes_toL (x := x) h c)
  rw [e]
  simp
 ·have e1 := slice_to_beyond (x := x) (j := n) (by omega)
  have e2 := eq_of_beq (slice_closes_toL (x := x) (j := x.length) (by omega) (Int.le_refl _))
  rw [e1, e2, List.take_of_length_le (l := x.cps.toList) (i := n.toNat) (by rw [Z3]; omega)]
  simp [Str.length]
  exact List.take_of_length_le (by simp)
theorem X6 {x : Str} {i j : Int} (h0 : 0 ≤ i) (h1 : i ≤ j) (h2 : j ≤ x.length) : (Txt.slice x (some i) (some j)).cps.toList = (x.cps.toList.drop i.toNat).take (j - i).toNat := by
 have e := eq_of_beq (slice_closesL (x := x) h0 h1 h2)
 rw [e]
theorem Zbn : ∀ (l : List (Array Nat)) (a : Array Nat), (l.foldl (· ++ ·) a).toList = a.toList ++ (l.map Array.toList).flatten
 | [], a => by simp
 | b :: l, a => by
  rw [List.foldl_cons, Zbn l]
  simp
theorem Zey {x : Str} {n : Int} (h : 1 ≤ n) (hx : x.length ≠ 0) : (Txt.mul x n).cps.toList = (List.replicate n.toNat x.cps.toList).flatten := by
 unfold Txt.mul
 rw [if_neg (by omega)]
 split
 ·rename_i c
  simp only [Bool.or_eq_true, beq_iff_eq] at c
  rcases c with c | c
  ·subst c
   simp
  ·exact absurd c hx
 ·rw [Zbn]
  simp
theorem mulOk_of {x : Str} {n : Int} (h1 : 1 ≤ n) (h2 : n ≤ 1000) (h3 : x.length ≤ 1000) : MulOk x n := by
 refine ⟨?_, ?_, ?_⟩
 ·have a : ¬ n < -(2 ^ 63) := by omega
  have b : ¬ n ≥ 2 ^ 63 := by omega
  rw [decide_eq_false a, decide_eq_false b]
  rfl
 ·intro _ _ q
  have : (1000 : Int) ≤ (2 ^ 63 - 1) / n := by
   rw [Int.le_ediv_iff_mul_le (by omega)]
   omega
  omega
 ·intro _ _
  have : x.length * n.toNat ≤ 1000 * 1000 := Nat.mul_le_mul h3 (by omega)
  unfold tooLong
  have hs : sizeLine = 16777216 := sizeLine_eq
  exact decide_eq_false (by omega)
theorem Zb2 {ns : List Int} {i : Int} (h0 : 0 ≤ i) (h1 : i < ns.length) : atI (ns.map V.int) i = some (.int (ns.getD i.toNat 0)) := by
 obtain ⟨j, rfl⟩ := Int.eq_ofNat_of_zero_le h0
 refine Zcc ?_
 have hj : j < ns.length := by omega
 rw [List.getElem?_map, List.getElem?_eq_getElem hj, Int.toNat_natCast, List.getD_eq_getElem?_getD, List.getElem?_eq_getElem hj]
 rfl
theorem YR {α : Type} {l : List α} {i : Int} {c : α} (h0 : 0 ≤ i) (h : l[i.toNat]? = some c) : atI l i = some c := by
 obtain ⟨j, rfl⟩ := Int.eq_ofNat_of_zero_le h0
 exact Zcc h
end L2
namespace L2
open PySem PySem.Spec PyProof.Rows
theorem Zir {n i d : Nat} (h : i ≤ n) : HT.sIx n d (some (i : Int)) = i := by
 unfold HT.sIx
 simp only
 rw [if_neg (by omega)]
 simp
 omega
theorem Zgn {xs : List V} {i : Nat} (h : i ≤ xs.length) : Zgo xs (some (i : Int)) none = xs.drop i := by
 have e1 : HT.sIx xs.length xs.length none = xs.length := rfl
 unfold Zgo
 rw [e1, Zir h]
 exact List.take_of_length_le (by rw [List.length_drop]; omega)
section
variable {X : Cx} {E : XK} {pins : List (Addr × Obj)} {σ : St} {H : Hp} {s : Shared}
end
section
variable {X : Cx} {pins : List (Addr × Obj)} {σ : St} {H : Hp} {s : Shared}
end
end L2
namespace Srt
open PySem PySem.W PyProof.Rows
section
variable {n : Nat} {lt : Nat → Nat → Bool} {cmp : Nat → Nat → (Bool → Shared → Prop) → Shared → Prop} {G : Shared → Prop}
structure Ord (n : Nat) (lt : Nat → Nat → Bool) : Prop where
 tr : ∀ i j k, lt i j = true → lt j k = true → lt i k = true
 asy : ∀ i j, lt i j = true → lt j i = false
 tot : ∀ i j, i < n → j < n → i ≠ j → lt i j = true ∨ lt j i = true
structure Pm (n : Nat) (p : Array Nat) : Prop where
 size : p.size = n
 perm : p.Perm (List.range n).toArray
theorem Pm.below (h : Pm n p) {a : Nat} (ha : a < n) : p.getD a 0 < n := by
 have hs : a < p.size := by rw [h.size]; exact ha
 have hm : p[a] ∈ p := Array.getElem_mem hs
 have : p[a] ∈ (List.range n).toArray := h.perm.mem_iff.mp hm
 rw [Array.getD_eq_getD_getElem?, Array.getElem?_eq_getElem hs]
 simpa using this
theorem Pm.ne (h : Pm n p) {a b : Nat} (ha : a < n) (hb : b < n) (hab : a ≠ b) : p.getD a 0 ≠ p.getD b 0 := by
 have hs : a < p.size := by rw [h.size]; exact ha
 have hs2 : b < p.size := by rw [h.size]; exact hb
 have nd : p.toList.Nodup := by
  have := (Array.perm_iff_toList_perm.mp h.perm)
  exact this.nodup_iff.mpr (by simpa using List.nodup_range)
 rw [Array.getD_eq_getD_getElem?, Array.getElem?_eq_getElem hs, Array.getD_eq_getD_getElem?, Array.getElem?_eq_getElem hs2]
 intro e
 have := (List.getElem_inj (h₀ := by simpa using hs) (h₁ := by simpa using hs2) nd).mp (by simpa using e)
 exact hab this
def Up (lt : Nat → Nat → Bool) (p : Array Nat) (m : Nat) : Prop := ∀ a b, a < b → b < m → lt (p.getD a 0) (p.getD b 0) = true
variable (o : Ord n lt) (hc : ∀ i j C s, i < n → j < n → i ≠ j → G s → (∀ s', G s' → C (lt i j) s') → cmp i j C s)
include o hc
omit o hc in
omit o hc in
end
end Srt
namespace L2
open PySem PySem.Spec PyProof.Rows PySem.W
def Zk3 (h : Heap) (v : Value) (x : Str) : Prop := ∃ a t y, v = .ref a ∧ h.get? a = some { cls := .type "tuple", data := .seq #[.str x t, y] }
def ltX (xs : List Str) (i j : Nat) : Bool := decide ((xs.getD i "").cps.toList < (xs.getD j "").cps.toList)
theorem Jq {xs : List Str} {i : Nat} (h : i < xs.length) : xs.getD i "" = xs[i] := by
 rw [List.getD_eq_getElem?_getD, List.getElem?_eq_getElem h]
 rfl
section
variable {prog : Program} {w : World} {A : Around} {E : Value → Shared → Prop} {s : Shared}
end
theorem ObjOk.there' {P : Program} {w : World} {H : Hp} {h : Heap} {a : Addr} {o : HO} (x : ObjOk P w H h a o) : ∃ u, h.get? a = some u := by
 cases o with
 | lst xs => obtain ⟨_, _, _, _, e⟩ := x; exact ⟨_, e⟩
 | tup xs => obtain ⟨_, _, _, ⟨_, e, _⟩, _⟩ := x; exact ⟨_, e⟩
 | dK kvs => obtain ⟨_, _, _, _, o, _, _, e, _⟩ := x; exact ⟨_, e⟩
 | dT kvs => obtain ⟨_, _, _, _, o, _, _, e, _⟩ := x; exact ⟨_, e⟩
 | set S n => obtain ⟨o, _, _, _, e, _⟩ := x; exact ⟨_, e⟩
 | ins C dx fs => obtain ⟨_, _, _, e, _⟩ := x; exact ⟨_, e⟩
 | own y => exact x
 | xd fs => obtain ⟨_, ⟨_, _, _, e, _⟩, _⟩ := x; exact ⟨_, e⟩
 | rng lo hi => obtain ⟨_, _, _, e⟩ := x; exact ⟨_, e⟩
 | frz ob u => obtain ⟨e, _⟩ := x; exact ⟨_, e⟩
 | tbl ps => exact ⟨_, show h.get? a = some _ from x⟩
 | met f y => exact ⟨_, show h.get? a = some _ from x⟩
 | ext φ => obtain ⟨_, e, _⟩ := x; exact e
section
variable {X : Cx} {pins : List (Addr × Obj)} {σ : St} {H : Hp} {s : Shared}
theorem Inv.laidN {N : Addr → Option HO} {h1 : Heap} {tk : Nat} (I : Inv X pins σ H s) (k : ∀ b u, s.heap.get? b = some u → h1.get? b = some u) (hN : ∀ a o, N a = some o → s.heap.get? a = none ∧ ∀ H2, ObjOk X.prog X.w H2 h1 a o) :
  Inv X pins σ (fun b => (N b).or (H b)) { s with heap := h1, toks := tk } := by
 have low : ∀ b u, s.heap.get? b = some u → N b = none := fun b u hb => by
  cases q : N b with
  | none => rfl
  | some o => rw [(hN b o q).1] at hb; cases hb
 have old : ∀ b u, H b = some u → (N b).or (H b) = some u := fun b u q => by
  obtain ⟨v, hv⟩ := (I.hok b u q).there'
  rw [low b v hv, Option.none_or]
  exact q
 refine I.un ⟨fun b o q _ _ _ => k b o q, fun b o q _ _ _ => ⟨o.slots, k b o q⟩, fun b o q n _ => ?_, fun b o q _ => ⟨o, k b o q⟩, fun b xs q => old b _ q, fun b o u q => old b _ q, fun b ps q => ⟨#[], by rw [old b _ q]; simp⟩⟩ fun a o q => ?_
 ·show (N b).or (H b) = none
  rw [low b o q, Option.none_or]
  exact n
 ·cases e : N a with
  | some u =>
   rw [e, Option.some_or] at q
   cases q
   exact (hN a o e).2 _
  | none =>
   rw [e, Option.none_or] at q
   exact (I.hok a o q).stay (fun b u _ z => k b u z) (fun b z => old b _ z) fun b xs z => old b _ z
end
def ivO (p d : Addr) : HO := .ext fun h => h.IsItemsView p d
theorem ZfW {X : Cx} : MtR X "dict.items" (fun x vs H Q => ∃ d kvs, x = .ref d ∧ vs = [] ∧ H d = some (.dK kvs) ∧ ∀ p, H p = none → Q (.ref p) (upd H p (ivO p d))) := by
 intro pins s σ H x vs v us Q I rx rv h
 obtain ⟨d, kvs, rfl, rfl, hd, q⟩ := h
 cases rx
 cases rv
 obtain ⟨hz, lo, vs', kv, dd⟩ := Zbs I.hok hd
 refine call_meetsIn PySem.F.slot_dict_items dd.typeIs PySem.F.entry_dict_items (PySem.F.args_dict_items_1 _) (meets_dict_items (Zp X.prog X.w) d lo) ⟨⟨_, dd⟩, ?_⟩
 refine ⟨.ref s.heap.objs.size, _, I.laid (t' := s.toks) (o := ivO s.heap.objs.size d) (fun b u e => Heap.get?_push_of_some _ e) (Nat.le_refl _) ?_, rfl, q _ (I.hok.fresh (Nat.le_refl _))⟩
 refine ⟨⟨_, Heap.get?_push_size _ rfl, rfl, rfl⟩, ⟨_, Heap.get?_push_size _ rfl⟩, fun h1 h2 ⟨o, e, r⟩ k => ⟨o, k o e, r⟩⟩
theorem Zee (ks : List Str) (p : Array Nat) (hp : Srt.Pm ks.length p) : (p.toList.map fun i => ks.getD i "").Perm ks := by
 have h1 := (Array.perm_iff_toList_perm.mp hp.perm).map fun i => ks.getD i ""
 have h2 : ((List.range ks.length).toArray.toList.map fun i => ks.getD i "") = ks := by
  apply List.ext_getElem?
  intro i
  simp only [List.getElem?_map]
  by_cases hi : i < ks.length
  ·rw [List.getElem?_range hi, List.getElem?_eq_getElem hi, Option.map_some, Jq hi]
  ·rw [List.getElem?_eq_none (by simp; omega), List.getElem?_eq_none (by omega)]
   rfl
 rw [h2] at h1
 exact h1
def Zii (td : TE) : TE := fun σ H Q => td σ H fun x H1 => ∃ d kvs, x = .ref d ∧ H1 d = some (.dK kvs) ∧ ∀ p, H1 p = none → Q (.ref p) (upd H1 p (ivO p d))
theorem XT {X : Cx} {o : Expr} {apos cpos : Pos} {td : TE} (ho : PE X o td) (hbase : attributeBase o "items" X.env (eval o X.env) = eval o X.env := by rfl) (hline : (apos.endLine == cpos.line) = true := by rfl) :
  PE X (.Call (.Attribute o "items" apos) [] [] cpos) (Zii td) := by
 intro pins s σ H Q I h
 refine wpAny_Call_method0_late hbase hline (thn (ho pins s σ H _ I h) fun v s1 ⟨x, H1, I1, r1, d, kvs, ex, hd, q1⟩ => ?_)
 subst ex
 obtain rfl : v = Value.ref d := r1
 obtain ⟨t1, t2, _⟩ := ZcK I1 (.inl ⟨kvs, .inl hd⟩)
 exact ⟨"dict", _, PySem.F.plainAttrs_dict, PySem.F.slot_dict_items, PySem.F.type_dict_items, t1, t2, Calls.callWith_builtin rfl (PySem.evalArgs_none (ZfW pins s1 σ H1 (.ref d) [] (.ref d) [] Q I1 rfl .nil ⟨d, kvs, rfl, rfl, hd, q1⟩))⟩
section
variable {prog : Program} {w : World} {A : Around} {E : Value → Shared → Prop} {s : Shared} {K : Frag} {a C : Addr} {o : Obj}
end
end L2
namespace L2
open PySem PySem.Spec PyProof.Rows
theorem Z9 {X : Cx} : MtR X "list.append" Zd7 := Zbe
theorem hasDef_mk {K : PySem.W.Frag} {h : Heap} {mg : Str → Option Value} {name : Str} {st : Stmt} {ps : List Str} {f : Addr} {oc : Value} {od an : Option Addr} {sl : Array (Option Value)} {kV dc pm cd ct : Value} (X : K.In h) (G : h.Ns mainGlobals mg)
  (a : PySem.W.nsIn K mainGlobals name = some (some (.ref f))) (l : K.lookup f = some ⟨oc, od, .func (PySem.W.fnOf name name (YT st) (Yt st) (Zk st) .none kV dc pm an cd ct), sl⟩) (c : PySem.W.codeIn K cd name = true) (k : PySem.W.keepIn K (.ref f) = true)
  (hb : ∀ (kV doc pm : Value) (an : Option Addr) (cdv ct : Value) (us : List Value), us.length = ps.length → bindArgs (PySem.W.fnOf name name (YT st) (Yt st) (Zk st) .none kV doc pm an cdv ct) ⟨us, []⟩ = pure (ps.zip us)) : HasDef K mg name st ps :=
 ⟨_, _, ZeU (st := st) l c k, (ZeU (st := st) l c k).binds hb, PySem.W.mg_of X G a⟩
theorem Yx {c : Bool} {A B : Prop} (h : c = true) (a : A) : if c = true then A else B := by rw [if_pos h]; exact a
theorem Yl {c : Bool} {A B : Prop} (h : c = false) (b : B) : if c = true then A else B := by rw [h]; exact ZkT b
theorem Jo {a b : Int} (h : ¬ a = b) : decide (V.int a = V.int b) = false := decide_eq_false fun q => h (by injection q)
theorem Jp {a b : Int} (h : a = b) : decide (V.int a = V.int b) = true := decide_eq_true (congrArg V.int h)
theorem Zj0 {ts : List Str} {i : Int} (h0 : 0 ≤ i) (h1 : i < ts.length) : ∃ t ∈ ts, atI (ts.map V.str) i = some (.str t) := by
 obtain ⟨j, rfl⟩ := Int.eq_ofNat_of_zero_le h0
 have hj : j < ts.length := by omega
 refine ⟨ts[j], List.getElem_mem hj, YR h0 ?_⟩
 rw [List.getElem?_map, Int.toNat_natCast, List.getElem?_eq_getElem hj]
 rfl
end L2
namespace L2
open PySem PySem.Spec PyProof.Rows PySem.Builtin.Str
theorem YF {x : Str} {i : Int} (h0 : 0 ≤ i) (h1 : i ≤ x.length) : (Txt.slice x (some i) none).cps.toList = x.cps.toList.drop i.toNat := by
 rw [eq_of_beq (slice_closes_fromL h0 h1 rfl)]
 simp [Str.length]
 exact List.take_of_length_le (by simp; omega)
end L2
namespace L2
open PySem PySem.Spec PyProof.Rows
end L2
namespace Sh
open PySem L2 PyProof.Rows
theorem ZJ (a : Int) {n : Int} (h : 0 < n) : 0 ≤ a % n ∧ a % n < n := ⟨Int.emod_nonneg _ (by omega), Int.emod_lt_of_pos _ h⟩
theorem JA (a b : Str) : (a ++ b).cps.toList = a.cps.toList ++ b.cps.toList := by simp [Str.cps_append]
theorem Z4 {a b : Str} (h : a.cps.toList = b.cps.toList) : a = b := by rw [← tx_eta a, ← tx_eta b, h]
theorem X1 (a b : List Nat) : tx a ++ tx b = tx (a ++ b) := by
 apply Z4
 rw [JA, ZI, ZI, ZI]
theorem ZeN : ∀ l : List (List Nat), (Txt.join "" (l.map tx)) = tx l.flatten := by
 have key : ∀ l : List (List Nat), (Str.join "" (l.map tx)).cps.toList = l.flatten := by
  intro l
  induction l with
  | nil => rfl
  | cons c r ih =>
   cases r with
   | nil => simp [Str.join, tx]
   | cons d q =>
    have e : Str.join "" ((c :: d :: q).map tx) = tx c ++ "" ++ Str.join "" ((d :: q).map tx) := rfl
    have e2 : ("" : Str).cps.toList = [] := rfl
    rw [e, JA, JA, ih, e2, ZI, List.append_nil]
    rfl
 intro l
 apply Z4
 have : Txt.join "" (l.map tx) = Str.join "" (l.map tx) := StrLaws.glued_eq_join _ _
 rw [this, key, ZI]
theorem Zbo : ∀ l : List Nat, (l.map fun c => [c]).flatten = l
 | [] => rfl
 | a :: l => by rw [List.map_cons, List.flatten_cons, Zbo l]; rfl
theorem Zbi (l : List Nat) : Txt.join "" (l.map fun c => tx [c]) = tx l := by
 have h := ZeN (l.map fun c => [c])
 rw [List.map_map, Zbo] at h
 exact h
theorem Zkd (xs : List V) (h : xs.length ≤ 63) : Zgo xs none (some 63) = xs := by
 have e1 : HT.sIx xs.length 0 none = 0 := rfl
 have e2 : HT.sIx xs.length xs.length (some 63) = xs.length := by
  unfold HT.sIx
  simp
  omega
 unfold Zgo
 rw [e1, e2]
 simp
theorem JJ : ∀ (ys : List Str) (m : Nat), (∀ y ∈ ys, y.length ≤ m) → (ys.map (·.length)).sum ≤ ys.length * m
 | [], m, _ => by simp
 | y :: ys, m, h => by
  have h1 := JJ ys m fun z hz => h z (List.mem_cons_of_mem _ hz)
  have h2 := h y List.mem_cons_self
  rw [List.map_cons, List.sum_cons, List.length_cons, Nat.succ_mul]
  omega
theorem Zhp (n : Nat) (l : List Nat) : ((List.replicate n l).flatten).length = n * l.length := by
 induction n with
 | zero => simp
 | succ n ih => rw [List.replicate_succ, List.flatten_cons, List.length_append, ih, Nat.succ_mul, Nat.add_comm]
theorem ZcR {xs : List V} {i : Nat} {v : V} (h : xs[i]? = some v) : atI xs (i : Int) = some v := Zcc h
theorem Zff {z : List Nat} {i : Int} (h0 : 0 ≤ i) (h1 : i < z.length) : atI (tx z).cps.toList i = some (z.getD i.toNat 0) := by
 refine YR h0 ?_
 rw [ZI, List.getD_eq_getElem?_getD, List.getElem?_eq_getElem (by omega)]
 rfl
theorem Zl {n : Nat} (h : n ≤ 1000) : n ≤ sizeLine := YX (by omega)
theorem Zg5 {α : Type} {vs : List V} {ns : List α} {f : α → V} (hl : vs.length = ns.length) (hr : ∀ (i : Nat) (v : V), vs[i]? = some v → ∀ c, ns[i]? = some c → v = f c) : vs = ns.map f := by
 apply List.ext_getElem?
 intro i
 by_cases hi : i < vs.length
 ·have hi' : i < ns.length := by omega
  rw [List.getElem?_eq_getElem hi, hr i _ (List.getElem?_eq_getElem hi) _ (List.getElem?_eq_getElem hi'), List.getElem?_map, List.getElem?_eq_getElem hi']
  rfl
 ·rw [List.getElem?_eq_none (by omega), List.getElem?_eq_none (by rw [List.length_map]; omega)]
theorem ZeT {α : Type} {ns : List α} {f : α → V} {i : Nat} (hi : i < ns.length) : (ns.map f).getD i .non = f ns[i] := by
 rw [List.getD_eq_getElem?_getD, List.getElem?_map, List.getElem?_eq_getElem hi]
 rfl
theorem ZdB {α : Type} {ns : List α} {f : α → V} {i : Nat} {x : V} (hi : (ns.map f)[i]? = some x) : ∃ h : i < ns.length, x = f ns[i] := by
 have h : i < ns.length := by
  have := (List.getElem?_eq_some_iff.mp hi).1
  rw [List.length_map] at this
  exact this
 rw [List.getElem?_map, List.getElem?_eq_getElem h] at hi
 exact ⟨h, (Option.some.inj hi).symm⟩
end Sh
namespace PySem
namespace F
theorem Jg : Manifest.owners.lookup (String.ofList ['d', 'e', 's', 'r', 'e', 'v', 'e', 'r'].reverse) = some Manifest.sig_reversed := by kernel_rfl
theorem slot_rev_next : Slot "reversed" "__next__" "reversed.__next__" :=
 .of (owner := "reversed") (n := "__next__") (by rw [typeLookup_type, builtinLookup_eq_fast]; kernel_rfl) (by decide +kernel) (by decide +kernel) (by decide +kernel)
  (by first | exact .inl (by decide +kernel) | exact .inr (by decide +kernel)) (by rw [isSubtype_type]; kernel_rfl)
theorem entry_rev_next : entryFor table "reversed.__next__" = some Builtin.«reversed.__next__» := entryFor_of_tree (by kernel_rfl)
theorem args_rev_next_1 (a : Value) : argsOk "reversed.__next__" ⟨[a], []⟩ := by
 unfold argsOk; rw [signature?_of (id := "reversed.__next__") (n := ['_', '_', 't', 'x', 'e', 'n', '_', '_']) (o := ['d', 'e', 's', 'r', 'e', 'v', 'e', 'r']) (by kernel_rfl) Jg]; kernel_rfl
theorem slot_rev_iter : Slot "reversed" "__iter__" "reversed.__iter__" :=
 .of (owner := "reversed") (n := "__iter__") (by rw [typeLookup_type, builtinLookup_eq_fast]; kernel_rfl) (by decide +kernel) (by decide +kernel) (by decide +kernel)
  (by first | exact .inl (by decide +kernel) | exact .inr (by decide +kernel)) (by rw [isSubtype_type]; kernel_rfl)
theorem args_rev_iter_1 (a : Value) : argsOk "reversed.__iter__" ⟨[a], []⟩ := by
 unfold argsOk; rw [signature?_of (id := "reversed.__iter__") (n := ['_', '_', 'r', 'e', 't', 'i', '_', '_']) (o := ['d', 'e', 's', 'r', 'e', 'v', 'e', 'r']) (by kernel_rfl) Jg]; kernel_rfl
theorem entry_rev_iter : entryFor table "reversed.__iter__" = some Builtin.«dict_keyiterator.__iter__» :=
 entryFor_alias (id' := "dict_keyiterator.__iter__") (by kernel_rfl) (by first | rfl | decide +kernel | (unfold String.splitOn; simp +decide [String.splitOnAux])) (by decide +kernel) (by kernel_rfl)
theorem rev_no_len : typeLookup (.type "reversed") "__len__" = pure none := by rw [typeLookup_type, builtinLookup_eq_fast]; kernel_rfl
theorem slot_rev_hint : Slot "reversed" "__length_hint__" "reversed.__length_hint__" :=
 .of (owner := "reversed") (n := "__length_hint__") (by rw [typeLookup_type, builtinLookup_eq_fast]; kernel_rfl) (by decide +kernel) (by decide +kernel) (by decide +kernel)
  (by first | exact .inl (by decide +kernel) | exact .inr (by decide +kernel)) (by rw [isSubtype_type]; kernel_rfl)
theorem entry_rev_hint : entryFor table "reversed.__length_hint__" = some Builtin.«reversed.__length_hint__» := entryFor_of_tree (by kernel_rfl)
theorem args_rev_hint_1 (a : Value) : argsOk "reversed.__length_hint__" ⟨[a], []⟩ := by
 unfold argsOk; rw [signature?_of (id := "reversed.__length_hint__") (n := ['_', '_', 't', 'n', 'i', 'h', '_', 'h', 't', 'g', 'n', 'e', 'l', '_', '_']) (o := ['d', 'e', 's', 'r', 'e', 'v', 'e', 'r']) (by kernel_rfl) Jg]; kernel_rfl
theorem str_no_reversed : typeLookup (.type "str") "__reversed__" = pure none := by rw [typeLookup_type, builtinLookup_eq_fast]; kernel_rfl
theorem sub_rev_rev : isSubtype (.type "reversed") (.type "reversed") = pure true := by rw [isSubtype_type]; kernel_rfl
theorem Zaf : Slot "reversed" "__init__" "object.__init__" :=
 .of (owner := "object") (n := "__init__") (by rw [typeLookup_type, builtinLookup_eq_fast]; kernel_rfl) (by decide +kernel) (by decide +kernel) (by decide +kernel)
  (by first | exact .inl (by decide +kernel) | exact .inr (by decide +kernel)) (by rw [isSubtype_type]; kernel_rfl)
theorem called_rev : TypeCalled "reversed" "reversed.__new__" "object.__init__" :=
 ⟨by decide +kernel, by decide +kernel, ⟨_, _, mro_reversed⟩, madeBy_type mro_reversed lookup_reversed_new (by decide +kernel), by decide +kernel, by rw [isSubtype_type]; kernel_rfl, Zaf⟩
end F
end PySem
namespace PySem
def ZjS (x : Str) (t : Tok) (i : Int) : Obj := { cls := .type "reversed", data := .fields #[.str x t, rawInt i] }
theorem ZaA (x : Str) (t : Tok) (hx : x.length ≤ sizeLine) :
  Meets (Builtin.«reversed.__new__» ⟨[.type "reversed", .str x t], []⟩) (fun _ R s =>
   R (.ok (.ret (.ref s.heap.objs.size))) { s with toks := s.toks + 1 + 1, heap := s.heap.push (ZjS x t ((x.length : Int) - 1)) }) :=
 .of_wp fun prog w A R s h => by
  unfold Builtin.«reversed.__new__»
  refine wpAny_bind (wpAny_of_eq (newClass_reversed _) ?_)
  try dsimp only
  refine wpAny_bind (wpAny_of_eq (a := ()) (by first | rfl | kernel_rfl) ?_)
  refine wpAny_bind (wpAny_of_eq (a := ()) (by first | rfl | kernel_rfl) ?_)
  try dsimp only
  refine wpAny_bind (wpAny_specialOf (typeIs_str _ x t) F.str_no_reversed ?_)
  try dsimp only
  refine wpAny_bind ?_
  wp_delta
  refine wpAny_bind (wpAny_isInstance (T := "str") (v := .str x t) (b := false) rfl F.sub_str_dict ?_)
  try dsimp only
  refine wpAny_bind (wpAny_specialOf (typeIs_str _ x t) F.slot_str_getitem.lookup ?_)
  try dsimp only
  rw [if_pos (by decide)]
  refine wpAny_pure ?_
  rw [if_neg (by decide)]
  have hs : sizeLine = 16777216 := sizeLine_eq
  refine wpAny_bind (P.len_str (by omega) ?_)
  refine wpAny_bind (wpAny_of_eq (a := some (x.length : Int)) rfl ?_)
  try dsimp only
  unfold Builtin.SmallTypes.newRecord
  try dsimp only
  refine wpAny_bind (wpAny_newObj_type ?_)
  exact wpAny_pure ⟨_, rfl, h⟩
section
variable {prog : Program} {w : World} {A : Around} {E : Value → Shared → Prop} {s : Shared}
theorem XF {x : Str} {t : Tok} {Q : Value → Shared → Prop} (hx : x.length ≤ sizeLine)
  (h : Q (.ref s.heap.objs.size) { s with toks := s.toks + 1 + 1, heap := s.heap.push (ZjS x t ((x.length : Int) - 1)) }) : wpAny (model prog w) A (call (.type "reversed") [.str x t]) Q E s :=
 callType_new F.called_rev (by decide) (F.typeCall_reversed_1 _) (F.newCall_reversed_1 _) (fun obj => F.args_object_init_2 obj _) F.entry_reversed_new (ZaA x t hx) ⟨⟨_, Heap.get?_push_size _ rfl, rfl⟩, h⟩
def Heap.IsRevS (h : Heap) (a : Addr) (x : Str) (t : Tok) (i : Int) : Prop := ∃ o, h.get? a = some o ∧ o.cls = .type "reversed" ∧ o.data = .fields #[.str x t, rawInt i]
theorem Heap.IsRevS.typeIs {a : Addr} {x : Str} {t : Tok} {i : Int} (y : s.heap.IsRevS a x t i) : s.TypeIs (.ref a) "reversed" := let ⟨o, ho, hc, _⟩ := y; ⟨o, ho, hc⟩
theorem Heap.IsRevS.at {h h' : Heap} {a : Addr} {x : Str} {t : Tok} {i : Int} (y : h.IsRevS a x t i) (e : ∀ o, h.get? a = some o → h'.get? a = some o) : h'.IsRevS a x t i := let ⟨o, ho, r⟩ := y; ⟨o, e _ ho, r⟩
theorem Xs {it : Addr} {x : Str} {t : Tok} {i c : Nat} {Q : Option Value → Shared → Prop} (hit : s.heap.IsRevS it x t (i : Int)) (hc : x.cps[i]? = some c) (hx : x.length ≤ sizeLine)
  (hQ : ∀ h' u, h'.IsRevS it x t ((i : Int) - 1) → Heap.SameBut it s.heap h' → Q (some (.str ⟨#[c]⟩ u)) { s with heap := h', toks := s.toks + 1 + 1 }) : wpAny (model prog w) A (pyNext (.ref it)) Q E s := by
 obtain ⟨o, ho, hcl, hd⟩ := id hit
 have hs : sizeLine = 16777216 := sizeLine_eq
 have hi : i < x.length := by
  have := (Array.getElem?_eq_some_iff.mp hc).1
  exact this
 unfold pyNext
 refine wpAny_bind (wpAny_attempt (wpAny_callSpecial?_slot (name := Str.ofString "__next__") hit.typeIs F.slot_rev_next
  (wpAny_call_entry F.slot_rev_next hit.typeIs F.entry_rev_next ?_ (F.args_rev_next_1 _))))
 unfold Builtin.«reversed.__next__»
 refine wpAny_bind (wpAny_of_eq (a := (Value.ref it, [])) rfl ?_)
 try dsimp only
 refine wpAny_bind (wpAny_field ho hd (x := .str x t) rfl ?_)
 refine wpAny_bind (wpAny_field ho hd (x := rawInt (i : Int)) rfl ?_)
 show wpAny _ _ (if (i : Int) < 0 then _ else _) _ _ s
 rw [if_neg (by omega)]
 refine wpAny_bind (wpAny_specialOf (typeIs_str _ x t) F.slot_str_getitem.lookup ?_)
 rw [if_neg (by decide)]
 refine wpAny_bind (wpAny_mkInt ?_)
 have e1 : decide ((i : Int) < -(2 ^ 63 : Int)) = false := decide_eq_false (by omega)
 have e2 : decide ((i : Int) ≥ 2 ^ 63) = false := decide_eq_false (by omega)
 have e3 : seqIndex? (i : Int) x.length = some i := (L2.ixN_seq (by unfold L2.ixN; rw [if_pos (by omega), if_pos (by omega)]; rfl)).1
 refine wpAny_bind (wpAny_attempt (P.getItem_str (c := c) (by rw [e1, e2]; rfl) (by rw [e3]; exact hc) ?_))
 try dsimp only
 refine wpAny_bind (wpAny_field ho hd (x := rawInt (i : Int)) rfl ?_)
 show wpAny _ _ (setField (Value.ref it) 1 (rawInt ((i : Int) - 1)) >>= _) _ _ _
 refine wpAny_bind (wpAny_setField ho hd (by simp) ?_)
 refine wpAny_pure ⟨_, rfl, wpAny_pure (hQ _ _ ?_ (Heap.SameBut.update ..))⟩
 exact ⟨_, Heap.get?_update_self _ ho (Obj.isFreed_of_fields (Obj.data_mapFields hd _)), (Obj.cls_mapFields ..).trans hcl, by
  rw [Obj.data_mapFields hd]; simp⟩
theorem YJ {it : Addr} {x : Str} {t : Tok} {Q : Option Value → Shared → Prop} (hh : A.handled = none) (hit : s.heap.IsRevS it x t (-1))
  (hQ : ∀ h', Heap.ExtBut it s.heap h' → Q none { s with heap := h' }) : wpAny (model prog w) A (pyNext (.ref it)) Q E s := by
 obtain ⟨o, ho, hcl, hd⟩ := id hit
 unfold pyNext
 refine wpAny_bind (wpAny_attempt (wpAny_callSpecial?_slot (name := Str.ofString "__next__") hit.typeIs F.slot_rev_next
  (wpAny_call_entry F.slot_rev_next hit.typeIs F.entry_rev_next ?_ (F.args_rev_next_1 _))))
 unfold Builtin.«reversed.__next__»
 refine wpAny_bind (wpAny_of_eq (a := (Value.ref it, [])) rfl ?_)
 try dsimp only
 refine wpAny_bind (wpAny_field ho hd (x := .str x t) rfl ?_)
 refine wpAny_bind (wpAny_field ho hd (x := rawInt (-1)) rfl ?_)
 show wpAny _ _ (if (-1 : Int) < 0 then _ else _) _ _ s
 rw [if_pos (by decide)]
 refine wpAny_bind (wpAny_rule ?_)
 refine wpAny_bind ?_
 wp_delta
 refine wpAny_bind (wpAny_setField ho hd (by simp) ?_)
 have h1 := Heap.get?_update_self (Obj.mapFields fun vs => vs.set! 1 (rawInt (-1))) ho (Obj.isFreed_of_fields (Obj.data_mapFields hd _))
 have d1 : (Obj.mapFields (fun vs => vs.set! 1 (rawInt (-1))) o).data = .fields #[.str x t, rawInt (-1)] := by rw [Obj.data_mapFields hd]; simp
 refine wpAny_setField h1 d1 (by simp) ?_
 refine wpAny_bind ?_
 unfold Builtin.SmallTypes.stopIteration
 refine wpAny_bind ?_
 simp only [newExc, newTuple]
 refine wpAny_bind (wpAny_newObj_type ?_ (by size_fits))
 refine wpAny_bind (m := firstArgMember _ _) (wpAny_of_eq (a := Value.none) (by first | rfl | (simp only [firstArgMember]; rfl)) ?_)
 refine wpAny_newObj_type ?_ (by size_fits)
 simp only [raiseNew]
 refine wpAny_bind (wpAny_handled ?_)
 first | rw [show A.in1.handled = none from hh] | rw [hh]
 refine wpAny_bind (wpAny_pure (wpAny_throw ?_))
 refine wpAny_bind (wpAny_isInstance (T := "StopIteration") (b := true) ⟨_, Heap.get?_push_size _ rfl, rfl⟩ isSubtype_stop ?_)
 refine wpAny_pure (hQ _ ?_)
 intro b ob hb e
 refine Heap.get?_push_of_some _ (Heap.get?_push_of_some _ ?_)
 exact (Heap.get?_update_other _ _ (Ne.symm hb)).trans ((Heap.get?_update_other _ _ (Ne.symm hb)).trans e)
theorem Yu {it : Addr} {x : Str} {t : Tok} {i : Int} {Q : Value → Shared → Prop} (hit : s.heap.IsRevS it x t i) (h : Q (.ref it) s) : wpAny (model prog w) A (pyIter (.ref it)) Q E s := by
 refine wpAny_pyIter_slot hit.typeIs F.slot_rev_iter (wpAny_call_entry F.slot_rev_iter hit.typeIs F.entry_rev_iter ?_ (F.args_rev_iter_1 _))
 show wpAny _ _ (ret (.ref it)) _ _ s
 exact wpAny_pure ⟨_, rfl, "reversed", _, hit.typeIs, F.slot_rev_next.lookup, h⟩
end
theorem ZcU {prog : Program} {w : World} {A : Around} (hh : A.handled = none) (I : Addr) (x : Str) (t : Tok) (hx : x.length ≤ sizeLine) :
  Walks prog w A I [I] [I] x.length (fun i v => ∃ c u, x.cps[x.length - 1 - i]? = some c ∧ v = .str ⟨#[c]⟩ u) (fun i h => i ≤ x.length ∧ h.IsRevS I x t ((x.length : Int) - 1 - (i : Int))) where
 sub := fun b hb => by simp at hb; simp [hb]
 frame := fun _ _ _ y hk => ⟨y.1, y.2.at fun o e => hk I (by simp) o e⟩
 item := fun i s Q E hi y hQ => by
  have e : (x.length : Int) - 1 - (i : Int) = ((x.length - 1 - i : Nat) : Int) := by omega
  have hit := y.2
  rw [e] at hit
  have hlt : x.length - 1 - i < x.cps.size := by
   have : x.length = x.cps.size := rfl
   omega
  have hc : x.cps[x.length - 1 - i]? = some (x.cps[x.length - 1 - i]'hlt) := Array.getElem?_eq_getElem hlt
  refine Xs hit hc hx fun h' u hit' hs' => ?_
  have e2 : ((x.length - 1 - i : Nat) : Int) - 1 = (x.length : Int) - 1 - ((i + 1 : Nat) : Int) := by omega
  rw [e2] at hit'
  exact hQ _ h' _ ⟨_, u, hc, rfl⟩ ⟨hi, hit'⟩ fun b o hb eo => hs'.extBut b o (fun h => hb (by simp [h])) eo
 done := fun s Q E y hQ => by
  have e : (x.length : Int) - 1 - (x.length : Int) = -1 := by omega
  have hit := y.2
  rw [e] at hit
  exact YJ hh hit fun h' he' => hQ h' s.toks fun b o hb eo => he' b o (fun h => hb (by simp [h])) eo
 self := fun _ _ _ _ y hQ => Yu y.2 hQ
end PySem
namespace PySem
section
variable {prog : Program} {w : World} {A : Around} {E : Value → Shared → Prop} {s : Shared}
theorem ZaN {it : Addr} {x : Str} {t : Tok} {Q : Value → Shared → Prop} (hit : s.heap.IsRevS it x t ((x.length : Int) - 1)) (hx : x.length ≤ sizeLine)
  (h : ∀ u tk, Q (.int x.length u) { s with toks := tk }) : wpAny (model prog w) A (call (.builtin "reversed.__length_hint__") [.ref it]) Q E s := by
 obtain ⟨o, ho, hcl, hd⟩ := id hit
 have hs : sizeLine = 16777216 := sizeLine_eq
 refine wpAny_call_entry F.slot_rev_hint hit.typeIs F.entry_rev_hint ?_ (F.args_rev_hint_1 _)
 unfold Builtin.«reversed.__length_hint__»
 refine wpAny_bind (wpAny_of_eq (a := Value.ref it) rfl ?_)
 refine wpAny_bind (wpAny_field ho hd (x := .str x t) rfl ?_)
 rw [if_neg (show ¬ ((Value.str x t == Value.none) = true) from Bool.false_ne_true)]
 refine wpAny_bind (P.len_str (by omega) ?_)
 refine wpAny_bind (wpAny_of_eq (a := some (x.length : Int)) rfl ?_)
 try dsimp only
 refine wpAny_bind (wpAny_field ho hd (x := rawInt ((x.length : Int) - 1)) rfl ?_)
 show wpAny _ _ (if (x.length : Int) < (x.length : Int) - 1 + 1 then _ else _) _ _ _
 rw [if_neg (by omega)]
 unfold retInt
 refine wpAny_bind (wpAny_mkInt (wpAny_pure ⟨_, rfl, ?_⟩))
 have e : (x.length : Int) - 1 + 1 = x.length := by omega
 rw [e]
 exact h _ _
theorem ZfH {it : Addr} {x : Str} {t : Tok} {Q : Bool → Shared → Prop} (hit : s.heap.IsRevS it x t ((x.length : Int) - 1)) (hx : x.length ≤ sizeLine)
  (h : ∀ b tk, Q b { s with toks := tk }) : wpAny (model prog w) A (Builtin.List.listLengthHint (.ref it)) Q E s := by
 have hs : sizeLine = 16777216 := sizeLine_eq
 unfold Builtin.List.listLengthHint
 refine wpAny_bind (wpAny_specialOf hit.typeIs F.rev_no_len ?_)
 show wpAny _ _ (specialOf (Value.ref it) (Str.ofString "__length_hint__") >>= _) _ _ _
 refine wpAny_bind (wpAny_specialOf hit.typeIs F.slot_rev_hint.lookup ?_)
 have hsp : splitId "reversed.__length_hint__" = some ("reversed", "__length_hint__") := by decide +kernel
 try dsimp only
 rw [hsp]
 try dsimp only
 refine wpAny_bind (wpAny_isInstance hit.typeIs F.sub_rev_rev ?_)
 rw [if_neg (by decide)]
 rw [if_neg (by decide +kernel)]
 refine wpAny_bind (wpAny_rule ?_)
 refine wpAny_bind (wpAny_of_eq (F.slot_rev_hint.bind _) ?_)
 try dsimp only
 refine wpAny_bind (wpAny_attempt (ZaN hit hx fun u tk => ?_))
 have ea : asInt? (Value.int (x.length : Int) u) = pure (some (x.length : Int)) := by simp only [asInt?]
 generalize hn : (x.length : Int) = n at ea
 simp only [ea, pure_bind]
 subst hn
 try dsimp only
 have f1 : Builtin.List.listFitsIndex (x.length : Int) = true := by
  unfold Builtin.List.listFitsIndex
  have a1 : decide (-(2 ^ 63 : Int) ≤ (x.length : Int)) = true := decide_eq_true (by omega)
  have a2 : decide ((x.length : Int) < 2 ^ 63) = true := decide_eq_true (by omega)
  rw [a1, a2]
  rfl
 have f2 : Builtin.List.listTooLong (x.length : Int).toNat = false := by
  unfold Builtin.List.listTooLong
  rw [Int.toNat_natCast]
  exact decide_eq_false (Nat.not_lt.mpr hx)
 rw [f1, if_neg (by decide), if_neg (by omega), f2, if_neg (by decide)]
 exact wpAny_pure (h _ _)
section
variable {R : Result → Shared → Prop}
theorem Zdk (hh : A.handled = none) {I : Addr} {x : Str} {t : Tok} (hx : x.length ≤ sizeLine) (S : Addr) (c₀ : Nat) (hit : s.heap.IsRevS I x t ((x.length : Int) - 1)) (hSI : S ≠ I)
  (hS : s.heap.get? S = some { cls := .type "list", data := .seq #[] c₀ })
  (hR : ∀ h' tk acc' c', (∀ b o, b ≠ S → b ≠ I → s.heap.get? b = some o → h'.get? b = some o) → h'.get? S = some { cls := .type "list", dict := none, data := .seq acc' c', slots := #[] } →
   ItemsOf (fun i v => ∃ c u, x.cps[x.length - 1 - i]? = some c ∧ v = .str ⟨#[c]⟩ u) acc' x.length → R (.ok (.ret .none)) { s with heap := h', toks := tk }) :
  wpAny (model prog w) A.in1 (Builtin.List.listExtendWith (.ref S) (.ref I) .none)
   (fun fin s' => match fin with | .done f => R (.ok f) s' | .again c' => c'.quiet = true ∧ codeAny (model prog w) A c' R s') (fun e s' => R (.error e) s') s := by
 have hSf : S ∉ [I] := fun hm => hSI (List.mem_singleton.mp hm)
 unfold Builtin.List.listExtendWith
 refine wpAny_bind (wpAny_typeOf hit.typeIs ?_)
 have h1 : Builtin.List.listSameRef (.ref S) (.ref I) = false := by simp [Builtin.List.listSameRef, hSI]
 have h2 : (Value.type "reversed" == Value.type "list") = false := by decide
 have h3 : (Value.type "reversed" == Value.type "tuple") = false := by decide
 simp only [h1, h2, h3, Bool.or_false, Bool.false_eq_true, if_false]
 refine wpAny_bind (Yu hit ?_)
 refine wpAny_bind (wpAny_holding (ZfH hit hx fun b tk => ?_))
 have W := (ZcU (prog := prog) (w := w) (A := A.in1) hh I x t hx).toS
 have st0 : ∀ h' : Heap, (∀ b o, b ≠ S → s.heap.get? b = some o → h'.get? b = some o) → (0 ≤ x.length ∧ h'.IsRevS I x t ((x.length : Int) - 1 - ((0 : Nat) : Int))) := fun h' hk => ⟨Nat.zero_le _, by
  have := hit.at (h' := h') fun o e => hk I o (Ne.symm hSI) e
  have e : (x.length : Int) - 1 - ((0 : Nat) : Int) = (x.length : Int) - 1 := by omega
  rw [e]
  exact this⟩
 have fin : ∀ (h₁ : Heap) (c₁ : Nat), (∀ b o, b ≠ S → s.heap.get? b = some o → h₁.get? b = some o) → h₁.get? S = some { cls := .type "list", data := .seq #[] c₁ } →
   codeAny (model prog w) A (.builtin "list.extend.loop" ⟨[.ref S, .ref I, .none], []⟩) R { s with heap := h₁, toks := tk } := fun h₁ c₁ hk hS₁ => by
  refine codeAny_extend_loopS W hx _ hSf _ x.length 0 _ _ _ rfl (Nat.zero_le _) (st0 h₁ hk) hS₁ (ItemsOf.nil _) fun s' acc' c' hm hS' hacc => ?_
  rw [Moved.eq_with hm]
  refine hR s'.heap s'.toks acc' c' (fun b ob hb hbI e => hm.heap b ob (fun hmem => ?_) (hk b ob hb e)) hS' hacc
  rcases List.mem_cons.mp hmem with e' | hmem
  ·exact hb e'
  ·exact hbI (List.mem_singleton.mp hmem)
 split
 ·refine wpAny_bind (wpAny_rule ?_)
  refine wpAny_bind ?_
  show wpAny _ A.in1 (updateSeq S (·.push .none) >>= fun _ => updateSeq S (·.pop)) _ _ _
  refine wpAny_bind (wpAny_updateSeq hS rfl ?_)
  have hS₂ := Heap.get?_update_self (Obj.mapSeq (·.push Value.none)) hS rfl
  refine wpAny_updateSeq (hz := by seq_fits) hS₂ rfl ?_
  have hS₃ := Heap.get?_update_self (Obj.mapSeq (·.pop)) hS₂ rfl
  exact wpAny_pure ⟨plainId_quiet F.plain_extend_loop _, fin _ _ (fun b o hb e => (Heap.get?_update_other _ _ (Ne.symm hb)).trans ((Heap.get?_update_other _ _ (Ne.symm hb)).trans e)) hS₃⟩
 ·exact wpAny_pure ⟨plainId_quiet F.plain_extend_loop _, fin _ _ (fun b o hb e => e) hS⟩
theorem ZaB (hh : A.handled = none) {I : Addr} {x : Str} {t : Tok} (hx : x.length ≤ sizeLine) (S : Addr) (hit : s.heap.IsRevS I x t ((x.length : Int) - 1)) (hSI : S ≠ I)
  (hS : s.heap.get? S = some { cls := .type "list", data := .seq #[] })
  (hR : ∀ h' tk acc' c', (∀ b o, b ≠ S → b ≠ I → s.heap.get? b = some o → h'.get? b = some o) → h'.get? S = some { cls := .type "list", dict := none, data := .seq acc' c', slots := #[] } →
   ItemsOf (fun i v => ∃ c u, x.cps[x.length - 1 - i]? = some c ∧ v = .str ⟨#[c]⟩ u) acc' x.length → R (.ok (.ret .none)) { s with heap := h', toks := tk }) :
  wpAny (model prog w) A.in1 (Builtin.«list.__init__» ⟨[.ref S, .ref I], []⟩)
   (fun fin s' => match fin with | .done f => R (.ok f) s' | .again c' => c'.quiet = true ∧ codeAny (model prog w) A c' R s') (fun e s' => R (.error e) s') s := by
 show wpAny _ A.in1 (do let old ← Builtin.List.listItems (.ref S); Builtin.List.listUpdate (.ref S) (fun _ => #[]); letGo old.toList.reverse; Builtin.List.listExtendWith (.ref S) (.ref I) .none) _ _ s
 refine wpAny_bind ?_
 unfold Builtin.List.listItems
 refine wpAny_bind (wpAny_seqItems hS rfl (wpAny_pure ?_))
 show wpAny _ A.in1 (updateSeq S (fun _ => #[]) >>= fun _ => letGo (#[] : Array Value).toList.reverse >>= fun _ => Builtin.List.listExtendWith (.ref S) (.ref I) .none) _ _ s
 refine wpAny_bind (wpAny_updateSeq hS rfl ?_)
 have hS₂ := Heap.get?_update_self (Obj.mapSeq (fun _ => (#[] : Array Value))) hS rfl
 have oth : ∀ b o, b ≠ S → s.heap.get? b = some o → (s.heap.update S (Obj.mapSeq (fun _ => (#[] : Array Value)))).get? b = some o :=
  fun b o hb e => (Heap.get?_update_other _ _ (Ne.symm hb)).trans e
 refine wpAny_bind (wpAny_letGo ?_)
 refine Zdk hh hx S _ (hit.at fun o e => oth I o (Ne.symm hSI) e) hSI hS₂ fun h' tk acc' c' hk hS' hacc => ?_
 exact hR h' tk acc' c' (fun b o hb hbI e => hk b o hb hbI (oth b o hb e)) hS' hacc
end
theorem ZaO (hh : A.handled = none) {I : Addr} {x : Str} {t : Tok} {Q : Value → Shared → Prop} (hx : x.length ≤ sizeLine) (hit : s.heap.IsRevS I x t ((x.length : Int) - 1))
  (hQ : ∀ h' tk acc' c', (∀ b o, b ≠ I → s.heap.get? b = some o → h'.get? b = some o) → h'.get? s.heap.objs.size = some { cls := .type "list", dict := none, data := .seq acc' c', slots := #[] } →
   ItemsOf (fun i v => ∃ c u, x.cps[x.length - 1 - i]? = some c ∧ v = .str ⟨#[c]⟩ u) acc' x.length → Q (.ref s.heap.objs.size) { s with heap := h', toks := tk }) :
  wpAny (model prog w) A (call (.type "list") [.ref I]) Q E s := by
 have hSI : s.heap.objs.size ≠ I := fun e => by
  obtain ⟨o, ho, _⟩ := hit
  exact Nat.lt_irrefl _ (e ▸ Heap.lt_size ho)
 refine callType_codes (Q₁ := fun obj s₁ => obj = .ref s.heap.objs.size ∧ s₁ = { s with heap := s.heap.push { cls := .type "list", data := .seq #[] } }) F.called_list (F.typeCall_list_1 _) F.entry_list_init
  (code_list_new _ ⟨rfl, rfl⟩) fun obj s₁ h₁ => ?_
 obtain ⟨rfl, rfl⟩ := h₁
 have hS : (s.heap.push { cls := .type "list", data := .seq #[] }).get? s.heap.objs.size = some { cls := .type "list", data := .seq #[] } := Heap.get?_push_size _ rfl
 refine ⟨⟨_, hS, rfl⟩, F.args_list_init_2 _ _, ZaB (A := A.in1) hh hx _ (hit.at fun o e => Heap.get?_push_of_some _ e) hSI hS fun h' tk acc' c' hk hS' hacc => ?_⟩
 exact ⟨rfl, hQ h' tk acc' c' (fun b o hbI e => hk b o (Nat.ne_of_lt (Heap.lt_size e)) hbI (Heap.get?_push_of_some _ e)) hS' hacc⟩
end
end PySem
namespace L2
open PySem PySem.Spec PyProof.Rows
theorem J9 : bootBuiltins "reversed" = some (.type "reversed") := by decide +kernel
theorem Zdr : ∀ (ws : List V) (us : List Value), ws.length = us.length → (∀ (i : Nat) (w : V) (u : Value), ws[i]? = some w → us[i]? = some u → RelV w u) → Vals ws us := by
 intro ws
 induction ws with
 | nil =>
  intro us hl _
  have : us = [] := List.length_eq_zero_iff.mp hl.symm
  subst this
  exact .nil
 | cons w ws ih =>
  intro us hl h
  cases us with
  | nil => cases hl
  | cons u us => exact .cons (h 0 w u rfl rfl) (ih us (by simpa using hl) fun i w' u' e1 e2 => h (i + 1) w' u' e1 e2)
def tLR (te : TE) : TE := fun σ H Q => te σ H fun x H1 => ∃ z : Str, x = .str z ∧ z.length ≤ sizeLine ∧ ∀ p, H1 p = none → Q (.ref p) (upd H1 p (.lst (z.cps.toList.reverse.map fun c => V.str (tx [c]))))
theorem Zc5 {X : Cx} {e : Expr} {te : TE} {p1 p2 pos1 pos2 : Pos} (hc : X.calm = true) (hgl : Gl X "list") (hml : X.mg "list" = none) (hgr : Gl X "reversed") (hmr : X.mg "reversed" = none) (he : PE X e te)
  (hs1 : starEach [.Call (.Name "reversed" p2) [e] [] pos2] X.env = [(false, eval (.Call (.Name "reversed" p2) [e] [] pos2) X.env)] := by rfl) (hs2 : starEach [e] X.env = [(false, eval e X.env)] := by rfl) :
  PE X (.Call (.Name "list" p1) [.Call (.Name "reversed" p2) [e] [] pos2] [] pos1) (tLR te) := by
 intro pins s σ H Q I h
 refine wpAny_Call_Name_kw (Y8 I hgl hml Zfd ?_ (by decide) (by decide))
 refine PyProof.Rows.callWith_type1 ?_ hs1 rfl
 rw [hs1]
 refine Calls.spliced_cons ?_
 refine wpAny_Call_Name_kw (Y8 I hgr hmr J9 ?_ (by decide) (by decide))
 refine PyProof.Rows.callWith_type1 ?_ hs2 rfl
 rw [hs2]
 refine Calls.spliced_cons (thn (he pins s σ H _ I h) fun u s1 ⟨x, H1, I1, r1, q1⟩ => Calls.spliced_nil ?_)
 obtain ⟨z, rfl, hz, q⟩ := q1
 obtain ⟨t, rfl⟩ := r1
 refine XF hz ?_
 refine Calls.spliced_nil ?_
 refine ZaO (I.ok.hd hc) hz ⟨_, Heap.get?_push_size _ rfl, rfl, rfl⟩ fun h' tk acc c hk hS hacc => ?_
 have hsz : (s1.heap.push (ZjS z t ((z.length : Int) - 1))).objs.size = s1.heap.objs.size + 1 := Heap.size_push ..
 dsimp only at hS hk ⊢
 rw [hsz] at hS ⊢
 have hf : H1 (s1.heap.objs.size + 1) = none := I1.hok.fresh (Nat.le_succ _)
 refine ⟨.ref (s1.heap.objs.size + 1), _, I1.laid (h' := h') (t' := tk) (a := s1.heap.objs.size + 1) (o := .lst (z.cps.toList.reverse.map fun c => V.str (tx [c]))) (fun b u e => hk b u (Nat.ne_of_lt (Heap.lt_size e)) (Heap.get?_push_of_some _ e)) (Nat.le_succ _) ?_, rfl, q _ hf⟩
 refine ⟨by rw [List.length_map, List.length_reverse]; simpa [Str.length] using hz, acc.toList, c, ?_, by rw [hS, Array.toArray_toList]⟩
 have hzl : z.cps.toList.length = z.length := by simp [Str.length]
 refine Zdr _ _ (by rw [List.length_map, List.length_reverse, hzl, Array.length_toList, hacc.1]) fun i w u e1 e2 => ?_
 have hi : i < z.length := by
  have := (List.getElem?_eq_some_iff.mp e1).1
  rw [List.length_map, List.length_reverse, hzl] at this
  exact this
 obtain ⟨c', t', hc', rfl⟩ := hacc.2 i u (by rw [← Array.getElem?_toList]; exact e2)
 rw [List.getElem?_map, List.getElem?_reverse (by rw [hzl]; exact hi), hzl] at e1
 rw [← Array.getElem?_toList] at hc'
 rw [hc'] at e1
 cases e1
 exact ⟨t', rfl⟩
section
variable {prog : Program} {w : World} {A : Around} {R : Result → Shared → Prop} {it : Addr} {fp wr : List Addr} {n : Nat} {Pv : Nat → Value → Prop} {Sv : Nat → Heap → Prop}
end
theorem Zhq {k : Key} {u : Value} (h : Jk k u = true) : RelV (kV k) u := by
 rcases keyIs_shape h with ⟨i, t, rfl, rfl⟩ | ⟨x, t, rfl, rfl⟩
 ·exact ⟨t, rfl⟩
 ·exact ⟨t, rfl⟩
theorem Zi3 {kvs : List (Key × V)} {vs : List (Key × Value)} (r : KV kvs vs) : ∀ {i : Nat} {p : Key × V}, kvs[i]? = some p → ∃ q, vs[i]? = some q ∧ p.1 = q.1 ∧ RelV p.2 q.2 := by
 unfold KV at r
 induction r with
 | nil => intro i p e; simp at e
 | @cons a b as bs h t ih =>
  intro i p e
  cases i with
  | zero =>
   simp at e
   subst e
   exact ⟨b, rfl, h⟩
  | succ i =>
   obtain ⟨q, e2, r⟩ := ih (i := i) (p := p) (by simpa using e)
   exact ⟨q, by simpa using e2, r⟩
section
variable {X : Cx} {pins : List (Addr × Obj)} {σ : St} {H H' : Hp} {s s' : Shared} {d : Addr} {o : Obj} {kvs kvs' : List (Key × V)}
theorem Inv.frozen (I : Inv X pins σ H s) (hd : H d = some (.dK kvs)) : ∃ o, Inv X pins σ (upd H d (.frz o (.dK kvs))) s := by
 have q := I.hok d _ hd
 obtain ⟨z, lo, vs, kv, dd⟩ := id q
 obtain ⟨o, es, ep, ho, r⟩ := id dd
 refine ⟨o, I.write (h' := s.heap) (t' := s.toks) (x := d) (e := d) (by rw [hd]; exact True.intro) (.inl rfl) (fun _ _ _ z => z) ⟨o, ho⟩ ⟨ho, z, lo, vs, kv, dd⟩⟩
theorem Inv.thaw (I : Inv X pins σ H s) (hd : H d = some (.dK kvs)) (J : Inv X pins σ H' s') (e : H' d = some (.frz o (.dK kvs'))) : Inv X pins σ (upd H' d (.dK kvs')) s' := by
 have nn : ∀ b, H' b = none → upd H' d (.dK kvs') b = none := fun b z => by
  rw [Zg]
  ·exact z
  ·intro w; rw [w, e] at z; cases z
 refine { J with base := ⟨J.base.keep, J.base.slot, fun b ob h1 h2 h3 => nn b (J.base.free b ob h1 h2 h3), J.base.there, fun b xs h1 => ?_, fun b ob u h1 => ?_, fun b ps h1 => ?_⟩, free := nn _ J.free, freeC := fun x c h => nn _ (J.freeC x c h), pin := fun p hp => ?_, hok := fun b u h1 => ?_ }
 ·have h2 := J.base.tups b xs h1
  rw [Zg]
  ·exact h2
  ·intro w; rw [w, e] at h2; cases h2
 ·by_cases w : b = d
  ·have h2 := I.base.frzs b ob u h1
   rw [w, hd] at h2
   cases h2
  ·rw [Zg w]
   exact J.base.frzs b ob u h1
 ·obtain ⟨more, h2⟩ := J.base.tbls b ps h1
  refine ⟨more, ?_⟩
  rw [Zg]
  ·exact h2
  ·intro w; rw [w, e] at h2; cases h2
 ·obtain ⟨p1, p2, p3⟩ := J.pin p hp
  exact ⟨p1, nn _ p2, p3⟩
 ·have ho : ∀ (a : Addr) (b : Addr), H' b = some (.own a) → upd H' d (.dK kvs') b = some (.own a) := fun a b z => by
   rw [Zg]
   ·exact z
   ·intro w; rw [w, e] at z; cases z
  have ht : ∀ (b : Addr) xs, H' b = some (.tup xs) → upd H' d (.dK kvs') b = some (.tup xs) := fun b xs z => by
   rw [Zg]
   ·exact z
   ·intro w; rw [w, e] at z; cases z
  by_cases w : b = d
  ·subst w
   rw [Zd] at h1
   cases h1
   obtain ⟨_, q⟩ := J.hok b _ e
   exact q.stay (fun _ _ _ z => z) (ho b) ht
  ·rw [Zg w] at h1
   exact (J.hok b u h1).stay (fun _ _ _ z => z) (ho b) ht
end
def ZkH (t : TE) : TE := fun σ H Q => ∃ d kvs, H d = some (.dK kvs) ∧ ∀ o, t σ (upd H d (.frz o (.dK kvs))) fun v H' => H' d = some (.frz o (.dK kvs)) ∧ Q v (upd H' d (.dK kvs))
theorem ZiC {X : Cx} {e : Expr} {t : TE} (h : PE X e t) : PE X e (ZkH t) := by
 intro pins s σ H Q I q
 obtain ⟨d, kvs, hd, q⟩ := q
 obtain ⟨o, I1⟩ := I.frozen hd
 exact thn (h pins s σ _ _ I1 (q o)) fun u s2 ⟨v, H2, I2, r, e2, q2⟩ => ⟨v, _, I.thaw hd I2 e2, r, q2⟩
theorem ZgW {X : Cx} {pins : List (Addr × Obj)} {σ : St} {H : Hp} {s : Shared} {d : Addr} {o : Obj} {kvs : List (Key × V)} {es : Array DictEntry} {ep : Nat} (I : Inv X pins σ H s) (hd : H d = some (.frz o (.dK kvs))) (ho : o.data = .dict es ep) :
  ∃ vs, KV kvs vs ∧ s.heap.DictAt (Zp X.prog X.w) d vs ep ∧ (d == sysModules) = false := by
 obtain ⟨h1, z, lo, vs, kv, o', es', ep', h2, h3, h4, h5⟩ := I.hok d _ hd
 rw [h1] at h2
 cases h2
 rw [ho] at h4
 cases h4
 exact ⟨vs, kv, ⟨o, es, h1, h3, ho, h5⟩, lo⟩
theorem Zcu {X : Cx} (hu : X.A.units + 64 < cLine) : OpR X (compareOp .NotEq) (fun x y H Q => ∃ da db, RepD H da x ∧ RepD H db y ∧ SeqAt.shaped da = true ∧ SeqAt.shaped db = true ∧ Q (.bl (!PyData.eqv da db)) H) := by
 intro pins s σ H x y v u Q I rx ry h
 obtain ⟨da, db, r1, r2, s1, s2, q⟩ := h
 obtain ⟨as, q1⟩ := RepD.reads I da x v r1 rx
 obtain ⟨bs, q2⟩ := RepD.reads I db y u r2 ry
 exact ne_dataH q1 q2 s1 s2 hu ⟨.bl _, H, I, rfl, q⟩
theorem ZZ {t u : TS} {D : Zfi} {σ : L2.St} {H : Hp} (I : L2.St → Hp → Prop) (h : ∀ R : L2.St → Hp → Prop, (∀ σ' H', I σ' H' → R σ' H') → t { D with nx := R } σ H) (hu : ∀ σ' H', I σ' H' → u D σ' H') : Zhb t u D σ H := h _ hu
theorem Z0 {X : Cx} : MtR X "list.pop" Zkq := ZiX
section
variable {X : Cx} {pins : List (Addr × Obj)} {σ : St} {H : Hp} {s : Shared} {a : Addr} {kvs : List (Key × V)} {k : Key} {u : Value} {A : Around} {E : Value → Shared → Prop}
theorem Zjn {z : V} {r : Value} {Q : Value → Shared → Prop} (I : Inv X pins σ H s) (e : H a = some (.dK kvs)) (ry : RelV (kV k) u) (rz : RelV z r) (hl : kvs.length < sizeLine) (h1 : ∀ v w' s', Y5 kvs k = some v → RelV v w' → Inv X pins σ H s' → Q w' s')
  (h2 : Y5 kvs k = none → ∀ s', Inv X pins σ (upd H a (.dK (Xz kvs k z))) s' → Q r s') : wpAny (model X.prog X.w) A (call (.builtin "dict.setdefault") [.ref a, u, r]) Q E s := by
 obtain ⟨zz, hd, vs, rel, dd⟩ := Zbs I.hok e
 refine call_meetsIn PySem.F.slot_dict_setdefault dd.typeIs PySem.F.entry_dict_setdefault (PySem.F.args_dict_setdefault_3 _ _ _) (kt_meets_setdefault (Zp X.prog X.w) a (JG ry) hd r) ⟨vs, dd, by rw [← rel.length]; exact zz, fun v hv => ?_, fun hn h' dd' hs => ?_⟩
 ·have q := rel.val k
  rw [hv] at q
  cases l : Y5 kvs k with
  | none => rw [l] at q; exact (show False from q).elim
  | some v' => rw [l] at q; exact h1 v' v _ l q (I.tok _)
 ·have q := rel.val k
  rw [hn] at q
  have hlp : (Xz kvs k z).length ≤ sizeLine := by have := YC kvs k z; omega
  have he : ∃ q, h'.get? a = some q := let ⟨q, _, _, hq, _⟩ := dd'; ⟨q, hq⟩
  cases l : Y5 kvs k with
  | none => exact h2 l _ (XE I (by rw [e]; exact True.intro) hs he (Zbt hlp hd (rel.put k rz) dd'))
  | some v' => rw [l] at q; exact (show False from q).elim
end
def ZjM (td ty tx : TE) : TE := fun σ H Q => td σ H fun x H1 => ∃ a, x = .ref a ∧ IsD H1 a ∧ ty σ H1 fun y H2 => tx σ H2 fun z H3 => ∃ kvs k, H3 a = some (.dK kvs) ∧ y = kV k ∧ kvs.length < sizeLine ∧
 (∀ v, Y5 kvs k = some v → Q v H3) ∧ (Y5 kvs k = none → Q z (upd H3 a (.dK (Xz kvs k z))))
theorem ZbN {X : Cx} {o e f : Expr} {apos cpos : Pos} {td ty tx : TE} (ho : PE X o td) (he : PE X e ty) (hf : PE X f tx) (m : M2 X o "setdefault" apos e f cpos) : PE X (.Call (.Attribute o "setdefault" apos) [e, f] [] cpos) (ZjM td ty tx) := by
 intro pins s σ H Q I h
 refine wpAny_Call_method m.base m.few m.line PySem.F.plainAttrs_dict PySem.F.slot_dict_setdefault PySem.F.type_dict_setdefault (thn (ho pins s σ H _ I h) fun u s1 ⟨x, H1, I1, rx, a, ex, d, q1⟩ => ?_)
 subst ex
 obtain rfl : u = Value.ref a := rx
 obtain ⟨t1, t2, _⟩ := ZcK I1 d
 refine ⟨t1, t2, ?_⟩
 rw [m.trees]
 refine Calls.callWith_builtin rfl (Calls.evalArgs_plain (Calls.spliced_cons (thn (he pins s1 σ H1 _ I1 q1) fun iv s2 ⟨y, H2, I2, ry, q2⟩ =>
  Calls.spliced_cons (thn (hf pins s2 σ H2 _ I2 q2) fun fv s3 ⟨z, H3, I3, rz, kvs, k, ea, ey, hl, q3, q4⟩ => Calls.spliced_nil ?_))))
 subst ey
 exact Zjn I3 ea ry rz hl (fun v w' s4 l rw' I4 => ⟨v, H3, I4, rw', q3 v l⟩) fun l s4 I4 => ⟨z, _, I4, rz, q4 l⟩
end L2
namespace Tim
open PySem PySem.W PyProof.Rows
section
variable {M : Model} {A : Around} {E : Value → Shared → Prop} {σ : Type}
theorem Z1 {α : Type} {m : StateT σ Sem α} {Q Q' : α → σ → Shared → Prop} {st : σ} {s : Shared} (h : kasC M A E m Q st s) (hq : ∀ a st' s', Q a st' s' → Q' a st' s') : kasC M A E m Q' st s :=
 wpAny_mono h (fun r s' h' => hq _ _ _ h') fun _ _ e => e
theorem ZeK {β : Type} {f : Nat → β → StateT σ Sem (ForInStep β)} {Q : β → σ → Shared → Prop} (I : Nat → β → σ → Shared → Prop) (b : Nat)
  (step : ∀ i c st s, i < b → I i c st s → kasC M A E (f i c) (fun r st' s' => match r with | .done c' => Q c' st' s' | .yield c' => I (i + 1) c' st' s') st s)
  (fin : ∀ c st s, I b c st s → Q c st s) : ∀ (n i : Nat) (c : β) (st : σ) (s : Shared), i + n = b → I i c st s → kasC M A E (forIn (List.range' i n) c f) Q st s
 | 0, i, c, st, s, e, h => by
  rw [List.range'_zero]
  refine kasC_nil (fin c st s ?_)
  have : i = b := by omega
  rw [← this]
  exact h
 | n + 1, i, c, st, s, e, h => by
  rw [List.range'_succ]
  refine kasC_cons (Z1 (step i c st s (by omega) h) fun r st' s' h' => ?_)
  cases r with
  | done c' => exact h'
  | yield c' => exact ZeK I b step fin n (i + 1) c' st' s' (by omega) h'
theorem Yb {β : Type} {a b : Nat} {c : β} {f : Nat → β → StateT σ Sem (ForInStep β)} {Q : β → σ → Shared → Prop} {st : σ} {s : Shared} (I : Nat → β → σ → Shared → Prop) (h : I a c st s)
  (step : ∀ i c st s, i < max a b → I i c st s → kasC M A E (f i c) (fun r st' s' => match r with | .done c' => Q c' st' s' | .yield c' => I (i + 1) c' st' s') st s)
  (fin : ∀ c st s, I (max a b) c st s → Q c st s) : kasC M A E (forIn [a:b] c f) Q st s :=
 kasC_range (ZeK I (max a b) step fin (b - a) a c st s (by omega) h)
end
section
variable {prog : Program} {w : World} {A : Around} {E : Value → Shared → Prop}
structure XX (prog : Program) (w : World) (A : Around) (κ : SortKind) (ϕ : Keyed → Nat) (U : Keyed → Prop) (G : Shared → Prop) : Prop where
 ask : ∀ (x y : Keyed) (C : Bool → Shared → Prop) (s : Shared), U x → U y → G s → (∀ s', G s' → C (decide (ϕ x < ϕ y)) s') → wpAny (model prog w) A (keyLt' κ x.1 y.1) C (fun _ _ => False) s
variable {κ : SortKind} {ϕ : Keyed → Nat} {U : Keyed → Prop} {G : Shared → Prop}
theorem ZeJ (R : XX prog w A κ ϕ U G) {x y : Keyed} {Q : Option Bool → SortSt → Shared → Prop} {st : SortSt} {s : Shared} (hk : kindOf st = κ) (hx : U x) (hy : U y) (g : G s) (h : ∀ s', G s' → Q (some (decide (ϕ x < ϕ y))) st s') :
  kasC (model prog w) A E (lt' x y) Q st s := by
 rw [lt'_eq]
 refine kasC_bind (kasC_get ?_)
 rw [hk]
 refine kasC_bind (kasC_lift (wpAny_attempt (wpAny_mono (R.ask x y (fun c s' => Q (some c) st s') s hx hy g h) (fun c s' hc => ?_) fun _ _ hF => hF.elim)))
 exact kasC_pure hc
theorem ZG {xs : Array Keyed} {i : Nat} {x : Keyed} {Q : Keyed → SortSt → Shared → Prop} {st : SortSt} {s : Shared} (hx : xs[i]? = some x) (h : Q x st s) : kasC (model prog w) A E (elem' xs i) Q st s := by
 rw [elem'_eq, hx]
 exact kasC_pure h
def fx (ϕ : Keyed → Nat) (xs : Array Keyed) (i : Nat) : Nat := match xs[i]? with
 | some p => ϕ p
 | none => 0
theorem Zbl {xs : Array Keyed} {i : Nat} {x : Keyed} (h : xs[i]? = some x) : fx ϕ xs i = ϕ x := by unfold fx; rw [h]
theorem Yr {xs ys : Array Keyed} {i j : Nat} (h : xs[i]? = ys[j]?) : fx ϕ xs i = fx ϕ ys j := by unfold fx; rw [h]
def Al (U : Keyed → Prop) (xs : Array Keyed) : Prop := ∀ (i : Nat) x, xs[i]? = some x → U x
theorem Al.perm {xs ys : Array Keyed} (h : Al U xs) (p : ys.Perm xs) : Al U ys := fun i x e => by
 have hm : x ∈ ys := Array.mem_of_getElem? e
 have := p.mem_iff.mp hm
 obtain ⟨j, hj, e2⟩ := Array.getElem_of_mem this
 exact h j x (by rw [← e2]; exact Array.getElem?_eq_getElem hj)
def ZaG : Bool → Keyed → Array Keyed → Nat → Nat → Nat → StateT SortSt Sem (Option Nat) := sortPriv% PySem.Builtin.gallop
def Zh4 (lf : Bool) (ky : Keyed) (ar : Array Keyed) (bs : Nat) (i : Nat) : StateT SortSt Sem (Option Bool) := do
 let el ← elem' ar (bs + i)
 if lf then lt' el ky else return (← lt' ky el).map (!·)
theorem Zgg (lf : Bool) (ky : Keyed) (ar : Array Keyed) (bs n ht : Nat) : ZaG lf ky ar bs n ht = (do
 let mut u := 0
 let mut v := 1
 let mut p := 0
 let mut q := 0
 let some rt ← Zh4 lf ky ar bs ht | return none
 if rt then
  let mx := n - ht
  for _ in [0:n] do
   if v ≥ mx then break
   let some mo ← Zh4 lf ky ar bs (ht + v) | return none
   if !mo then break
   u := v
   v := 2 * v + 1
  p := ht + u + 1
  q := ht + min v mx
 else
  let mx := ht + 1
  for _ in [0:n] do
   if v ≥ mx then break
   let some fo ← Zh4 lf ky ar bs (ht - v) | return none
   if fo then break
   u := v
   v := 2 * v + 1
  p := ht + 1 - min v mx
  q := ht - u
 for _ in [0:n] do
  if p ≥ q then break
  let m := p + (q - p) / 2
  let some mo ← Zh4 lf ky ar bs m | return none
  if mo then p := m + 1 else q := m
 return some q) := rfl
def YI (ϕ : Keyed → Nat) (lf : Bool) (k : Nat) (ar : Array Keyed) (bs i : Nat) : Bool := if lf then decide (fx ϕ ar (bs + i) < k) else !decide (k < fx ϕ ar (bs + i))
theorem ZcI (R : XX prog w A κ ϕ U G) {lf : Bool} {ky : Keyed} {ar : Array Keyed} {bs i : Nat} {Q : Option Bool → SortSt → Shared → Prop} {st : SortSt} {s : Shared} (hk : kindOf st = κ) (hu : U ky) (ha : Al U ar) (hi : bs + i < ar.size) (g : G s)
  (h : ∀ s', G s' → Q (some (YI ϕ lf (ϕ ky) ar bs i)) st s') : kasC (model prog w) A E (Zh4 lf ky ar bs i) Q st s := by
 unfold Zh4
 have e : ar[bs + i]? = some ar[bs + i] := Array.getElem?_eq_getElem hi
 refine kasC_bind (ZG e ?_)
 unfold YI at h
 rw [Zbl e] at h
 cases lf with
 | true =>
  rw [if_pos rfl]
  exact ZeJ R hk (ha _ _ e) hu g fun s' g' => by simpa using h s' g'
 | false =>
  rw [if_neg (by decide)]
  refine kasC_bind (ZeJ R hk hu (ha _ _ e) g fun s' g' => kasC_pure ?_)
  simpa using h s' g'
theorem JT (R : XX prog w A κ ϕ U G) {lf : Bool} {ky : Keyed} {ar : Array Keyed} {bs n p0 q0 : Nat} {Q : Option Nat → SortSt → Shared → Prop} {st : SortSt} {s : Shared} (hk : kindOf st = κ) (hu : U ky) (ha : Al U ar) (hn : bs + n ≤ ar.size)
  (mo : ∀ i j, i ≤ j → j < n → YI ϕ lf (ϕ ky) ar bs j = true → YI ϕ lf (ϕ ky) ar bs i = true) (g : G s) (hpq : p0 ≤ q0) (hq : q0 ≤ n) (h1 : ∀ i, i < p0 → YI ϕ lf (ϕ ky) ar bs i = true) (h2 : ∀ i, q0 ≤ i → i < n → YI ϕ lf (ϕ ky) ar bs i = false)
  (h : ∀ q s', q ≤ n → (∀ i, i < q → YI ϕ lf (ϕ ky) ar bs i = true) → (∀ i, q ≤ i → i < n → YI ϕ lf (ϕ ky) ar bs i = false) → G s' → Q (some q) st s') : kasC (model prog w) A E (do
   let mut p := p0
   let mut q := q0
   for _ in [0:n] do
    if p ≥ q then break
    let m := p + (q - p) / 2
    let some mo ← Zh4 lf ky ar bs m | return none
    if mo then p := m + 1 else q := m
   return some q) Q st s := by
 dsimp only
 refine kasC_bind (Yb (fun t c st' s' => ∃ p q, c = (none, p, q) ∧ st' = st ∧ G s' ∧ p ≤ q ∧ q ≤ n ∧ (∀ i, i < p → YI ϕ lf (ϕ ky) ar bs i = true) ∧ (∀ i, q ≤ i → i < n → YI ϕ lf (ϕ ky) ar bs i = false) ∧ q - p ≤ n - t) ⟨p0, q0, rfl, rfl, g, hpq, hq, h1, h2, by omega⟩ ?_ ?_)
 ·rintro t c st' s' ht ⟨p, q, rfl, rfl, g', a1, a2, a3, a4, a5⟩
  dsimp only
  by_cases c : p ≥ q
  ·rw [if_pos c]
   have e : p = q := by omega
   subst e
   exact kasC_pure (kasC_pure (h p s' a2 a3 a4 g'))
  ·rw [if_neg c]
   refine kasC_bind (ZcI R hk hu ha (by omega) g' fun s2 g2 => ?_)
   dsimp only
   by_cases cm : YI ϕ lf (ϕ ky) ar bs (p + (q - p) / 2) = true
   ·rw [if_pos cm]
    exact kasC_pure ⟨p + (q - p) / 2 + 1, q, rfl, rfl, g2, by omega, a2, fun i hi => mo i _ (by omega) (by omega) cm, a4, by omega⟩
   ·rw [if_neg cm]
    refine kasC_pure ⟨p, p + (q - p) / 2, rfl, rfl, g2, by omega, by omega, a3, fun i hi1 hi2 => ?_, by omega⟩
    cases z : YI ϕ lf (ϕ ky) ar bs i with
    | false => rfl
    | true => exact absurd (mo _ i hi1 hi2 z) cm
 ·rintro c st' s' ⟨p, q, rfl, rfl, g', a1, a2, a3, a4, a5⟩
  have e : p = q := by omega
  subst e
  exact kasC_pure (h p s' a2 a3 a4 g')
theorem ZhS (R : XX prog w A κ ϕ U G) {lf : Bool} {ky : Keyed} {ar : Array Keyed} {bs n ht : Nat} {Q : Option Nat → SortSt → Shared → Prop} {st : SortSt} {s : Shared} (hk : kindOf st = κ) (hu : U ky) (ha : Al U ar) (hn : bs + n ≤ ar.size) (hh : ht < n)
  (mo : ∀ i j, i ≤ j → j < n → YI ϕ lf (ϕ ky) ar bs j = true → YI ϕ lf (ϕ ky) ar bs i = true) (g : G s)
  (h : ∀ q s', q ≤ n → (∀ i, i < q → YI ϕ lf (ϕ ky) ar bs i = true) → (∀ i, q ≤ i → i < n → YI ϕ lf (ϕ ky) ar bs i = false) → G s' → Q (some q) st s') : kasC (model prog w) A E (ZaG lf ky ar bs n ht) Q st s := by
 have mo' : ∀ i j, i ≤ j → j < n → YI ϕ lf (ϕ ky) ar bs i = false → YI ϕ lf (ϕ ky) ar bs j = false := fun i j h1 h2 e => by
  cases z : YI ϕ lf (ϕ ky) ar bs j with
  | false => rfl
  | true => rw [mo i j h1 h2 z] at e; cases e
 rw [Zgg]
 refine kasC_bind (ZcI R hk hu ha (by omega) g fun s1 g1 => ?_)
 dsimp only
 by_cases c : YI ϕ lf (ϕ ky) ar bs ht = true
 ·rw [if_pos c]
  have go : ∀ u v s', G s' → ht + u < n → u < v → YI ϕ lf (ϕ ky) ar bs (ht + u) = true → (n - ht ≤ v ∨ YI ϕ lf (ϕ ky) ar bs (ht + v) = false) → ht + u + 1 ≤ ht + min v (n - ht) ∧ ht + min v (n - ht) ≤ n ∧ (∀ i, i < ht + u + 1 → YI ϕ lf (ϕ ky) ar bs i = true) ∧ ∀ i, ht + min v (n - ht) ≤ i → i < n → YI ϕ lf (ϕ ky) ar bs i = false := fun u v s' g' a1 a2 a3 a4 => by
   refine ⟨by omega, by omega, fun i hi => mo i _ (by omega) a1 a3, fun i h1 h2 => ?_⟩
   rcases a4 with z | z
   ·omega
   ·by_cases q : n - ht ≤ v
    ·omega
    ·exact mo' (ht + v) i (by omega) h2 z
  refine kasC_bind (Yb (fun t c st' s' => ∃ u v, c = (none, u, v) ∧ st' = st ∧ G s' ∧ ht + u < n ∧ u < v ∧ YI ϕ lf (ϕ ky) ar bs (ht + u) = true ∧ t + 1 ≤ v) ⟨0, 1, rfl, rfl, g1, by omega, by omega, by rw [Nat.add_zero]; exact c, by omega⟩ ?_ ?_)
  ·rintro t c st' s' ht' ⟨u, v, rfl, rfl, g', a1, a2, a3, a4⟩
   dsimp only
   by_cases c1 : v ≥ n - ht
   ·rw [if_pos c1]
    obtain ⟨b1, b2, b3, b4⟩ := go u v s' g' a1 a2 a3 (.inl c1)
    exact kasC_pure (JT R hk hu ha hn mo g' b1 b2 b3 b4 h)
   ·rw [if_neg c1]
    refine kasC_bind (ZcI R hk hu ha (by omega) g' fun s2 g2 => ?_)
    dsimp only
    by_cases cm : YI ϕ lf (ϕ ky) ar bs (ht + v) = true
    ·rw [if_neg (by rw [cm]; decide)]
     exact kasC_pure ⟨v, 2 * v + 1, rfl, rfl, g2, by omega, by omega, cm, by omega⟩
    ·have cf : YI ϕ lf (ϕ ky) ar bs (ht + v) = false := by simpa using cm
     rw [if_pos (by rw [cf]; decide)]
     obtain ⟨b1, b2, b3, b4⟩ := go u v s' g' a1 a2 a3 (.inr cf)
     exact kasC_pure (JT R hk hu ha hn mo g2 b1 b2 b3 b4 h)
  ·rintro c st' s' ⟨u, v, rfl, rfl, g', a1, a2, a3, a4⟩
   obtain ⟨b1, b2, b3, b4⟩ := go u v s' g' a1 a2 a3 (.inl (by omega))
   exact JT R hk hu ha hn mo g' b1 b2 b3 b4 h
 ·have cf : YI ϕ lf (ϕ ky) ar bs ht = false := by simpa using c
  rw [if_neg c]
  have go : ∀ u v, u ≤ ht → u < v → YI ϕ lf (ϕ ky) ar bs (ht - u) = false → (ht + 1 ≤ v ∨ YI ϕ lf (ϕ ky) ar bs (ht - v) = true) → ht + 1 - min v (ht + 1) ≤ ht - u ∧ ht - u ≤ n ∧ (∀ i, i < ht + 1 - min v (ht + 1) → YI ϕ lf (ϕ ky) ar bs i = true) ∧ ∀ i, ht - u ≤ i → i < n → YI ϕ lf (ϕ ky) ar bs i = false := fun u v a1 a2 a3 a4 => by
   refine ⟨by omega, by omega, fun i hi => ?_, fun i h1 h2 => mo' _ i h1 h2 a3⟩
   rcases a4 with z | z
   ·omega
   ·exact mo i (ht - v) (by omega) (by omega) z
  refine kasC_bind (Yb (fun t c st' s' => ∃ u v, c = (none, u, v) ∧ st' = st ∧ G s' ∧ u ≤ ht ∧ u < v ∧ YI ϕ lf (ϕ ky) ar bs (ht - u) = false ∧ t + 1 ≤ v) ⟨0, 1, rfl, rfl, g1, by omega, by omega, cf, by omega⟩ ?_ ?_)
  ·rintro t c st' s' ht' ⟨u, v, rfl, rfl, g', a1, a2, a3, a4⟩
   dsimp only
   by_cases c1 : v ≥ ht + 1
   ·rw [if_pos c1]
    obtain ⟨b1, b2, b3, b4⟩ := go u v a1 a2 a3 (.inl c1)
    exact kasC_pure (JT R hk hu ha hn mo g' b1 b2 b3 b4 h)
   ·rw [if_neg c1]
    refine kasC_bind (ZcI R hk hu ha (by omega) g' fun s2 g2 => ?_)
    dsimp only
    by_cases cm : YI ϕ lf (ϕ ky) ar bs (ht - v) = true
    ·rw [if_pos cm]
     obtain ⟨b1, b2, b3, b4⟩ := go u v a1 a2 a3 (.inr cm)
     exact kasC_pure (JT R hk hu ha hn mo g2 b1 b2 b3 b4 h)
    ·have cf2 : YI ϕ lf (ϕ ky) ar bs (ht - v) = false := by simpa using cm
     rw [if_neg cm]
     exact kasC_pure ⟨v, 2 * v + 1, rfl, rfl, g2, by omega, by omega, cf2, by omega⟩
  ·rintro c st' s' ⟨u, v, rfl, rfl, g', a1, a2, a3, a4⟩
   obtain ⟨b1, b2, b3, b4⟩ := go u v a1 a2 a3 (.inl (by omega))
   exact JT R hk hu ha hn mo g' b1 b2 b3 b4 h
end
end Tim
namespace Tim
open PySem PySem.W PyProof.Rows
abbrev Up (ϕ : Keyed → Nat) (l : List Keyed) : Prop := l.Pairwise fun x y => ϕ x ≤ ϕ y
structure Lo (ϕ : Keyed → Nat) (T o X Y : List Keyed) : Prop where
 px : Up ϕ (o ++ X)
 py : Up ϕ (o ++ Y)
 pm : (o ++ X ++ Y).Perm T
section
variable {ϕ : Keyed → Nat} {T o X Y x y : List Keyed}
theorem Lo.goX (h : Lo ϕ T o (x ++ X) Y) (hx : ∀ u ∈ x, ∀ v ∈ Y, ϕ u ≤ ϕ v) : Lo ϕ T (o ++ x) X Y := by
 obtain ⟨h1, h2, h3⟩ := h
 refine ⟨by rw [List.append_assoc]; exact h1, ?_, by rw [List.append_assoc o x X]; exact h3⟩
 unfold Up at *
 rw [List.pairwise_append] at h1 h2 ⊢
 rw [List.pairwise_append] at h1
 rw [List.pairwise_append]
 refine ⟨⟨h1.1, h1.2.1.1, fun a ha b hb => h1.2.2 a ha b (List.mem_append_left _ hb)⟩, h2.2.1, fun a ha b hb => ?_⟩
 rcases List.mem_append.mp ha with z | z
 ·exact h2.2.2 a z b hb
 ·exact hx a z b hb
theorem Lo.swap (h : Lo ϕ T o X Y) : Lo ϕ T o Y X := ⟨h.py, h.px, (by
 rw [List.append_assoc]
 exact ((List.perm_append_comm.append_left o).trans (by rw [← List.append_assoc])).trans h.pm)⟩
theorem Lo.goY (h : Lo ϕ T o X (y ++ Y)) (hy : ∀ u ∈ y, ∀ v ∈ X, ϕ u ≤ ϕ v) : Lo ϕ T (o ++ y) X Y := (h.swap.goX hy).swap
theorem Lo.len (h : Lo ϕ T o X Y) : o.length + X.length + Y.length = T.length := by
 have := h.pm.length_eq
 simp only [List.length_append] at this
 exact this
end
theorem at_ {a : Array Keyed} {i : Nat} (h : i < a.size) : ∃ x, a[i]? = some x ∧ a.toList.drop i = x :: a.toList.drop (i + 1) :=
 ⟨a[i], Array.getElem?_eq_getElem h, by rw [List.drop_eq_getElem_cons (by simpa using h)]; simp⟩
theorem ZgH (o : Array Keyed) (x : Keyed) : (o.push x).toList = o.toList ++ [x] := by simp
theorem Ze0 (o : Array Keyed) (i k : Nat) : (o.extract i (i + k)).toList = (o.toList.drop i).take k := by
 rw [Array.toList_extract]
 simp
theorem ZaI (o : Array Keyed) (i : Nat) : (o.extract i o.size).toList = o.toList.drop i := by
 rw [Array.toList_extract, List.extract_eq_take_drop]
 exact List.take_of_length_le (by simp)
theorem Zgl (o : Array Keyed) (i : Nat) : (o.extract 0 i).toList = o.toList.take i := by
 rw [Array.toList_extract]
 simp
theorem Jz (o p : Array Keyed) : (o ++ p).toList = o.toList ++ p.toList := by simp
theorem XV (l : List Keyed) (i k : Nat) : l.drop i = (l.drop i).take k ++ l.drop (i + k) := by
 rw [← List.drop_drop, List.take_append_drop]
def Sim (st st' : SortSt) : Prop := kindOf st' = kindOf st ∧ arrOf st' = arrOf st ∧ pendingOf st' = pendingOf st ∧ failedOf st' = failedOf st
theorem Sim.refl (st : SortSt) : Sim st st := ⟨rfl, rfl, rfl, rfl⟩
theorem Sim.trans {a b c : SortSt} (h : Sim a b) (k : Sim b c) : Sim a c := ⟨k.1.trans h.1, k.2.1.trans h.2.1, k.2.2.1.trans h.2.2.1, k.2.2.2.trans h.2.2.2⟩
noncomputable def ZcZ : Nat → StateT SortSt Sem Unit := sortPriv% PySem.Builtin.setMinGallop
theorem ZfD (n : Nat) : ZcZ n = modify fun z => SortSt.mk' (kindOf z) (arrOf z) (pendingOf z) n (failedOf z) := rfl
section
variable {prog : Program} {w : World} {A : Around} {E : Value → Shared → Prop} {κ : SortKind} {ϕ : Keyed → Nat} {U : Keyed → Prop} {G : Shared → Prop}
theorem ZaD {n : Nat} {Q : Unit → SortSt → Shared → Prop} {st : SortSt} {s : Shared} (h : ∀ st', Sim st st' → Q () st' s) : kasC (model prog w) A E (ZcZ n) Q st s := by
 rw [ZfD]
 exact kasC_modify (h _ ⟨rfl, rfl, rfl, rfl⟩)
theorem XC {n : String} {Q : Unit → SortSt → Shared → Prop} {st : SortSt} {s : Shared} (h : Q () st s) : kasC (model prog w) A E (liftM (rule n) : StateT SortSt Sem Unit) Q st s :=
 kasC_lift (wpAny_rule h)
theorem ZgV {a : Array Keyed} {bs k : Nat} {u : Keyed} (h : u ∈ (a.toList.drop bs).take k) : ∃ t, t < k ∧ bs + t < a.size ∧ fx ϕ a (bs + t) = ϕ u := by
 obtain ⟨t, ht, e⟩ := List.getElem_of_mem h
 have ht1 : t < k := by rw [List.length_take] at ht; omega
 have ht2 : bs + t < a.size := by rw [List.length_take, List.length_drop, Array.length_toList] at ht; omega
 refine ⟨t, ht1, ht2, ?_⟩
 have e2 : a[bs + t]? = some u := by
  rw [← e, Array.getElem?_eq_getElem ht2]
  simp
 exact Zbl e2
def UpTo (ϕ : Keyed → Nat) (a : Array Keyed) (p q : Nat) : Prop := ∀ i j, p ≤ i → i ≤ j → j < q → fx ϕ a i ≤ fx ϕ a j
theorem UpTo.of {a : Array Keyed} (h : Up ϕ a.toList) : UpTo ϕ a 0 a.size := fun i j _ hij hj => by
 have e1 : a[i]? = some a[i] := Array.getElem?_eq_getElem (by omega)
 have e2 : a[j]? = some a[j] := Array.getElem?_eq_getElem hj
 rw [Zbl e1, Zbl e2]
 rcases Nat.lt_or_ge i j with c | c
 ·have := List.pairwise_iff_getElem.mp h i j (by simpa using (by omega : i < a.size)) (by simpa using hj) c
  simpa using this
 ·have : i = j := by omega
  subst this
  exact Nat.le_refl _
theorem UpTo.sub {a : Array Keyed} {p q p' q' : Nat} (h : UpTo ϕ a p q) (h1 : p ≤ p') (h2 : q' ≤ q) : UpTo ϕ a p' q' := fun i j a1 a2 a3 => h i j (by omega) a2 (by omega)
theorem JS (R : XX prog w A κ ϕ U G) {lf : Bool} {ky : Keyed} {ar : Array Keyed} {bs n ht : Nat} {Q : Option Nat → SortSt → Shared → Prop} {st : SortSt} {s : Shared} (hk : kindOf st = κ) (hu : U ky) (ha : Al U ar) (hn : bs + n ≤ ar.size) (hh : ht < n)
  (up : UpTo ϕ ar bs (bs + n)) (g : G s)
  (h : ∀ q s', q ≤ n → (∀ u ∈ (ar.toList.drop bs).take q, ϕ u ≤ ϕ ky) → (∀ u ∈ (ar.toList.drop (bs + q)).take (n - q), ϕ ky ≤ ϕ u) → G s' → Q (some q) st s') : kasC (model prog w) A E (ZaG lf ky ar bs n ht) Q st s := by
 refine ZhS R hk hu ha hn hh (fun i j hij hj => ?_) g fun q s' hq h1 h2 g' => h q s' hq (fun u hu => ?_) (fun u hu => ?_) g'
 ·have := up (bs + i) (bs + j) (by omega) (by omega) (by omega)
  unfold YI
  cases lf with
  | true => simp; omega
  | false => simp; omega
 ·obtain ⟨t, b1, b2, b3⟩ := ZgV (ϕ := ϕ) hu
  have := h1 t b1
  unfold YI at this
  cases lf with
  | true => simp at this; omega
  | false => simp at this; omega
 ·obtain ⟨t, b1, b2, b3⟩ := ZgV (ϕ := ϕ) hu
  have := h2 (q + t) (by omega) (by omega)
  unfold YI at this
  rw [← Nat.add_assoc] at this
  cases lf with
  | true => simp at this; omega
  | false => simp at this; omega
end
noncomputable def ZhI : Array Keyed → Array Keyed → StateT SortSt Sem (Array Keyed) := sortPriv% PySem.Builtin.mergeLo
noncomputable def Ju (a b o : Array Keyed) (i j : Nat) : Array Keyed := o ++ a.extract i a.size ++ b.extract j b.size
noncomputable def Jj (a b o : Array Keyed) (i j : Nat) : Array Keyed := o ++ b.extract j b.size ++ a.extract i a.size
noncomputable def loE (a b o : Array Keyed) (i j mg k k1 : Nat) : StateT SortSt Sem (ForInStep (Option (Array Keyed) × Array Keyed × Nat × Nat × Nat × Nat × Nat)) := do
 let x ← elem' a i
 if i + 1 + 1 == a.size then pure (.done (some (Jj a b (o.push x) (i + 1) j), o.push x, i + 1, j, mg, k, k1))
 else if k < 7 && k1 < 7 then pure (.done (none, o.push x, i + 1, j, mg, k, k1))
 else pure (.yield (none, o.push x, i + 1, j, mg, k, k1))
noncomputable def loD (a b o : Array Keyed) (i j mg k bc : Nat) : StateT SortSt Sem (ForInStep (Option (Array Keyed) × Array Keyed × Nat × Nat × Nat × Nat × Nat)) := do
 let y ← elem' b j
 if j + 1 == b.size then pure (.done (some (Ju a b (o.push y) i (j + 1)), o.push y, i, j + 1, mg, k, bc))
 else do
  let x ← elem' a i
  let some k1 ← ZaG true x b (j + 1) (b.size - (j + 1)) 0 | pure (.done (some (Ju a b (o.push y) i (j + 1)), o.push y, i, j + 1, mg, k, bc))
  if k1 > 0 then
   if j + 1 + k1 == b.size then pure (.done (some (Ju a b (o.push y ++ b.extract (j + 1) (j + 1 + k1)) i (j + 1 + k1)), o.push y ++ b.extract (j + 1) (j + 1 + k1), i, j + 1 + k1, mg, k, k1))
   else loE a b (o.push y ++ b.extract (j + 1) (j + 1 + k1)) i (j + 1 + k1) mg k k1
  else loE a b (o.push y) i (j + 1) mg k k1
noncomputable def loC (a b o : Array Keyed) (i j mg ac bc : Nat) : StateT SortSt Sem (ForInStep (Option (Array Keyed) × Array Keyed × Nat × Nat × Nat × Nat × Nat)) := do
 ZcZ mg
 let y ← elem' b j
 let some k ← ZaG false y a i (a.size - i) 0 | pure (.done (some (Ju a b o i j), o, i, j, mg, ac, bc))
 if k > 0 then
  if i + k + 1 == a.size then pure (.done (some (Jj a b (o ++ a.extract i (i + k)) (i + k) j), o ++ a.extract i (i + k), i + k, j, mg, k, bc))
  else if i + k == a.size then pure (.done (some (Ju a b (o ++ a.extract i (i + k)) (i + k) j), o ++ a.extract i (i + k), i + k, j, mg, k, bc))
  else loD a b (o ++ a.extract i (i + k)) (i + k) j mg k bc
 else loD a b o i j mg k bc
noncomputable def loB (a b : Array Keyed) (c : (Option (Array Keyed) × Array Keyed × Nat × Nat × Nat × Nat × Nat)) : StateT SortSt Sem (ForInStep (Option (Array Keyed) × Array Keyed × Nat × Nat × Nat × Nat × Nat)) :=
 if c.2.2.2.2.1 > 1 then loC a b c.2.1 c.2.2.1 c.2.2.2.1 (c.2.2.2.2.1 - 1) c.2.2.2.2.2.1 c.2.2.2.2.2.2
 else loC a b c.2.1 c.2.2.1 c.2.2.2.1 c.2.2.2.2.1 c.2.2.2.2.2.1 c.2.2.2.2.2.2
noncomputable def loM (a b : Array Keyed) (mg : Nat) (c : (Option (Array Keyed) × Array Keyed × Nat × Nat × Nat × Nat)) : StateT SortSt Sem (ForInStep (Option (Array Keyed) × Array Keyed × Nat × Nat × Nat × Nat)) := do
 let y ← elem' b c.2.2.2.1
 let x ← elem' a c.2.2.1
 let some bw ← lt' y x | pure (.done (some (Ju a b c.2.1 c.2.2.1 c.2.2.2.1), c.2.1, c.2.2.1, c.2.2.2.1, c.2.2.2.2.1, c.2.2.2.2.2))
 if bw then do
  let y ← elem' b c.2.2.2.1
  if c.2.2.2.1 + 1 == b.size then pure (.done (some (Ju a b (c.2.1.push y) c.2.2.1 (c.2.2.2.1 + 1)), c.2.1.push y, c.2.2.1, c.2.2.2.1 + 1, 0, c.2.2.2.2.2 + 1))
  else if c.2.2.2.2.2 + 1 ≥ mg then pure (.done (none, c.2.1.push y, c.2.2.1, c.2.2.2.1 + 1, 0, c.2.2.2.2.2 + 1))
  else pure (.yield (none, c.2.1.push y, c.2.2.1, c.2.2.2.1 + 1, 0, c.2.2.2.2.2 + 1))
 else do
  let x ← elem' a c.2.2.1
  if c.2.2.1 + 1 + 1 == a.size then pure (.done (some (Jj a b (c.2.1.push x) (c.2.2.1 + 1) c.2.2.2.1), c.2.1.push x, c.2.2.1 + 1, c.2.2.2.1, c.2.2.2.2.1 + 1, 0))
  else if c.2.2.2.2.1 + 1 ≥ mg then pure (.done (none, c.2.1.push x, c.2.2.1 + 1, c.2.2.2.1, c.2.2.2.2.1 + 1, 0))
  else pure (.yield (none, c.2.1.push x, c.2.2.1 + 1, c.2.2.2.1, c.2.2.2.2.1 + 1, 0))
noncomputable def loO (a b : Array Keyed) (c : (Option (Array Keyed) × Array Keyed × Nat × Nat × Nat)) : StateT SortSt Sem (ForInStep (Option (Array Keyed) × Array Keyed × Nat × Nat × Nat)) := do
 let d ← forIn [0:a.size + b.size] ((none, c.2.1, c.2.2.1, c.2.2.2.1, 0, 0) : (Option (Array Keyed) × Array Keyed × Nat × Nat × Nat × Nat)) fun _ => loM a b c.2.2.2.2
 Break.runK.match_1 (motive := fun _ => StateT SortSt Sem (ForInStep (Option (Array Keyed) × Array Keyed × Nat × Nat × Nat))) d.1 (fun r => pure (.done (some r, d.2.1, d.2.2.1, d.2.2.2.1, c.2.2.2.2))) fun _ => do
  rule "list.sort.gallop"
  let e ← forIn [0:a.size + b.size] ((none, d.2.1, d.2.2.1, d.2.2.2.1, c.2.2.2.2 + 1, d.2.2.2.2.1, d.2.2.2.2.2) : (Option (Array Keyed) × Array Keyed × Nat × Nat × Nat × Nat × Nat)) fun _ => loB a b
  Break.runK.match_1 (motive := fun _ => StateT SortSt Sem (ForInStep (Option (Array Keyed) × Array Keyed × Nat × Nat × Nat))) e.1 (fun r => pure (.done (some r, e.2.1, e.2.2.1, e.2.2.2.1, e.2.2.2.2.1))) fun _ => do
   ZcZ (e.2.2.2.2.1 + 1)
   pure (.yield (none, e.2.1, e.2.2.1, e.2.2.2.1, e.2.2.2.2.1 + 1))
theorem ZfX (a b : Array Keyed) : ZhI a b = (do
 rule "list.sort.merge-lo"
 let y ← elem' b 0
 if 1 == b.size then pure (Ju a b #[y] 0 1)
 else if 0 + 1 == a.size then pure (Jj a b #[y] 0 1)
 else do
  let z ← get
  let c ← forIn [0:a.size + b.size] ((none, #[y], 0, 1, gallopOf z) : (Option (Array Keyed) × Array Keyed × Nat × Nat × Nat)) fun _ => loO a b
  Break.runK.match_1 (motive := fun _ => StateT SortSt Sem (Array Keyed)) c.1 (fun r => pure r) fun _ => unsupported "internal:list.sort.merge-bound") := rfl
section
variable {prog : Program} {w : World} {A : Around} {E : Value → Shared → Prop} {κ : SortKind} {ϕ : Keyed → Nat} {U : Keyed → Prop} {G : Shared → Prop}
theorem X0 {x : Keyed} {l : List Keyed} (h : Up ϕ (x :: l)) : ∀ v ∈ x :: l, ϕ x ≤ ϕ v := fun v hv => by
 rcases List.mem_cons.mp hv with e | e
 ·exact Nat.le_of_eq (by rw [e])
 ·exact (List.pairwise_cons.mp h).1 v e
theorem Lo.hx {T o X Y : List Keyed} (h : Lo ϕ T o X Y) : Up ϕ X := (List.pairwise_append.mp h.px).2.1
theorem Lo.hy {T o X Y : List Keyed} (h : Lo ϕ T o X Y) : Up ϕ Y := (List.pairwise_append.mp h.py).2.1
def LoI (ϕ : Keyed → Nat) (a b o : Array Keyed) (i j : Nat) : Prop := Lo ϕ (a.toList ++ b.toList) o.toList (a.toList.drop i) (b.toList.drop j)
def Ok (ϕ : Keyed → Nat) (a b r : Array Keyed) : Prop := Up ϕ r.toList ∧ r.toList.Perm (a.toList ++ b.toList)
theorem LoI.end1 {a b o : Array Keyed} {i j : Nat} (h : LoI ϕ a b o i j) (e : i = a.size ∨ j = b.size) : Ok ϕ a b (Ju a b o i j) := by
 have t : (Ju a b o i j).toList = o.toList ++ a.toList.drop i ++ b.toList.drop j := by
  unfold Ju
  rw [Jz, Jz, ZaI, ZaI]
 unfold Ok
 rw [t]
 refine ⟨?_, h.pm⟩
 rcases e with e | e
 ·have : a.toList.drop i = [] := by rw [e]; simp
  rw [this, List.append_nil]
  exact h.py
 ·have : b.toList.drop j = [] := by rw [e]; simp
  rw [this, List.append_nil]
  exact h.px
theorem LoI.end2 {a b o : Array Keyed} {i j : Nat} (h : LoI ϕ a b o i j) (e : i + 1 = a.size) (hl : ∀ x, a[a.size - 1]? = some x → ∀ y ∈ b.toList, ϕ y ≤ ϕ x) : Ok ϕ a b (Jj a b o i j) := by
 have t : (Jj a b o i j).toList = o.toList ++ b.toList.drop j ++ a.toList.drop i := by
  unfold Jj
  rw [Jz, Jz, ZaI, ZaI]
 unfold Ok
 rw [t]
 obtain ⟨x, hx, hd⟩ := at_ (show i < a.size by omega)
 have hn : a.toList.drop (i + 1) = [] := by rw [e]; simp
 rw [hn] at hd
 have h' : Lo ϕ (a.toList ++ b.toList) o.toList (a.toList.drop i) (b.toList.drop j ++ []) := by rw [List.append_nil]; exact h
 have := h'.goY fun u hu v hv => by
  rw [hd, List.mem_singleton] at hv
  subst hv
  exact hl v (by rw [← e]; exact hx) u (List.mem_of_mem_drop hu)
 exact ⟨this.px, by have := this.pm; rw [List.append_nil] at this; exact this⟩
theorem LoI.push1 {a b o : Array Keyed} {i j : Nat} {x : Keyed} (h : LoI ϕ a b o i j) (e : a.toList.drop i = x :: a.toList.drop (i + 1)) (hx : ∀ v ∈ b.toList.drop j, ϕ x ≤ ϕ v) : LoI ϕ a b (o.push x) (i + 1) j := by
 unfold LoI at h ⊢
 rw [e] at h
 rw [ZgH]
 exact Lo.goX (x := [x]) h fun u hu v hv => by rw [List.mem_singleton.mp hu]; exact hx v hv
theorem LoI.push2 {a b o : Array Keyed} {i j : Nat} {x : Keyed} (h : LoI ϕ a b o i j) (e : b.toList.drop j = x :: b.toList.drop (j + 1)) (hx : ∀ v ∈ a.toList.drop i, ϕ x ≤ ϕ v) : LoI ϕ a b (o.push x) i (j + 1) := by
 unfold LoI at h ⊢
 rw [e] at h
 rw [ZgH]
 exact Lo.goY (y := [x]) h fun u hu v hv => by rw [List.mem_singleton.mp hu]; exact hx v hv
theorem LoI.app1 {a b o : Array Keyed} {i j k : Nat} (h : LoI ϕ a b o i j) (hx : ∀ u ∈ (a.toList.drop i).take k, ∀ v ∈ b.toList.drop j, ϕ u ≤ ϕ v) : LoI ϕ a b (o ++ a.extract i (i + k)) (i + k) j := by
 unfold LoI at h ⊢
 rw [XV _ i k] at h
 rw [Jz, Ze0]
 exact h.goX hx
theorem LoI.app2 {a b o : Array Keyed} {i j k : Nat} (h : LoI ϕ a b o i j) (hx : ∀ u ∈ (b.toList.drop j).take k, ∀ v ∈ a.toList.drop i, ϕ u ≤ ϕ v) : LoI ϕ a b (o ++ b.extract j (j + k)) i (j + k) := by
 unfold LoI at h ⊢
 rw [XV _ j k] at h
 rw [Jz, Ze0]
 exact h.goY hx
theorem LoI.size {a b o : Array Keyed} {i j : Nat} (h : LoI ϕ a b o i j) (hi : i ≤ a.size) (hj : j ≤ b.size) : o.size + (a.size - i) + (b.size - j) = a.size + b.size := by
 have := h.len
 simp only [List.length_drop, List.length_append, Array.length_toList] at this
 exact this
def LoX (ϕ : Keyed → Nat) (G : Shared → Prop) (a b : Array Keyed) (st : SortSt) (q : Option (Array Keyed)) (st' : SortSt) (s' : Shared) : Prop := ∃ r, q = some r ∧ Sim st st' ∧ G s' ∧ Ok ϕ a b r
def LoY (ϕ : Keyed → Nat) (G : Shared → Prop) (a b : Array Keyed) (st : SortSt) (t : Nat) (c : (Option (Array Keyed) × Array Keyed × Nat × Nat × Nat × Nat × Nat)) (st' : SortSt) (s' : Shared) : Prop :=
 ∃ o i j mg ac bc, c = (none, o, i, j, mg, ac, bc) ∧ Sim st st' ∧ G s' ∧ LoI ϕ a b o i j ∧ i + 1 < a.size ∧ j < b.size ∧ t + 1 + 1 ≤ o.size
def LoV (ϕ : Keyed → Nat) (G : Shared → Prop) (a b : Array Keyed) (st : SortSt) (t : Nat) (q : Nat) (c : (Option (Array Keyed) × Array Keyed × Nat × Nat × Nat × Nat)) (st' : SortSt) (s' : Shared) : Prop :=
 ∃ o i j ac bc, c = (none, o, i, j, ac, bc) ∧ Sim st st' ∧ G s' ∧ LoI ϕ a b o i j ∧ i + 1 < a.size ∧ j < b.size ∧ t + 1 + q ≤ o.size
def LoW (ϕ : Keyed → Nat) (G : Shared → Prop) (a b : Array Keyed) (st : SortSt) (t : Nat) (c : (Option (Array Keyed) × Array Keyed × Nat × Nat × Nat)) (st' : SortSt) (s' : Shared) : Prop :=
 ∃ o i j mg, c = (none, o, i, j, mg) ∧ Sim st st' ∧ G s' ∧ LoI ϕ a b o i j ∧ i + 1 < a.size ∧ j < b.size ∧ t + 1 ≤ o.size
def LoZ {β : Type} (X Y : β → SortSt → Shared → Prop) (r : ForInStep β) (st' : SortSt) (s' : Shared) : Prop :=
 match r with | .done c => X c st' s' | .yield c => Y c st' s'
theorem Zjl {c : Array Keyed} {p k : Nat} (hp : p + k ≤ c.size) : (c.toList.drop (p + k)).take (c.size - p - k) = c.toList.drop (p + k) := List.take_of_length_le (by rw [List.length_drop, Array.length_toList]; omega)
theorem ZgO {a b o : Array Keyed} {i j mg k k1 t : Nat} {x : Keyed} {st st4 : SortSt} {s5 : Shared} (h1 : ∀ x, a[a.size - 1]? = some x → ∀ y ∈ b.toList, ϕ y ≤ ϕ x) (S4 : Sim st st4) (g5 : G s5) (hx : a[i]? = some x) (hd : a.toList.drop i = x :: a.toList.drop (i + 1))
  (I6 : LoI ϕ a b o i j) (l4 : ∀ u ∈ b.toList.drop j, ϕ x ≤ ϕ u) (hi : i + 1 < a.size) (hj : j < b.size) (hz : t + 1 + 1 ≤ o.size) :
  kasC (model prog w) A E (loE a b o i j mg k k1) (LoZ (fun c st' s' => LoX ϕ G a b st c.1 st' s' ∨ LoY ϕ G a b st t c st' s') (LoY ϕ G a b st t)) st4 s5 := by
 refine kasC_bind (ZG hx ?_)
 have I7 := I6.push1 hd l4
 have hz7 : t + 1 + 1 ≤ (o.push x).size := by rw [Array.size_push]; omega
 by_cases e5 : i + 1 + 1 = a.size
 ·rw [if_pos (by simpa using e5)]
  exact kasC_pure (.inl ⟨_, rfl, S4, g5, I7.end2 e5 h1⟩)
 rw [if_neg (by simpa using e5)]
 have hi7 : i + 1 + 1 < a.size := by omega
 split
 ·exact kasC_pure (.inr ⟨_, _, _, _, _, _, rfl, S4, g5, I7, hi7, hj, hz7⟩)
 ·exact kasC_pure ⟨_, _, _, _, _, _, rfl, S4, g5, I7, hi7, hj, hz7⟩
theorem ZgP (R : XX prog w A κ ϕ U G) {a b o : Array Keyed} {i j mg k bc t : Nat} {y : Keyed} {st st4 : SortSt} {s4 : Shared} (hk : kindOf st = κ) (ha : Al U a) (hb : Al U b) (ub : Up ϕ b.toList) (h1 : ∀ x, a[a.size - 1]? = some x → ∀ y ∈ b.toList, ϕ y ≤ ϕ x) (S4 : Sim st st4) (g4 : G s4)
  (hy : b[j]? = some y) (hd : b.toList.drop j = y :: b.toList.drop (j + 1)) (I4 : LoI ϕ a b o i j) (l2 : ∀ u ∈ a.toList.drop i, ϕ y ≤ ϕ u) (hi : i + 1 < a.size) (hj : j < b.size) (hz : t + 1 + 1 ≤ o.size) :
  kasC (model prog w) A E (loD a b o i j mg k bc) (LoZ (fun c st' s' => LoX ϕ G a b st c.1 st' s' ∨ LoY ϕ G a b st t c st' s') (LoY ϕ G a b st t)) st4 s4 := by
 refine kasC_bind (ZG hy ?_)
 have I5 := I4.push2 hd l2
 by_cases e3 : j + 1 = b.size
 ·rw [if_pos (by simpa using e3)]
  exact kasC_pure (.inl ⟨_, rfl, S4, g4, I5.end1 (.inr e3)⟩)
 rw [if_neg (by simpa using e3)]
 obtain ⟨x1, hx1, hdx1⟩ := at_ (show i < a.size by omega)
 have mx := X0 (ϕ := ϕ) (hdx1 ▸ I5.hx)
 rw [← hdx1] at mx
 have hz5 : t + 1 + 1 ≤ (o.push y).size := by rw [Array.size_push]; omega
 have hj5 : j + 1 < b.size := by omega
 clear e3 I4 l2 hd hz hj
 refine kasC_bind (ZG hx1 (kasC_bind (JS R (S4.1.trans hk) (ha _ _ hx1) hb (by omega) (by omega) ((UpTo.of ub).sub (by omega) (by omega)) g4 fun k' s5 hk2 l3 l4 g5 => ?_)))
 rw [Zjl (by omega)] at l4
 dsimp only
 have I6 := I5.app2 (k := k') fun u hu v hv => Nat.le_trans (l3 u hu) (mx v hv)
 have hz6 : t + 1 + 1 ≤ (o.push y ++ b.extract (j + 1) (j + 1 + k')).size := by rw [Array.size_append]; omega
 by_cases ck : k' > 0
 ·rw [if_pos ck]
  by_cases e4 : j + 1 + k' = b.size
  ·rw [if_pos (by simpa using e4)]
   exact kasC_pure (.inl ⟨_, rfl, S4, g5, I6.end1 (.inr e4)⟩)
  rw [if_neg (by simpa using e4)]
  exact ZgO h1 S4 g5 hx1 hdx1 I6 l4 hi (by omega) hz6
 ·rw [if_neg ck]
  have k0 : k' = 0 := by omega
  subst k0
  rw [Nat.add_zero] at l4
  exact ZgO h1 S4 g5 hx1 hdx1 I5 l4 hi hj5 hz5
theorem ZgQ (R : XX prog w A κ ϕ U G) {a b o : Array Keyed} {i j mg ac bc t : Nat} {st st3 : SortSt} {s3 : Shared} (hk : kindOf st = κ) (ha : Al U a) (hb : Al U b) (ua : Up ϕ a.toList) (ub : Up ϕ b.toList) (h1 : ∀ x, a[a.size - 1]? = some x → ∀ y ∈ b.toList, ϕ y ≤ ϕ x) (S3 : Sim st st3) (g3 : G s3)
  (I3 : LoI ϕ a b o i j) (hi : i + 1 < a.size) (hj : j < b.size) (hz : t + 1 + 1 ≤ o.size) :
  kasC (model prog w) A E (loC a b o i j mg ac bc) (LoZ (fun c st' s' => LoX ϕ G a b st c.1 st' s' ∨ LoY ϕ G a b st t c st' s') (LoY ϕ G a b st t)) st3 s3 := by
 refine kasC_bind (ZaD fun st4 S4 => ?_)
 replace S4 := S3.trans S4
 obtain ⟨y, hy, hdy⟩ := at_ hj
 have my := X0 (ϕ := ϕ) (hdy ▸ I3.hy)
 rw [← hdy] at my
 refine kasC_bind (ZG hy (kasC_bind (JS R (S4.1.trans hk) (hb _ _ hy) ha (by omega) (by omega) ((UpTo.of ua).sub (by omega) (by omega)) g3 fun k s4 hk1 l1 l2 g4 => ?_)))
 rw [Zjl (by omega)] at l2
 dsimp only
 have I4 := I3.app1 (k := k) fun u hu v hv => Nat.le_trans (l1 u hu) (my v hv)
 have hz4 : t + 1 + 1 ≤ (o ++ a.extract i (i + k)).size := by rw [Array.size_append]; omega
 by_cases ck : k > 0
 ·rw [if_pos ck]
  by_cases e1 : i + k + 1 = a.size
  ·rw [if_pos (by simpa using e1)]
   exact kasC_pure (.inl ⟨_, rfl, S4, g4, I4.end2 e1 h1⟩)
  rw [if_neg (by simpa using e1)]
  by_cases e2 : i + k = a.size
  ·rw [if_pos (by simpa using e2)]
   exact kasC_pure (.inl ⟨_, rfl, S4, g4, I4.end1 (.inl e2)⟩)
  rw [if_neg (by simpa using e2)]
  exact ZgP R hk ha hb ub h1 S4 g4 hy hdy I4 l2 (by omega) hj hz4
 ·rw [if_neg ck]
  have k0 : k = 0 := by omega
  subst k0
  rw [Nat.add_zero] at l2
  exact ZgP R hk ha hb ub h1 S4 g4 hy hdy I3 l2 hi hj hz
theorem Zi9 (R : XX prog w A κ ϕ U G) {a b : Array Keyed} {mg t q : Nat} {c : (Option (Array Keyed) × Array Keyed × Nat × Nat × Nat × Nat)} {st st2 : SortSt} {s2 : Shared} (hk : kindOf st = κ) (ha : Al U a) (hb : Al U b) (h1 : ∀ x, a[a.size - 1]? = some x → ∀ y ∈ b.toList, ϕ y ≤ ϕ x)
  (h : LoV ϕ G a b st t q c st2 s2) : kasC (model prog w) A E (loM a b mg c) (LoZ (fun c st' s' => LoX ϕ G a b st c.1 st' s' ∨ LoV ϕ G a b st t 1 c st' s') (LoV ϕ G a b st t (q + 1))) st2 s2 := by
 obtain ⟨o, i, j, ac, bc, rfl, S2, g2, I2, hi2, hj2, hs2⟩ := h
 unfold loM
 dsimp only
 obtain ⟨x, hx, hdx⟩ := at_ (show i < a.size by omega)
 obtain ⟨y, hy, hdy⟩ := at_ hj2
 refine kasC_bind (ZG hy (kasC_bind (ZG hx (kasC_bind (ZeJ R (S2.1.trans hk) (hb _ _ hy) (ha _ _ hx) g2 fun s3 g3 => ?_)))))
 dsimp only
 have mx := X0 (ϕ := ϕ) (hdx ▸ I2.hx)
 have my := X0 (ϕ := ϕ) (hdy ▸ I2.hy)
 rw [← hdx] at mx
 rw [← hdy] at my
 by_cases cc : ϕ y < ϕ x
 ·rw [if_pos (by simpa using cc)]
  refine kasC_bind (ZG hy ?_)
  have I3 := I2.push2 hdy fun v hv => Nat.le_trans (Nat.le_of_lt cc) (mx v hv)
  by_cases e1 : j + 1 = b.size
  ·rw [if_pos (by simpa using e1)]
   exact kasC_pure (.inl ⟨_, rfl, S2, g3, I3.end1 (.inr e1)⟩)
  rw [if_neg (by simpa using e1)]
  have z : t + 1 + (q + 1) ≤ (o.push y).size := by rw [Array.size_push]; omega
  by_cases e2 : bc + 1 ≥ mg
  ·rw [if_pos e2]
   exact kasC_pure (.inr ⟨_, _, _, _, _, rfl, S2, g3, I3, hi2, by omega, by omega⟩)
  ·rw [if_neg e2]
   exact kasC_pure ⟨_, _, _, _, _, rfl, S2, g3, I3, hi2, by omega, z⟩
 ·rw [if_neg (by simpa using cc)]
  refine kasC_bind (ZG hx ?_)
  have I3 := I2.push1 hdx fun v hv => Nat.le_trans (by omega) (my v hv)
  by_cases e1 : i + 1 + 1 = a.size
  ·rw [if_pos (by simpa using e1)]
   exact kasC_pure (.inl ⟨_, rfl, S2, g3, I3.end2 e1 h1⟩)
  rw [if_neg (by simpa using e1)]
  have z : t + 1 + (q + 1) ≤ (o.push x).size := by rw [Array.size_push]; omega
  by_cases e2 : ac + 1 ≥ mg
  ·rw [if_pos e2]
   exact kasC_pure (.inr ⟨_, _, _, _, _, rfl, S2, g3, I3, by omega, hj2, by omega⟩)
  ·rw [if_neg e2]
   exact kasC_pure ⟨_, _, _, _, _, rfl, S2, g3, I3, by omega, hj2, z⟩
theorem Zja (R : XX prog w A κ ϕ U G) {a b : Array Keyed} {t : Nat} {c : (Option (Array Keyed) × Array Keyed × Nat × Nat × Nat × Nat × Nat)} {st st3 : SortSt} {s3 : Shared} (hk : kindOf st = κ) (ha : Al U a) (hb : Al U b) (ua : Up ϕ a.toList) (ub : Up ϕ b.toList) (h1 : ∀ x, a[a.size - 1]? = some x → ∀ y ∈ b.toList, ϕ y ≤ ϕ x)
  (h : LoY ϕ G a b st t c st3 s3) : kasC (model prog w) A E (loB a b c) (LoZ (fun c st' s' => LoX ϕ G a b st c.1 st' s' ∨ LoY ϕ G a b st t c st' s') (LoY ϕ G a b st t)) st3 s3 := by
 obtain ⟨o, i, j, mg, ac, bc, rfl, S3, g3, I3, hi3, hj3, hs3⟩ := h
 unfold loB
 split
 ·exact ZgQ R hk ha hb ua ub h1 S3 g3 I3 hi3 hj3 hs3
 ·exact ZgQ R hk ha hb ua ub h1 S3 g3 I3 hi3 hj3 hs3
theorem Zi8 (R : XX prog w A κ ϕ U G) {a b : Array Keyed} {t : Nat} {c : (Option (Array Keyed) × Array Keyed × Nat × Nat × Nat)} {st st' : SortSt} {s' : Shared} (hk : kindOf st = κ) (ha : Al U a) (hb : Al U b) (ua : Up ϕ a.toList) (ub : Up ϕ b.toList) (h1 : ∀ x, a[a.size - 1]? = some x → ∀ y ∈ b.toList, ϕ y ≤ ϕ x) (pa : 0 < a.size + b.size)
  (h : LoW ϕ G a b st t c st' s') : kasC (model prog w) A E (loO a b c) (LoZ (fun c st' s' => LoX ϕ G a b st c.1 st' s') (LoW ϕ G a b st (t + 1))) st' s' := by
 obtain ⟨o, i, j, mg, rfl, S, g', I, hi, hj, hs⟩ := h
 refine kasC_bind (Z1 (Q := fun c st' s' => LoX ϕ G a b st c.1 st' s' ∨ LoV ϕ G a b st t 1 c st' s')
  (Yb (LoV ϕ G a b st t) ⟨o, i, j, 0, 0, rfl, S, g', I, hi, hj, hs⟩ (fun q c st2 s2 hq V => Zi9 R hk ha hb h1 V) ?_) ?_)
 ·rintro c st2 s2 ⟨o, i, j, ac, bc, rfl, S2, g2, I2, hi2, hj2, hs2⟩
  exact .inr ⟨o, i, j, ac, bc, rfl, S2, g2, I2, hi2, hj2, by omega⟩
 ·rintro c st2 s2 (⟨r, e, S2, g2, O⟩ | ⟨o, i, j, ac, bc, rfl, S2, g2, I2, hi2, hj2, hs2⟩)
  ·rw [e]
   exact kasC_pure ⟨r, rfl, S2, g2, O⟩
  dsimp only
  refine kasC_bind (XC ?_)
  refine kasC_bind (Z1 (Q := fun c st' s' => LoX ϕ G a b st c.1 st' s' ∨ LoY ϕ G a b st t c st' s')
   (Yb (fun _ => LoY ϕ G a b st t) ⟨o, i, j, _, ac, bc, rfl, S2, g2, I2, hi2, hj2, hs2⟩ (fun q c st3 s3 hq Y => Zja R hk ha hb ua ub h1 Y) fun c st3 s3 Y => .inr Y) ?_)
  rintro c st3 s3 (⟨r, e, S3, g3, O⟩ | ⟨o, i, j, mg, ac, bc, rfl, S3, g3, I3, hi3, hj3, hs3⟩)
  ·rw [e]
   exact kasC_pure ⟨r, rfl, S3, g3, O⟩
  dsimp only
  refine kasC_bind (ZaD fun st4 S4 => ?_)
  exact kasC_pure ⟨o, i, j, _, rfl, S3.trans S4, g3, I3, hi3, hj3, hs3⟩
theorem Zj1 (R : XX prog w A κ ϕ U G) {a b : Array Keyed} {Q : Array Keyed → SortSt → Shared → Prop} {st : SortSt} {s : Shared} (hk : kindOf st = κ) (ha : Al U a) (hb : Al U b) (ua : Up ϕ a.toList) (ub : Up ϕ b.toList) (pa : 0 < a.size) (pb : 0 < b.size)
  (h0 : ∀ y, b[0]? = some y → ∀ x ∈ a.toList, ϕ y ≤ ϕ x) (h1 : ∀ x, a[a.size - 1]? = some x → ∀ y ∈ b.toList, ϕ y ≤ ϕ x) (g : G s)
  (h : ∀ r st' s', Sim st st' → G s' → Ok ϕ a b r → Q r st' s') : kasC (model prog w) A E (ZhI a b) Q st s := by
 rw [ZfX]
 refine kasC_bind (XC ?_)
 obtain ⟨y0, hy0, hd0⟩ := at_ pb
 refine kasC_bind (ZG hy0 ?_)
 have I0 : LoI ϕ a b #[y0] 0 1 := by
  have : LoI ϕ a b #[] 0 0 := ⟨by simpa using ua, by simpa using ub, by simp⟩
  exact this.push2 hd0 fun v hv => h0 y0 hy0 v (List.mem_of_mem_drop hv)
 by_cases c1 : 1 = b.size
 ·rw [if_pos (by simpa using c1)]
  exact kasC_pure (h _ _ _ (Sim.refl _) g (I0.end1 (.inr c1)))
 rw [if_neg (by simpa using c1)]
 by_cases c2 : 0 + 1 = a.size
 ·rw [if_pos (by simpa using c2)]
  exact kasC_pure (h _ _ _ (Sim.refl _) g (I0.end2 c2 h1))
 rw [if_neg (by simpa using c2)]
 refine kasC_bind (kasC_get ?_)
 refine kasC_bind (Z1 (Q := fun c st' s' => LoX ϕ G a b st c.1 st' s') (Yb (LoW ϕ G a b st)
  ⟨_, _, _, _, rfl, Sim.refl _, g, I0, by omega, by omega, Nat.le_refl 1⟩ (fun t c st' s' ht W => Zi8 R hk ha hb ua ub h1 (by omega) W) ?_) ?_)
 ·rintro c st' s' ⟨o, i, j, mg, rfl, S, g', I, hi, hj, hs⟩
  have := I.size (by omega) (by omega)
  omega
 ·rintro c st' s' ⟨r, e, S, g', O⟩
  rw [e]
  exact kasC_pure (h r st' s' S g' O)
end
end Tim
namespace Tim
open PySem PySem.W PyProof.Rows
noncomputable def ZhJ : Array Keyed → Array Keyed → StateT SortSt Sem (Array Keyed) := sortPriv% PySem.Builtin.mergeHi
noncomputable def Jv (a b o : Array Keyed) (i j : Nat) : Array Keyed := a.extract 0 i ++ b.extract 0 j ++ o.reverse
noncomputable def Zb5 (a b o : Array Keyed) (i j : Nat) : Array Keyed := b.extract 0 j ++ a.extract 0 i ++ o.reverse
noncomputable def hiE (a b o : Array Keyed) (i j mg k k1 : Nat) : StateT SortSt Sem (ForInStep (Option (Array Keyed) × Nat × Nat × Array Keyed × Nat × Nat × Nat)) := do
 let x ← elem' a (i - 1)
 if i - 1 == 0 then pure (.done (some (Jv a b (o.push x) (i - 1) j), i - 1, j, o.push x, mg, k, k1))
 else if k < 7 && k1 < 7 then pure (.done (none, i - 1, j, o.push x, mg, k, k1))
 else pure (.yield (none, i - 1, j, o.push x, mg, k, k1))
noncomputable def hiD (a b o : Array Keyed) (i j mg k bc : Nat) : StateT SortSt Sem (ForInStep (Option (Array Keyed) × Nat × Nat × Array Keyed × Nat × Nat × Nat)) := do
 let y ← elem' b (j - 1)
 if j - 1 == 1 then pure (.done (some (Zb5 a b (o.push y) i (j - 1)), i, j - 1, o.push y, mg, k, bc))
 else do
  let x ← elem' a (i - 1)
  let some z ← ZaG true x b 0 (j - 1) (j - 1 - 1) | pure (.done (some (Jv a b (o.push y) i (j - 1)), i, j - 1, o.push y, mg, k, bc))
  if j - 1 - z > 0 then
   if z == 1 then pure (.done (some (Zb5 a b (o.push y ++ (b.extract z (j - 1)).reverse) i z), i, z, o.push y ++ (b.extract z (j - 1)).reverse, mg, k, j - 1 - z))
   else if z == 0 then pure (.done (some (Jv a b (o.push y ++ (b.extract z (j - 1)).reverse) i z), i, z, o.push y ++ (b.extract z (j - 1)).reverse, mg, k, j - 1 - z))
   else hiE a b (o.push y ++ (b.extract z (j - 1)).reverse) i z mg k (j - 1 - z)
  else hiE a b (o.push y) i (j - 1) mg k (j - 1 - z)
noncomputable def hiC (a b o : Array Keyed) (i j mg ac bc : Nat) : StateT SortSt Sem (ForInStep (Option (Array Keyed) × Nat × Nat × Array Keyed × Nat × Nat × Nat)) := do
 ZcZ mg
 let y ← elem' b (j - 1)
 let some z ← ZaG false y a 0 i (i - 1) | pure (.done (some (Jv a b o i j), i, j, o, mg, ac, bc))
 if i - z > 0 then
  if z == 0 then pure (.done (some (Jv a b (o ++ (a.extract z i).reverse) z j), z, j, o ++ (a.extract z i).reverse, mg, i - z, bc))
  else hiD a b (o ++ (a.extract z i).reverse) z j mg (i - z) bc
 else hiD a b o i j mg (i - z) bc
noncomputable def hiB (a b : Array Keyed) (c : (Option (Array Keyed) × Nat × Nat × Array Keyed × Nat × Nat × Nat)) : StateT SortSt Sem (ForInStep (Option (Array Keyed) × Nat × Nat × Array Keyed × Nat × Nat × Nat)) :=
 if c.2.2.2.2.1 > 1 then hiC a b c.2.2.2.1 c.2.1 c.2.2.1 (c.2.2.2.2.1 - 1) c.2.2.2.2.2.1 c.2.2.2.2.2.2
 else hiC a b c.2.2.2.1 c.2.1 c.2.2.1 c.2.2.2.2.1 c.2.2.2.2.2.1 c.2.2.2.2.2.2
noncomputable def hiM (a b : Array Keyed) (mg : Nat) (c : (Option (Array Keyed) × Nat × Nat × Array Keyed × Nat × Nat)) : StateT SortSt Sem (ForInStep (Option (Array Keyed) × Nat × Nat × Array Keyed × Nat × Nat)) := do
 let y ← elem' b (c.2.2.1 - 1)
 let x ← elem' a (c.2.1 - 1)
 let some aw ← lt' y x | pure (.done (some (Jv a b c.2.2.2.1 c.2.1 c.2.2.1), c.2.1, c.2.2.1, c.2.2.2.1, c.2.2.2.2.1, c.2.2.2.2.2))
 if aw then do
  let x ← elem' a (c.2.1 - 1)
  if c.2.1 - 1 == 0 then pure (.done (some (Jv a b (c.2.2.2.1.push x) (c.2.1 - 1) c.2.2.1), c.2.1 - 1, c.2.2.1, c.2.2.2.1.push x, c.2.2.2.2.1 + 1, 0))
  else if c.2.2.2.2.1 + 1 ≥ mg then pure (.done (none, c.2.1 - 1, c.2.2.1, c.2.2.2.1.push x, c.2.2.2.2.1 + 1, 0))
  else pure (.yield (none, c.2.1 - 1, c.2.2.1, c.2.2.2.1.push x, c.2.2.2.2.1 + 1, 0))
 else do
  let y ← elem' b (c.2.2.1 - 1)
  if c.2.2.1 - 1 == 1 then pure (.done (some (Zb5 a b (c.2.2.2.1.push y) c.2.1 (c.2.2.1 - 1)), c.2.1, c.2.2.1 - 1, c.2.2.2.1.push y, 0, c.2.2.2.2.2 + 1))
  else if c.2.2.2.2.2 + 1 ≥ mg then pure (.done (none, c.2.1, c.2.2.1 - 1, c.2.2.2.1.push y, 0, c.2.2.2.2.2 + 1))
  else pure (.yield (none, c.2.1, c.2.2.1 - 1, c.2.2.2.1.push y, 0, c.2.2.2.2.2 + 1))
noncomputable def hiO (a b : Array Keyed) (c : (Option (Array Keyed) × Nat × Nat × Array Keyed × Nat)) : StateT SortSt Sem (ForInStep (Option (Array Keyed) × Nat × Nat × Array Keyed × Nat)) := do
 let d ← forIn [0:a.size + b.size] ((none, c.2.1, c.2.2.1, c.2.2.2.1, 0, 0) : (Option (Array Keyed) × Nat × Nat × Array Keyed × Nat × Nat)) fun _ => hiM a b c.2.2.2.2
 Break.runK.match_1 (motive := fun _ => StateT SortSt Sem (ForInStep (Option (Array Keyed) × Nat × Nat × Array Keyed × Nat))) d.1 (fun r => pure (.done (some r, d.2.1, d.2.2.1, d.2.2.2.1, c.2.2.2.2))) fun _ => do
  rule "list.sort.gallop"
  let e ← forIn [0:a.size + b.size] ((none, d.2.1, d.2.2.1, d.2.2.2.1, c.2.2.2.2 + 1, d.2.2.2.2.1, d.2.2.2.2.2) : (Option (Array Keyed) × Nat × Nat × Array Keyed × Nat × Nat × Nat)) fun _ => hiB a b
  Break.runK.match_1 (motive := fun _ => StateT SortSt Sem (ForInStep (Option (Array Keyed) × Nat × Nat × Array Keyed × Nat))) e.1 (fun r => pure (.done (some r, e.2.1, e.2.2.1, e.2.2.2.1, e.2.2.2.2.1))) fun _ => do
   ZcZ (e.2.2.2.2.1 + 1)
   pure (.yield (none, e.2.1, e.2.2.1, e.2.2.2.1, e.2.2.2.2.1 + 1))
theorem ZfY (a b : Array Keyed) : ZhJ a b = (do
 rule "list.sort.merge-hi"
 let x ← elem' a (a.size - 1)
 if a.size - 1 == 0 then pure (Jv a b #[x] (a.size - 1) b.size)
 else if b.size == 1 then pure (Zb5 a b #[x] (a.size - 1) b.size)
 else do
  let z ← get
  let c ← forIn [0:a.size + b.size] ((none, a.size - 1, b.size, #[x], gallopOf z) : (Option (Array Keyed) × Nat × Nat × Array Keyed × Nat)) fun _ => hiO a b
  Break.runK.match_1 (motive := fun _ => StateT SortSt Sem (Array Keyed)) c.1 (fun r => pure r) fun _ => unsupported "internal:list.sort.merge-bound") := rfl
structure Hi (ϕ : Keyed → Nat) (T O X Y : List Keyed) : Prop where
 px : Up ϕ (X ++ O)
 py : Up ϕ (Y ++ O)
 pm : (X ++ Y ++ O).Perm T
section
variable {ϕ : Keyed → Nat} {T O X Y x y : List Keyed}
theorem Hi.swap (h : Hi ϕ T O X Y) : Hi ϕ T O Y X := ⟨h.py, h.px, (List.perm_append_comm.append_right O).trans h.pm⟩
theorem Hi.goX (h : Hi ϕ T O (X ++ x) Y) (hx : ∀ u ∈ x, ∀ v ∈ Y, ϕ v ≤ ϕ u) : Hi ϕ T (x ++ O) X Y := by
 obtain ⟨h1, h2, h3⟩ := h
 refine ⟨by rw [← List.append_assoc]; exact h1, ?_, ?_⟩
 ·unfold Up at *
  rw [List.append_assoc, List.pairwise_append] at h1
  rw [List.pairwise_append] at h2 ⊢
  refine ⟨h2.1, h1.2.1, fun a ha b hb => ?_⟩
  rcases List.mem_append.mp hb with z | z
  ·exact hx b z a ha
  ·exact h2.2.2 a ha b z
 ·refine List.Perm.trans ?_ h3
  rw [List.append_assoc, List.append_assoc X x Y, List.append_assoc X]
  refine List.Perm.append_left X ?_
  rw [← List.append_assoc]
  exact List.perm_append_comm.append_right O
theorem Hi.goY (h : Hi ϕ T O X (Y ++ y)) (hy : ∀ u ∈ y, ∀ v ∈ X, ϕ v ≤ ϕ u) : Hi ϕ T (y ++ O) X Y := (h.swap.goX hy).swap
theorem Hi.len (h : Hi ϕ T O X Y) : O.length + X.length + Y.length = T.length := by
 have := h.pm.length_eq
 simp only [List.length_append] at this
 omega
theorem Hi.hx (h : Hi ϕ T O X Y) : Up ϕ X := (List.pairwise_append.mp h.px).1
theorem Hi.hy (h : Hi ϕ T O X Y) : Up ϕ Y := (List.pairwise_append.mp h.py).1
theorem XZ {x : Keyed} {l : List Keyed} (h : Up ϕ (l ++ [x])) : ∀ v ∈ l ++ [x], ϕ v ≤ ϕ x := fun v hv => by
 rcases List.mem_append.mp hv with e | e
 ·exact (List.pairwise_append.mp h).2.2 v e x (List.mem_singleton.mpr rfl)
 ·exact Nat.le_of_eq (by rw [List.mem_singleton.mp e])
def HiI (ϕ : Keyed → Nat) (a b o : Array Keyed) (i j : Nat) : Prop := Hi ϕ (a.toList ++ b.toList) o.toList.reverse (a.toList.take i) (b.toList.take j)
theorem atL {a : Array Keyed} {i : Nat} (h : i < a.size) : ∃ x, a[i]? = some x ∧ a.toList.take (i + 1) = a.toList.take i ++ [x] :=
 ⟨a[i], Array.getElem?_eq_getElem h, by rw [List.take_succ_eq_append_getElem (by simpa using h)]; simp⟩
theorem HiI.end1 {a b o : Array Keyed} {i j : Nat} (h : HiI ϕ a b o i j) (e : i = 0 ∨ j = 0) : Ok ϕ a b (Jv a b o i j) := by
 have t : (Jv a b o i j).toList = a.toList.take i ++ b.toList.take j ++ o.toList.reverse := by
  unfold Jv
  rw [Jz, Jz, Zgl, Zgl, Array.toList_reverse]
 unfold Ok
 rw [t]
 refine ⟨?_, h.pm⟩
 rcases e with e | e
 ·subst e
  rw [List.take_zero, List.nil_append]
  exact h.py
 ·subst e
  rw [List.take_zero, List.append_nil]
  exact h.px
theorem HiI.end2 {a b o : Array Keyed} {i j : Nat} (h : HiI ϕ a b o i j) (e : j = 1) (pb : 0 < b.size) (hl : ∀ y, b[0]? = some y → ∀ x ∈ a.toList, ϕ y ≤ ϕ x) : Ok ϕ a b (Zb5 a b o i j) := by
 have t : (Zb5 a b o i j).toList = b.toList.take j ++ a.toList.take i ++ o.toList.reverse := by
  unfold Zb5
  rw [Jz, Jz, Zgl, Zgl, Array.toList_reverse]
 unfold Ok
 rw [t]
 subst e
 obtain ⟨y, hy, hd⟩ := atL pb
 have h' : Hi ϕ (a.toList ++ b.toList) o.toList.reverse ([] ++ a.toList.take i) (b.toList.take 1) := h
 have := h'.goX fun u hu v hv => by
  rw [hd, List.take_zero, List.nil_append, List.mem_singleton] at hv
  subst hv
  exact hl v hy u (List.mem_of_mem_take hu)
 refine ⟨by rw [List.append_assoc]; exact this.py, ?_⟩
 have := this.pm
 rw [List.nil_append] at this
 rw [List.append_assoc]
 exact this
theorem ZgG (o : Array Keyed) (x : Keyed) : (o.push x).toList.reverse = [x] ++ o.toList.reverse := by simp
theorem HiI.push1 {a b o : Array Keyed} {i j : Nat} {x : Keyed} (h : HiI ϕ a b o (i + 1) j) (e : a.toList.take (i + 1) = a.toList.take i ++ [x]) (hx : ∀ v ∈ b.toList.take j, ϕ v ≤ ϕ x) : HiI ϕ a b (o.push x) i j := by
 unfold HiI at h ⊢
 rw [e] at h
 rw [ZgG]
 exact h.goX fun u hu v hv => by rw [List.mem_singleton.mp hu]; exact hx v hv
theorem HiI.push2 {a b o : Array Keyed} {i j : Nat} {x : Keyed} (h : HiI ϕ a b o i (j + 1)) (e : b.toList.take (j + 1) = b.toList.take j ++ [x]) (hx : ∀ v ∈ a.toList.take i, ϕ v ≤ ϕ x) : HiI ϕ a b (o.push x) i j := by
 unfold HiI at h ⊢
 rw [e] at h
 rw [ZgG]
 exact h.goY fun u hu v hv => by rw [List.mem_singleton.mp hu]; exact hx v hv
theorem Zch (l : List Keyed) {z i : Nat} (h : z ≤ i) : l.take i = l.take z ++ (l.drop z).take (i - z) := by
 rw [show i = z + (i - z) by omega, List.take_add]
 congr 2
 omega
theorem Zjt (o a : Array Keyed) {z i : Nat} (h : z ≤ i) : (o ++ (a.extract z i).reverse).toList.reverse = (a.toList.drop z).take (i - z) ++ o.toList.reverse := by
 have := Ze0 a z (i - z)
 rw [show z + (i - z) = i by omega] at this
 rw [Jz, List.reverse_append, Array.toList_reverse, List.reverse_reverse, this]
theorem HiI.app1 {a b o : Array Keyed} {i j z : Nat} (h : HiI ϕ a b o i j) (hz : z ≤ i) (hx : ∀ u ∈ (a.toList.drop z).take (i - z), ∀ v ∈ b.toList.take j, ϕ v ≤ ϕ u) : HiI ϕ a b (o ++ (a.extract z i).reverse) z j := by
 unfold HiI at h ⊢
 rw [Zch _ hz] at h
 rw [Zjt _ _ hz]
 exact h.goX hx
theorem HiI.app2 {a b o : Array Keyed} {i j z : Nat} (h : HiI ϕ a b o i j) (hz : z ≤ j) (hx : ∀ u ∈ (b.toList.drop z).take (j - z), ∀ v ∈ a.toList.take i, ϕ v ≤ ϕ u) : HiI ϕ a b (o ++ (b.extract z j).reverse) i z := by
 unfold HiI at h ⊢
 rw [Zch _ hz] at h
 rw [Zjt _ _ hz]
 exact h.goY hx
theorem HiI.size {a b o : Array Keyed} {i j : Nat} (h : HiI ϕ a b o i j) (hi : i ≤ a.size) (hj : j ≤ b.size) : o.size + i + j = a.size + b.size := by
 have := h.len
 simp only [List.length_take, List.length_append, Array.length_toList, List.length_reverse] at this
 omega
end
section
variable {prog : Program} {w : World} {A : Around} {E : Value → Shared → Prop} {κ : SortKind} {ϕ : Keyed → Nat} {U : Keyed → Prop} {G : Shared → Prop}
def HiY (ϕ : Keyed → Nat) (G : Shared → Prop) (a b : Array Keyed) (st : SortSt) (t : Nat) (c : (Option (Array Keyed) × Nat × Nat × Array Keyed × Nat × Nat × Nat)) (st' : SortSt) (s' : Shared) : Prop :=
 ∃ i j o mg ac bc, c = (none, i, j, o, mg, ac, bc) ∧ Sim st st' ∧ G s' ∧ HiI ϕ a b o i j ∧ 1 ≤ i ∧ i ≤ a.size ∧ 2 ≤ j ∧ j ≤ b.size ∧ t + 1 + 1 ≤ o.size
def HiV (ϕ : Keyed → Nat) (G : Shared → Prop) (a b : Array Keyed) (st : SortSt) (t : Nat) (q : Nat) (c : (Option (Array Keyed) × Nat × Nat × Array Keyed × Nat × Nat)) (st' : SortSt) (s' : Shared) : Prop :=
 ∃ i j o ac bc, c = (none, i, j, o, ac, bc) ∧ Sim st st' ∧ G s' ∧ HiI ϕ a b o i j ∧ 1 ≤ i ∧ i ≤ a.size ∧ 2 ≤ j ∧ j ≤ b.size ∧ t + 1 + q ≤ o.size
def HiW (ϕ : Keyed → Nat) (G : Shared → Prop) (a b : Array Keyed) (st : SortSt) (t : Nat) (c : (Option (Array Keyed) × Nat × Nat × Array Keyed × Nat)) (st' : SortSt) (s' : Shared) : Prop :=
 ∃ i j o mg, c = (none, i, j, o, mg) ∧ Sim st st' ∧ G s' ∧ HiI ϕ a b o i j ∧ 1 ≤ i ∧ i ≤ a.size ∧ 2 ≤ j ∧ j ≤ b.size ∧ t + 1 ≤ o.size
theorem ZgR {a b o : Array Keyed} {i j mg k k1 t : Nat} {x : Keyed} {st st4 : SortSt} {s5 : Shared} (S4 : Sim st st4) (g5 : G s5) (hx : a[i]? = some x) (hd : a.toList.take (i + 1) = a.toList.take i ++ [x])
  (I6 : HiI ϕ a b o (i + 1) j) (l3 : ∀ u ∈ b.toList.take j, ϕ u ≤ ϕ x) (hi : i + 1 ≤ a.size) (hj : 2 ≤ j) (hj' : j ≤ b.size) (hz : t + 1 + 1 ≤ o.size) :
  kasC (model prog w) A E (hiE a b o (i + 1) j mg k k1) (LoZ (fun c st' s' => LoX ϕ G a b st c.1 st' s' ∨ HiY ϕ G a b st t c st' s') (HiY ϕ G a b st t)) st4 s5 := by
 unfold hiE
 dsimp only [Nat.add_one_sub_one]
 refine kasC_bind (ZG hx ?_)
 have I7 := I6.push1 hd l3
 have hz7 : t + 1 + 1 ≤ (o.push x).size := by rw [Array.size_push]; omega
 by_cases e6 : i = 0
 ·rw [if_pos (by simpa using e6)]
  exact kasC_pure (.inl ⟨_, rfl, S4, g5, I7.end1 (.inl e6)⟩)
 rw [if_neg (by simpa using e6)]
 have hi1 : 1 ≤ i := by omega
 have hi2 : i ≤ a.size := by omega
 split
 ·exact kasC_pure (.inr ⟨_, _, _, _, _, _, rfl, S4, g5, I7, hi1, hi2, hj, hj', hz7⟩)
 ·exact kasC_pure ⟨_, _, _, _, _, _, rfl, S4, g5, I7, hi1, hi2, hj, hj', hz7⟩
theorem ZgS (R : XX prog w A κ ϕ U G) {a b o : Array Keyed} {i j mg k bc t : Nat} {y : Keyed} {st st4 : SortSt} {s4 : Shared} (hk : kindOf st = κ) (ha : Al U a) (hb : Al U b) (ub : Up ϕ b.toList) (pb : 0 < b.size) (h0 : ∀ y, b[0]? = some y → ∀ x ∈ a.toList, ϕ y ≤ ϕ x) (S4 : Sim st st4) (g4 : G s4)
  (hy : b[j]? = some y) (hd : b.toList.take (j + 1) = b.toList.take j ++ [y]) (I4 : HiI ϕ a b o i (j + 1)) (l1 : ∀ u ∈ a.toList.take i, ϕ u ≤ ϕ y) (hi : 1 ≤ i) (hi' : i ≤ a.size) (hj : 1 ≤ j) (hj' : j + 1 ≤ b.size) (hz : t + 1 + 1 ≤ o.size) :
  kasC (model prog w) A E (hiD a b o i (j + 1) mg k bc) (LoZ (fun c st' s' => LoX ϕ G a b st c.1 st' s' ∨ HiY ϕ G a b st t c st' s') (HiY ϕ G a b st t)) st4 s4 := by
 obtain ⟨i, rfl⟩ : ∃ n, i = n + 1 := ⟨i - 1, by omega⟩
 unfold hiD
 dsimp only [Nat.add_one_sub_one]
 refine kasC_bind (ZG hy ?_)
 have I5 := I4.push2 hd l1
 by_cases e3 : j = 1
 ·rw [if_pos (by simpa using e3)]
  exact kasC_pure (.inl ⟨_, rfl, S4, g4, I5.end2 e3 pb h0⟩)
 rw [if_neg (by simpa using e3)]
 obtain ⟨x1, hx1, hdx1⟩ := atL (show i < a.size by omega)
 have mx := XZ (ϕ := ϕ) (hdx1 ▸ I5.hx)
 rw [← hdx1] at mx
 have hz5 : t + 1 + 1 ≤ (o.push y).size := by rw [Array.size_push]; omega
 have hj5 : 2 ≤ j := by omega
 clear e3 I4 l1 hd hz hj
 refine kasC_bind (ZG hx1 (kasC_bind (JS R (S4.1.trans hk) (ha _ _ hx1) hb (by omega) (by omega) ((UpTo.of ub).sub (by omega) (by omega)) g4 fun k' s5 hk2 l3 l4 g5 => ?_)))
 rw [Nat.zero_add] at l4
 rw [List.drop_zero] at l3
 dsimp only
 have I6 := I5.app2 hk2 fun u hu v hv => Nat.le_trans (mx v hv) (l4 u hu)
 have hz6 : t + 1 + 1 ≤ (o.push y ++ (b.extract k' j).reverse).size := by rw [Array.size_append]; omega
 by_cases ck : j - k' > 0
 ·rw [if_pos ck]
  by_cases e4 : k' = 1
  ·rw [if_pos (by simpa using e4)]
   exact kasC_pure (.inl ⟨_, rfl, S4, g5, I6.end2 e4 pb h0⟩)
  rw [if_neg (by simpa using e4)]
  by_cases e5 : k' = 0
  ·rw [if_pos (by simpa using e5)]
   exact kasC_pure (.inl ⟨_, rfl, S4, g5, I6.end1 (.inr e5)⟩)
  rw [if_neg (by simpa using e5)]
  exact ZgR S4 g5 hx1 hdx1 I6 l3 hi' (by omega) (by omega) hz6
 ·rw [if_neg ck]
  have k0 : k' = j := by omega
  subst k0
  exact ZgR S4 g5 hx1 hdx1 I5 l3 hi' hj5 (by omega) hz5
theorem ZgT (R : XX prog w A κ ϕ U G) {a b o : Array Keyed} {i j mg ac bc t : Nat} {st st3 : SortSt} {s3 : Shared} (hk : kindOf st = κ) (ha : Al U a) (hb : Al U b) (ua : Up ϕ a.toList) (ub : Up ϕ b.toList) (pb : 0 < b.size) (h0 : ∀ y, b[0]? = some y → ∀ x ∈ a.toList, ϕ y ≤ ϕ x) (S3 : Sim st st3) (g3 : G s3)
  (I3 : HiI ϕ a b o i j) (hi : 1 ≤ i) (hi' : i ≤ a.size) (hj : 2 ≤ j) (hj' : j ≤ b.size) (hz : t + 1 + 1 ≤ o.size) :
  kasC (model prog w) A E (hiC a b o i j mg ac bc) (LoZ (fun c st' s' => LoX ϕ G a b st c.1 st' s' ∨ HiY ϕ G a b st t c st' s') (HiY ϕ G a b st t)) st3 s3 := by
 obtain ⟨j, rfl⟩ : ∃ n, j = n + 1 := ⟨j - 1, by omega⟩
 unfold hiC
 dsimp only [Nat.add_one_sub_one]
 refine kasC_bind (ZaD fun st4 S4 => ?_)
 replace S4 := S3.trans S4
 obtain ⟨y, hy, hdy⟩ := atL (show j < b.size by omega)
 have my := XZ (ϕ := ϕ) (hdy ▸ I3.hy)
 rw [← hdy] at my
 refine kasC_bind (ZG hy (kasC_bind (JS R (S4.1.trans hk) (hb _ _ hy) ha (by omega) (by omega) ((UpTo.of ua).sub (by omega) (by omega)) g3 fun k s4 hk1 l1 l2 g4 => ?_)))
 rw [Nat.zero_add] at l2
 rw [List.drop_zero] at l1
 dsimp only
 have I4 := I3.app1 hk1 fun u hu v hv => Nat.le_trans (my v hv) (l2 u hu)
 have hz4 : t + 1 + 1 ≤ (o ++ (a.extract k i).reverse).size := by rw [Array.size_append]; omega
 have hj1 : 1 ≤ j := by omega
 by_cases ck : i - k > 0
 ·rw [if_pos ck]
  by_cases e1 : k = 0
  ·rw [if_pos (by simpa using e1)]
   exact kasC_pure (.inl ⟨_, rfl, S4, g4, I4.end1 (.inl e1)⟩)
  rw [if_neg (by simpa using e1)]
  exact ZgS R hk ha hb ub pb h0 S4 g4 hy hdy I4 l1 (by omega) (by omega) hj1 hj' hz4
 ·rw [if_neg ck]
  have k0 : k = i := by omega
  subst k0
  exact ZgS R hk ha hb ub pb h0 S4 g4 hy hdy I3 l1 hi hi' hj1 hj' hz
theorem Zjd (R : XX prog w A κ ϕ U G) {a b : Array Keyed} {mg t q : Nat} {c : (Option (Array Keyed) × Nat × Nat × Array Keyed × Nat × Nat)} {st st2 : SortSt} {s2 : Shared} (hk : kindOf st = κ) (ha : Al U a) (hb : Al U b) (pb : 0 < b.size) (h0 : ∀ y, b[0]? = some y → ∀ x ∈ a.toList, ϕ y ≤ ϕ x)
  (h : HiV ϕ G a b st t q c st2 s2) : kasC (model prog w) A E (hiM a b mg c) (LoZ (fun c st' s' => LoX ϕ G a b st c.1 st' s' ∨ HiV ϕ G a b st t 1 c st' s') (HiV ϕ G a b st t (q + 1))) st2 s2 := by
 obtain ⟨i, j, o, ac, bc, rfl, S2, g2, I2, hi2, hi2', hj2, hj2', hs2⟩ := h
 obtain ⟨i, rfl⟩ : ∃ n, i = n + 1 := ⟨i - 1, by omega⟩
 obtain ⟨j, rfl⟩ : ∃ n, j = n + 1 := ⟨j - 1, by omega⟩
 unfold hiM
 dsimp only [Nat.add_one_sub_one]
 obtain ⟨x, hx, hdx⟩ := atL (show i < a.size by omega)
 obtain ⟨y, hy, hdy⟩ := atL (show j < b.size by omega)
 refine kasC_bind (ZG hy (kasC_bind (ZG hx (kasC_bind (ZeJ R (S2.1.trans hk) (hb _ _ hy) (ha _ _ hx) g2 fun s3 g3 => ?_)))))
 dsimp only
 have mx := XZ (ϕ := ϕ) (hdx ▸ I2.hx)
 have my := XZ (ϕ := ϕ) (hdy ▸ I2.hy)
 rw [← hdx] at mx
 rw [← hdy] at my
 by_cases cc : ϕ y < ϕ x
 ·rw [if_pos (by simpa using cc)]
  refine kasC_bind (ZG hx ?_)
  have I3 := I2.push1 hdx fun v hv => Nat.le_trans (my v hv) (Nat.le_of_lt cc)
  by_cases e1 : i = 0
  ·rw [if_pos (by simpa using e1)]
   exact kasC_pure (.inl ⟨_, rfl, S2, g3, I3.end1 (.inl e1)⟩)
  rw [if_neg (by simpa using e1)]
  have z : t + 1 + (q + 1) ≤ (o.push x).size := by rw [Array.size_push]; omega
  by_cases e2 : ac + 1 ≥ mg
  ·rw [if_pos e2]
   exact kasC_pure (.inr ⟨_, _, _, _, _, rfl, S2, g3, I3, by omega, by omega, hj2, hj2', by omega⟩)
  ·rw [if_neg e2]
   exact kasC_pure ⟨_, _, _, _, _, rfl, S2, g3, I3, by omega, by omega, hj2, hj2', z⟩
 ·rw [if_neg (by simpa using cc)]
  refine kasC_bind (ZG hy ?_)
  have I3 := I2.push2 hdy fun v hv => Nat.le_trans (mx v hv) (by omega)
  by_cases e1 : j = 1
  ·rw [if_pos (by simpa using e1)]
   exact kasC_pure (.inl ⟨_, rfl, S2, g3, I3.end2 e1 pb h0⟩)
  rw [if_neg (by simpa using e1)]
  have z : t + 1 + (q + 1) ≤ (o.push y).size := by rw [Array.size_push]; omega
  by_cases e2 : bc + 1 ≥ mg
  ·rw [if_pos e2]
   exact kasC_pure (.inr ⟨_, _, _, _, _, rfl, S2, g3, I3, hi2, hi2', by omega, by omega, by omega⟩)
  ·rw [if_neg e2]
   exact kasC_pure ⟨_, _, _, _, _, rfl, S2, g3, I3, hi2, hi2', by omega, by omega, z⟩
theorem Zje (R : XX prog w A κ ϕ U G) {a b : Array Keyed} {t : Nat} {c : (Option (Array Keyed) × Nat × Nat × Array Keyed × Nat × Nat × Nat)} {st st3 : SortSt} {s3 : Shared} (hk : kindOf st = κ) (ha : Al U a) (hb : Al U b) (ua : Up ϕ a.toList) (ub : Up ϕ b.toList) (pb : 0 < b.size) (h0 : ∀ y, b[0]? = some y → ∀ x ∈ a.toList, ϕ y ≤ ϕ x)
  (h : HiY ϕ G a b st t c st3 s3) : kasC (model prog w) A E (hiB a b c) (LoZ (fun c st' s' => LoX ϕ G a b st c.1 st' s' ∨ HiY ϕ G a b st t c st' s') (HiY ϕ G a b st t)) st3 s3 := by
 obtain ⟨i, j, o, mg, ac, bc, rfl, S3, g3, I3, hi3, hi3', hj3, hj3', hs3⟩ := h
 unfold hiB
 split
 ·exact ZgT R hk ha hb ua ub pb h0 S3 g3 I3 hi3 hi3' hj3 hj3' hs3
 ·exact ZgT R hk ha hb ua ub pb h0 S3 g3 I3 hi3 hi3' hj3 hj3' hs3
theorem Zjc (R : XX prog w A κ ϕ U G) {a b : Array Keyed} {t : Nat} {c : (Option (Array Keyed) × Nat × Nat × Array Keyed × Nat)} {st st' : SortSt} {s' : Shared} (hk : kindOf st = κ) (ha : Al U a) (hb : Al U b) (ua : Up ϕ a.toList) (ub : Up ϕ b.toList) (pb : 0 < b.size) (h0 : ∀ y, b[0]? = some y → ∀ x ∈ a.toList, ϕ y ≤ ϕ x)
  (h : HiW ϕ G a b st t c st' s') : kasC (model prog w) A E (hiO a b c) (LoZ (fun c st' s' => LoX ϕ G a b st c.1 st' s') (HiW ϕ G a b st (t + 1))) st' s' := by
 obtain ⟨i, j, o, mg, rfl, S, g', I, hi, hi', hj, hj', hs⟩ := h
 refine kasC_bind (Z1 (Q := fun c st' s' => LoX ϕ G a b st c.1 st' s' ∨ HiV ϕ G a b st t 1 c st' s')
  (Yb (HiV ϕ G a b st t) ⟨i, j, o, 0, 0, rfl, S, g', I, hi, hi', hj, hj', hs⟩ (fun q c st2 s2 hq V => Zjd R hk ha hb pb h0 V) ?_) ?_)
 ·rintro c st2 s2 ⟨i, j, o, ac, bc, rfl, S2, g2, I2, hi2, hi2', hj2, hj2', hs2⟩
  exact .inr ⟨i, j, o, ac, bc, rfl, S2, g2, I2, hi2, hi2', hj2, hj2', by omega⟩
 ·rintro c st2 s2 (⟨r, e, S2, g2, O⟩ | ⟨i, j, o, ac, bc, rfl, S2, g2, I2, hi2⟩)
  ·rw [e]
   exact kasC_pure ⟨r, rfl, S2, g2, O⟩
  refine kasC_bind (XC ?_)
  refine kasC_bind (Z1 (Q := fun c st' s' => LoX ϕ G a b st c.1 st' s' ∨ HiY ϕ G a b st t c st' s')
   (Yb (fun _ => HiY ϕ G a b st t) ⟨i, j, o, _, ac, bc, rfl, S2, g2, I2, hi2⟩ (fun q c st3 s3 hq Y => Zje R hk ha hb ua ub pb h0 Y) fun c st3 s3 Y => .inr Y) ?_)
  rintro c st3 s3 (⟨r, e, S3, g3, O⟩ | ⟨i, j, o, mg, ac, bc, rfl, S3, g3, I3, hi3⟩)
  ·rw [e]
   exact kasC_pure ⟨r, rfl, S3, g3, O⟩
  refine kasC_bind (ZaD fun st4 S4 => ?_)
  exact kasC_pure ⟨i, j, o, _, rfl, S3.trans S4, g3, I3, hi3⟩
theorem Zj2 (R : XX prog w A κ ϕ U G) {a b : Array Keyed} {Q : Array Keyed → SortSt → Shared → Prop} {st : SortSt} {s : Shared} (hk : kindOf st = κ) (ha : Al U a) (hb : Al U b) (ua : Up ϕ a.toList) (ub : Up ϕ b.toList) (pa : 0 < a.size) (pb : 0 < b.size)
  (h0 : ∀ y, b[0]? = some y → ∀ x ∈ a.toList, ϕ y ≤ ϕ x) (h1 : ∀ x, a[a.size - 1]? = some x → ∀ y ∈ b.toList, ϕ y ≤ ϕ x) (g : G s)
  (h : ∀ r st' s', Sim st st' → G s' → Ok ϕ a b r → Q r st' s') : kasC (model prog w) A E (ZhJ a b) Q st s := by
 rw [ZfY]
 refine kasC_bind (XC ?_)
 obtain ⟨x0, hx0, hd0⟩ := atL (show a.size - 1 < a.size by omega)
 refine kasC_bind (ZG hx0 ?_)
 have I0 : HiI ϕ a b #[x0] (a.size - 1) b.size := by
  have ea : a.toList.take (a.size - 1 + 1) = a.toList := List.take_of_length_le (by rw [Array.length_toList]; omega)
  have eb : b.toList.take b.size = b.toList := List.take_of_length_le (by rw [Array.length_toList]; omega)
  have : HiI ϕ a b #[] (a.size - 1 + 1) b.size := by
   unfold HiI
   rw [ea, eb]
   exact ⟨by simpa using ua, by simpa using ub, by simp⟩
  exact this.push1 hd0 fun v hv => h1 x0 hx0 v (List.mem_of_mem_take hv)
 by_cases c1 : a.size - 1 = 0
 ·rw [if_pos (by simpa using c1)]
  exact kasC_pure (h _ _ _ (Sim.refl _) g (I0.end1 (.inl c1)))
 rw [if_neg (by simpa using c1)]
 by_cases c2 : b.size = 1
 ·rw [if_pos (by simpa using c2)]
  exact kasC_pure (h _ _ _ (Sim.refl _) g (I0.end2 c2 pb h0))
 rw [if_neg (by simpa using c2)]
 refine kasC_bind (kasC_get ?_)
 refine kasC_bind (Z1 (Q := fun c st' s' => LoX ϕ G a b st c.1 st' s') (Yb (HiW ϕ G a b st)
  ⟨_, _, _, _, rfl, Sim.refl _, g, I0, by omega, by omega, by omega, by omega, Nat.le_refl 1⟩ (fun t c st' s' ht W => Zjc R hk ha hb ua ub pb h0 W) ?_) ?_)
 ·rintro c st' s' ⟨i, j, o, mg, rfl, S, g', I, hi, hi', hj, hj', hs⟩
  have := I.size (by omega) (by omega)
  omega
 ·rintro c st' s' ⟨r, e, S, g', O⟩
  rw [e]
  exact kasC_pure (h r st' s' S g' O)
end
end Tim
namespace Tim
open PySem PySem.W PyProof.Rows
theorem Xp {ϕ : Keyed → Nat} {xs : Array Keyed} {i j : Nat} (hj : j ≤ xs.size) (k : Nat) : fx ϕ (mirror xs i j ((j - i) / 2)) k = if i ≤ k ∧ k < j then fx ϕ xs (i + j - 1 - k) else fx ϕ xs k := by
 have e := getElem?_mirror_all (i := i) hj k
 by_cases h1 : i ≤ k ∧ k < j
 ·rw [if_pos h1] at e ⊢
  exact Yr e
 ·rw [if_neg h1] at e ⊢
  exact Yr e
theorem Zbk {ϕ : Keyed → Nat} {xs : Array Keyed} {src d : Nat} (hs : src < xs.size) (hd : d ≤ src) (k : Nat) : fx ϕ (bubble xs src d) k = if k = src - d then fx ϕ xs src else if src - d < k ∧ k ≤ src then fx ϕ xs (k - 1) else fx ϕ xs k := by
 have e := getElem?_bubble hs d hd k
 by_cases h1 : k = src - d
 ·rw [if_pos h1] at e ⊢
  exact Yr e
 ·rw [if_neg h1] at e ⊢
  by_cases h2 : src - d < k ∧ k ≤ src
  ·rw [if_pos h2] at e ⊢
   exact Yr e
  ·rw [if_neg h2] at e ⊢
   exact Yr e
structure Kp (lo : Nat) (st st' : SortSt) : Prop where
 kind : kindOf st' = kindOf st
 pend : pendingOf st' = pendingOf st
 fail : failedOf st' = failedOf st
 perm : (arrOf st').Perm (arrOf st)
 low : ∀ i, i < lo → (arrOf st')[i]? = (arrOf st)[i]?
theorem Kp.refl (lo : Nat) (st : SortSt) : Kp lo st st := ⟨rfl, rfl, rfl, Array.Perm.refl _, fun _ _ => rfl⟩
theorem Kp.size {lo : Nat} {st st' : SortSt} (h : Kp lo st st') : (arrOf st').size = (arrOf st).size := h.perm.size_eq
theorem Kp.mir {lo i j : Nat} {st st' : SortSt} (h : Kp lo st st') (hi : lo ≤ i) (hj : j ≤ (arrOf st').size) : Kp lo st (setArr st' (mirror (arrOf st') i j ((j - i) / 2))) :=
 ⟨h.kind, h.pend, h.fail, (mirror_perm _ _ _ _).trans h.perm, fun k hk => by
  show (mirror (arrOf st') i j ((j - i) / 2))[k]? = _
  rw [getElem?_mirror_all hj k, if_neg (by omega)]
  exact h.low k hk⟩
theorem Kp.bub {lo src d : Nat} {st st' : SortSt} (h : Kp lo st st') (hs : src < (arrOf st').size) (hd : d ≤ src) (hl : lo ≤ src - d) : Kp lo st (setArr st' (bubble (arrOf st') src d)) :=
 ⟨h.kind, h.pend, h.fail, (bubble_perm _ _ _).trans h.perm, fun k hk => by
  show (bubble (arrOf st') src d)[k]? = _
  rw [getElem?_bubble hs d hd k, if_neg (by omega), if_neg (by omega)]
  exact h.low k hk⟩
def Zjw (ϕ : Keyed → Nat) (a : Array Keyed) (p q : Nat) : Prop := ∀ i j, p ≤ i → i ≤ j → j < q → fx ϕ a j ≤ fx ϕ a i
section
variable {prog : Program} {w : World} {A : Around} {E : Value → Shared → Prop} {κ : SortKind} {ϕ : Keyed → Nat} {U : Keyed → Prop} {G : Shared → Prop}
theorem Zde (R : XX prog w A κ ϕ U G) {i j : Nat} {Q : Option Bool → SortSt → Shared → Prop} {st : SortSt} {s : Shared} (hk : kindOf st = κ) (ha : Al U (arrOf st)) (hi : i < (arrOf st).size) (hj : j < (arrOf st).size) (g : G s)
  (h : ∀ s', G s' → Q (some (decide (fx ϕ (arrOf st) i < fx ϕ (arrOf st) j))) st s') : kasC (model prog w) A E (ltAt' i j) Q st s := by
 rw [ltAt'_eq]
 refine kasC_bind (kasC_get ?_)
 have e1 : (arrOf st)[i]? = some (arrOf st)[i] := Array.getElem?_eq_getElem hi
 have e2 : (arrOf st)[j]? = some (arrOf st)[j] := Array.getElem?_eq_getElem hj
 rw [Zbl e1, Zbl e2] at h
 exact kasC_bind (ZG e1 (kasC_bind (ZG e2 (ZeJ R hk (ha _ _ e1) (ha _ _ e2) g h))))
theorem ZcH {i j : Nat} {Q : Unit → SortSt → Shared → Prop} {st : SortSt} {s : Shared} (h : Q () (setArr st (mirror (arrOf st) i j ((j - i) / 2))) s) : kasC (model prog w) A E (reverseSlice' i j) Q st s := by
 rw [reverseSlice'_eq]
 exact kasC_modify h
theorem ZeL (R : XX prog w A κ ϕ U G) {lo n0 nrem : Nat} {Q : Option Nat → SortSt → Shared → Prop} {st0 st : SortSt} {s : Shared} (hk : kindOf st0 = κ) (ha : Al U (arrOf st0)) (hn : lo + nrem ≤ (arrOf st0).size) (h1 : 1 ≤ n0) (hnn : n0 + 1 ≤ nrem) (K0 : Kp lo st0 st) (dn : Zjw ϕ (arrOf st) lo (lo + n0 + 1)) (g : G s)
  (h : ∀ n st' s', 1 ≤ n → n ≤ nrem → Kp lo st0 st' → UpTo ϕ (arrOf st') lo (lo + n) → G s' → Q (some n) st' s') : kasC (model prog w) A E (do
   rule "list.sort.descending-run"
   let mut n := n0 + 1
   let mut eq := 0
   for _ in [n:nrem] do
    let some sm ← ltAt' (lo + n) (lo + n - 1) | return none
    if sm then
     if eq > 0 then reverseSlice' (lo + n - (eq + 1)) (lo + n)
     eq := 0
    else
     let some la ← ltAt' (lo + n - 1) (lo + n) | return none
     if la then break
     eq := eq + 1
    n := n + 1
   if eq > 0 then reverseSlice' (lo + n - (eq + 1)) (lo + n)
   reverseSlice' lo (lo + n)
   for _ in [n:nrem] do
    let some sm ← ltAt' (lo + n) (lo + n - 1) | return none
    if sm then break
    n := n + 1
   return some n) Q st s := by
 have meq : ∀ {xs : Array Keyed} {i j : Nat}, j ≤ xs.size → (∀ k, i ≤ k → k < j → fx ϕ xs k = fx ϕ xs (j - 1)) → ∀ k, fx ϕ (mirror xs i j ((j - i) / 2)) k = fx ϕ xs k := fun {xs i j} hj he k => by
  rw [Xp hj]
  split
  ·rw [he _ (by omega) (by omega), he k (by omega) (by omega)]
  ·rfl
 dsimp only
 refine kasC_bind (XC ?_)
 refine kasC_bind (Z1 (Q := fun c st' s' => ∃ n q, c = (none, n, q) ∧ Kp lo st0 st' ∧ G s' ∧ 1 ≤ n ∧ n ≤ nrem ∧ Zjw ϕ (arrOf st') lo (lo + n) ∧ q < n ∧ ∀ k, lo + n - (q + 1) ≤ k → k < lo + n → fx ϕ (arrOf st') k = fx ϕ (arrOf st') (lo + n - 1))
  (Yb (fun t c st' s' => ∃ n q, c = (none, n, q) ∧ Kp lo st0 st' ∧ G s' ∧ 1 ≤ n ∧ n = t ∧ n ≤ nrem ∧ Zjw ϕ (arrOf st') lo (lo + n) ∧ q < n ∧ ∀ k, lo + n - (q + 1) ≤ k → k < lo + n → fx ϕ (arrOf st') k = fx ϕ (arrOf st') (lo + n - 1))
   ⟨n0 + 1, 0, rfl, K0, g, by omega, rfl, hnn, dn, by omega, fun k a1 a2 => by rw [show k = lo + (n0 + 1) - 1 by omega]⟩ ?_ ?_) ?_)
 ·rintro t c st' s' ht ⟨n, q, rfl, K1, g1, b1, rfl, b2, b3, b4, b5⟩
  dsimp only
  have sz := K1.size
  have al : Al U (arrOf st') := ha.perm K1.perm
  have htn : n < nrem := by omega
  have hsz : lo + n < (arrOf st').size := by omega
  clear ht hn hnn h1 sz b2 K0 dn h g
  refine kasC_bind (Zde R (K1.kind.trans hk) al (by omega) (by omega) g1 fun s2 g2 => ?_)
  dsimp only
  by_cases c : fx ϕ (arrOf st') (lo + n) < fx ϕ (arrOf st') (lo + n - 1)
  ·rw [if_pos (by simpa using c)]
   have dn2 : Zjw ϕ (arrOf st') lo (lo + (n + 1)) := fun i j a1 a2 a3 => by
    rcases Nat.lt_or_ge j (lo + n) with z | z
    ·exact b3 i j a1 a2 z
    ·have ej : j = lo + n := by omega
     subst ej
     rcases Nat.lt_or_ge i (lo + n) with z2 | z2
     ·have := b3 i (lo + n - 1) a1 (by omega) (by omega)
      omega
     ·rw [show i = lo + n by omega]
      exact Nat.le_refl _
   by_cases cq : q > 0
   ·rw [if_pos cq]
    refine kasC_bind (ZcH (kasC_pure ⟨n + 1, 0, rfl, K1.mir (by omega) (by omega), g2, by omega, rfl, by omega, fun i j a1 a2 a3 => ?_, by omega, fun k a1 a2 => by rw [show k = lo + (n + 1) - 1 by omega]⟩))
    show fx ϕ (mirror (arrOf st') _ _ _) j ≤ fx ϕ (mirror (arrOf st') _ _ _) i
    rw [meq (by omega) b5, meq (by omega) b5]
    exact dn2 i j a1 a2 a3
   ·rw [if_neg cq]
    exact kasC_pure ⟨n + 1, 0, rfl, K1, g2, by omega, rfl, by omega, dn2, by omega, fun k a1 a2 => by rw [show k = lo + (n + 1) - 1 by omega]⟩
  ·rw [if_neg (by simpa using c)]
   refine kasC_bind (Zde R (K1.kind.trans hk) al (by omega) (by omega) g2 fun s3 g3 => ?_)
   dsimp only
   by_cases c2 : fx ϕ (arrOf st') (lo + n - 1) < fx ϕ (arrOf st') (lo + n)
   ·rw [if_pos (by simpa using c2)]
    exact kasC_pure ⟨n, q, rfl, K1, g3, b1, by omega, b3, b4, b5⟩
   ·rw [if_neg (by simpa using c2)]
    have e : fx ϕ (arrOf st') (lo + n) = fx ϕ (arrOf st') (lo + n - 1) := by omega
    refine kasC_pure ⟨n + 1, q + 1, rfl, K1, g3, by omega, rfl, by omega, fun i j a1 a2 a3 => ?_, by omega, fun k a1 a2 => ?_⟩
    ·rcases Nat.lt_or_ge j (lo + n) with z | z
     ·exact b3 i j a1 a2 z
     ·have ej : j = lo + n := by omega
      subst ej
      rcases Nat.lt_or_ge i (lo + n) with z2 | z2
      ·have := b3 i (lo + n - 1) a1 (by omega) (by omega)
       omega
      ·rw [show i = lo + n by omega]
       exact Nat.le_refl _
    ·rw [show lo + (n + 1) - 1 = lo + n by omega, e]
     rcases Nat.lt_or_ge k (lo + n) with z | z
     ·exact b5 k (by omega) z
     ·rw [show k = lo + n by omega]
      exact e
 ·rintro c st' s' ⟨n, q, rfl, K1, g1, b1, b2, b3, b4⟩
  exact ⟨n, q, rfl, K1, g1, b1, by omega, b4⟩
 ·rintro c st' s' ⟨n, q, rfl, K1, g1, b1, b2, b3, b4, b5⟩
  dsimp only
  have sz := K1.size
  have last : ∀ {st2 : SortSt}, Kp lo st0 st2 → Zjw ϕ (arrOf st2) lo (lo + n) → kasC (model prog w) A E (do
    reverseSlice' lo (lo + n)
    let mut m := n
    for _ in [m:nrem] do
     let some sm ← ltAt' (lo + m) (lo + m - 1) | return none
     if sm then break
     m := m + 1
    return some m) Q st2 s' := fun {st2} K2 d2 => by
   have sz2 := K2.size
   have hs2 : lo + n ≤ (arrOf st2).size := by omega
   dsimp only
   refine kasC_bind (ZcH ?_)
   have K3 := K2.mir (i := lo) (j := lo + n) (by omega) (by omega)
   have u3 : UpTo ϕ (arrOf (setArr st2 (mirror (arrOf st2) lo (lo + n) ((lo + n - lo) / 2)))) lo (lo + n) := fun i j a1 a2 a3 => by
    show fx ϕ (mirror (arrOf st2) _ _ _) i ≤ fx ϕ (mirror (arrOf st2) _ _ _) j
    rw [Xp (by omega), Xp (by omega), if_pos (by omega), if_pos (by omega)]
    exact d2 _ _ (by omega) (by omega) (by omega)
   generalize setArr st2 (mirror (arrOf st2) lo (lo + n) ((lo + n - lo) / 2)) = st3 at *
   have sz3 := K3.size
   refine kasC_bind (Z1 (Q := fun c st' s' => ∃ m, c = (none, m) ∧ st' = st3 ∧ G s' ∧ 1 ≤ m ∧ m ≤ nrem ∧ UpTo ϕ (arrOf st3) lo (lo + m)) (Yb (fun t c st' s' => ∃ m, c = (none, m) ∧ st' = st3 ∧ G s' ∧ 1 ≤ m ∧ m = t ∧ m ≤ nrem ∧ UpTo ϕ (arrOf st3) lo (lo + m)) ⟨n, rfl, rfl, g1, b1, rfl, b2, u3⟩ ?_ ?_) ?_)
   ·rintro t c st4 s4 ht ⟨m, rfl, rfl, g4, d1, rfl, d3, d4⟩
    dsimp only
    have htn : m < nrem := by omega
    have hsz : lo + m < (arrOf st4).size := by omega
    clear ht hn hnn h1 sz sz2 sz3 d3 K0 dn h g b5 b4 b3 b2
    refine kasC_bind (Zde R (K3.kind.trans hk) (ha.perm K3.perm) (by omega) (by omega) g4 fun s5 g5 => ?_)
    dsimp only
    by_cases c : fx ϕ (arrOf st4) (lo + m) < fx ϕ (arrOf st4) (lo + m - 1)
    ·rw [if_pos (by simpa using c)]
     exact kasC_pure ⟨m, rfl, rfl, g5, d1, Nat.le_of_lt htn, d4⟩
    ·rw [if_neg (by simpa using c)]
     refine kasC_pure ⟨m + 1, rfl, rfl, g5, by omega, rfl, by omega, fun i j a1 a2 a3 => ?_⟩
     rcases Nat.lt_or_ge j (lo + m) with z | z
     ·exact d4 i j a1 a2 z
     ·have ej : j = lo + m := by omega
      subst ej
      rcases Nat.lt_or_ge i (lo + m) with z2 | z2
      ·have := d4 i (lo + m - 1) a1 (by omega) (by omega)
       omega
      ·rw [show i = lo + m by omega]
       exact Nat.le_refl _
   ·rintro c st4 s4 ⟨m, rfl, rfl, g4, d1, rfl, d3, d4⟩
    exact ⟨_, rfl, rfl, g4, d1, d3, d4⟩
   ·rintro c st4 s4 ⟨m, rfl, rfl, g4, d1, d3, d4⟩
    exact kasC_pure (h m st4 s4 d1 d3 K3 d4 g4)
  by_cases cq : q > 0
  ·rw [if_pos cq]
   refine kasC_bind (ZcH (last (K1.mir (by omega) (by omega)) fun i j a1 a2 a3 => ?_))
   show fx ϕ (mirror (arrOf st') _ _ _) j ≤ fx ϕ (mirror (arrOf st') _ _ _) i
   rw [meq (by omega) b5, meq (by omega) b5]
   exact b3 i j a1 a2 a3
  ·rw [if_neg cq]
   exact last K1 b3
theorem Zf4 (R : XX prog w A κ ϕ U G) {lo nrem : Nat} {Q : Option Nat → SortSt → Shared → Prop} {st : SortSt} {s : Shared} (hk : kindOf st = κ) (ha : Al U (arrOf st)) (hn : lo + nrem ≤ (arrOf st).size) (h1 : 1 ≤ nrem) (g : G s)
  (h : ∀ n st' s', 1 ≤ n → n ≤ nrem → Kp lo st st' → UpTo ϕ (arrOf st') lo (lo + n) → G s' → Q (some n) st' s') : kasC (model prog w) A E (countRun' lo nrem) Q st s := by
 rw [countRun'_eq]
 dsimp only
 refine kasC_bind (Z1 (Q := fun c st' s' => ∃ m, c = (none, m) ∧ st' = st ∧ G s' ∧ 1 ≤ m ∧ m ≤ nrem ∧ UpTo ϕ (arrOf st) lo (lo + m) ∧ (m = nrem ∨ fx ϕ (arrOf st) (lo + m) < fx ϕ (arrOf st) (lo + m - 1))) (Yb (fun t c st' s' => ∃ m, c = (none, m) ∧ st' = st ∧ G s' ∧ 1 ≤ m ∧ m = t ∧ m ≤ nrem ∧ UpTo ϕ (arrOf st) lo (lo + m)) ⟨1, rfl, rfl, g, by omega, rfl, h1, fun i j a1 a2 a3 => by rw [show i = j by omega]; exact Nat.le_refl _⟩ ?_ ?_) ?_)
 ·rintro t c st4 s4 ht ⟨m, rfl, rfl, g4, d1, rfl, d3, d4⟩
  dsimp only
  have htn : m < nrem := by omega
  have hsz : lo + m < (arrOf st4).size := by omega
  clear ht hn h1 d3 g h
  refine kasC_bind (Zde R hk ha (by omega) (by omega) g4 fun s5 g5 => ?_)
  dsimp only
  by_cases c : fx ϕ (arrOf st4) (lo + m) < fx ϕ (arrOf st4) (lo + m - 1)
  ·rw [if_pos (by simpa using c)]
   exact kasC_pure ⟨m, rfl, rfl, g5, d1, Nat.le_of_lt htn, d4, .inr c⟩
  ·rw [if_neg (by simpa using c)]
   refine kasC_pure ⟨m + 1, rfl, rfl, g5, by omega, rfl, by omega, fun i j a1 a2 a3 => ?_⟩
   rcases Nat.lt_or_ge j (lo + m) with z | z
   ·exact d4 i j a1 a2 z
   ·have ej : j = lo + m := by omega
    subst ej
    rcases Nat.lt_or_ge i (lo + m) with z2 | z2
    ·have := d4 i (lo + m - 1) a1 (by omega) (by omega)
     omega
    ·rw [show i = lo + m by omega]
     exact Nat.le_refl _
 ·rintro c st4 s4 ⟨m, rfl, rfl, g4, d1, rfl, d3, d4⟩
  exact ⟨_, rfl, rfl, g4, d1, d3, d4, .inl (by omega)⟩
 ·rintro c st4 s4 ⟨m, rfl, rfl, g4, d1, d3, d4, d5⟩
  dsimp only
  by_cases c1 : m = nrem
  ·rw [if_pos (by simpa using c1)]
   exact kasC_pure (h m st4 s4 d1 d3 (Kp.refl _ _) d4 g4)
  rw [if_neg (by simpa using c1)]
  have hlt := d5.resolve_left c1
  replace c1 : m < nrem := by omega
  have hsz : lo + m < (arrOf st4).size := by omega
  clear d5 h1
  by_cases c2 : m > 1
  ·rw [if_pos c2]
   refine kasC_bind (Zde R hk ha (by omega) (by omega) g4 fun s5 g5 => ?_)
   dsimp only
   by_cases c3 : fx ϕ (arrOf st4) lo < fx ϕ (arrOf st4) (lo + m - 1)
   ·rw [if_pos (by simpa using c3)]
    exact kasC_pure (h m st4 s5 d1 d3 (Kp.refl _ _) d4 g5)
   ·rw [if_neg (by simpa using c3)]
    have hall : ∀ k, lo ≤ k → k < lo + m → fx ϕ (arrOf st4) k = fx ϕ (arrOf st4) (lo + m - 1) := fun k a1 a2 => by
     have z1 := d4 lo k (by omega) a1 a2
     have z2 := d4 k (lo + m - 1) a1 (by omega) (by omega)
     omega
    refine kasC_bind (ZcH (ZeL R hk ha hn d1 (by omega) ((Kp.refl lo st4).mir (by omega) (by omega)) ?_ g5 h))
    have meq : ∀ k, fx ϕ (mirror (arrOf st4) lo (lo + m) ((lo + m - lo) / 2)) k = fx ϕ (arrOf st4) k := fun k => by
     rw [Xp (by omega)]
     split
     ·rw [hall _ (by omega) (by omega), hall k (by omega) (by omega)]
     ·rfl
    intro i j a1 a2 a3
    show fx ϕ (mirror (arrOf st4) _ _ _) j ≤ fx ϕ (mirror (arrOf st4) _ _ _) i
    rw [meq, meq]
    rcases Nat.lt_or_ge j (lo + m) with z | z
    ·rw [hall i (by omega) (by omega), hall j (by omega) z]
     exact Nat.le_refl _
    ·have ej : j = lo + m := by omega
     subst ej
     rcases Nat.lt_or_ge i (lo + m) with z2 | z2
     ·rw [hall i a1 z2]
      omega
     ·rw [show i = lo + m by omega]
      exact Nat.le_refl _
  ·rw [if_neg c2]
   have hm : m = 1 := by omega
   subst hm
   refine ZeL R hk ha hn d1 (by omega) (Kp.refl lo st4) ?_ g4 h
   intro i j a1 a2 a3
   rcases Nat.lt_or_ge i j with z | z
   ·have e1 : i = lo := by omega
    have e2 : j = lo + 1 := by omega
    subst e1 e2
    rw [Nat.add_sub_cancel] at hlt
    omega
   ·rw [show i = j by omega]
    exact Nat.le_refl _
theorem Zjb (R : XX prog w A κ ϕ U G) {lo n ok : Nat} {Q : Bool → SortSt → Shared → Prop} {st0 st : SortSt} {s : Shared} (hk : kindOf st0 = κ) (ha : Al U (arrOf st0)) (hn : lo + n ≤ (arrOf st0).size) (hok : ok ≤ n) (K0 : Kp lo st0 st) (up : UpTo ϕ (arrOf st) lo (lo + ok)) (g : G s)
  (h : ∀ st' s', Kp lo st0 st' → UpTo ϕ (arrOf st') lo (lo + n) → G s' → Q true st' s') : kasC (model prog w) A E (binarySort' lo n ok) Q st s := by
 rw [binarySort'_eq]
 dsimp only
 refine kasC_bind (Z1 (Q := fun c st' s' => c = (none, ()) ∧ Kp lo st0 st' ∧ G s' ∧ UpTo ϕ (arrOf st') lo (lo + n)) (Yb (fun k c st' s' => c = (none, ()) ∧ max ok 1 ≤ k ∧ Kp lo st0 st' ∧ G s' ∧ UpTo ϕ (arrOf st') lo (lo + min k n)) ⟨rfl, Nat.le_refl _, K0, g, fun i j a1 a2 a3 => ?_⟩ ?_ ?_) ?_)
 ·by_cases h1 : ok = 0
  ·rw [show i = j by omega]
   exact Nat.le_refl _
  ·exact up i j a1 a2 (by omega)
 ·rintro k c st1 s1 hkk ⟨rfl, hk1, K1, g1, u1⟩
  have sz := K1.size
  have hkn : k < n := by omega
  rw [show min k n = k by omega] at u1
  have hkm : True → max ok 1 ≤ k + 1 := fun _ => by omega
  have hks0 : lo + k < (arrOf st1).size := by omega
  clear hkk hk1 hok hn sz up
  refine kasC_bind (Z1 (Q := fun c st' s' => st' = st1 ∧ G s' ∧ ∃ l r, c = (none, l, r) ∧ l ≤ k ∧ (∀ i, lo ≤ i → i < lo + l → fx ϕ (arrOf st1) i ≤ fx ϕ (arrOf st1) (lo + k)) ∧ (∀ i, lo + l ≤ i → i < lo + k → fx ϕ (arrOf st1) (lo + k) < fx ϕ (arrOf st1) i))
   (Yb (fun x c st' s' => st' = st1 ∧ G s' ∧ ∃ l r, c = (none, l, r) ∧ l ≤ r ∧ r ≤ k ∧ r - l ≤ k - x ∧ (∀ i, lo ≤ i → i < lo + l → fx ϕ (arrOf st1) i ≤ fx ϕ (arrOf st1) (lo + k)) ∧ (∀ i, lo + r ≤ i → i < lo + k → fx ϕ (arrOf st1) (lo + k) < fx ϕ (arrOf st1) i))
    ⟨rfl, g1, 0, k, rfl, by omega, by omega, by omega, fun i a1 a2 => by omega, fun i a1 a2 => by omega⟩ ?_ ?_) ?_)
  ·rintro x c st2 s2 hx ⟨rfl, g2, l, r, rfl, b1, b2, b3, b4, b5⟩
   dsimp only
   by_cases hge : l ≥ r
   ·rw [if_pos hge]
    have : l = r := by omega
    subst this
    exact kasC_pure ⟨rfl, g2, l, l, rfl, b2, b4, b5⟩
   ·rw [if_neg hge]
    refine kasC_bind (Zde R (K1.kind.trans hk) (ha.perm K1.perm) (by omega) (by omega) g2 fun s3 g3 => ?_)
    dsimp only
    by_cases c : fx ϕ (arrOf st2) (lo + k) < fx ϕ (arrOf st2) (lo + (l + r) / 2)
    ·rw [if_pos (by simpa using c)]
     refine kasC_pure ⟨rfl, g3, l, (l + r) / 2, rfl, by omega, by omega, by omega, b4, fun i a1 a2 => ?_⟩
     exact Nat.lt_of_lt_of_le c (u1 _ _ (by omega) a1 a2)
    ·rw [if_neg (by simpa using c)]
     refine kasC_pure ⟨rfl, g3, (l + r) / 2 + 1, r, rfl, by omega, by omega, by omega, fun i a1 a2 => ?_, b5⟩
     exact Nat.le_trans (u1 i (lo + (l + r) / 2) a1 (by omega) (by omega)) (Nat.not_lt.mp c)
  ·rintro c st2 s2 ⟨rfl, g2, l, r, rfl, b1, b2, b3, b4, b5⟩
   have : l = r := by omega
   subst this
   exact ⟨rfl, g2, l, l, rfl, b2, b4, b5⟩
  ·rintro c st2 s2 ⟨rfl, g2, l, r, rfl, b1, b2, b3⟩
   dsimp only
   rw [moveDown'_eq]
   refine kasC_bind (kasC_modify (kasC_pure ⟨rfl, hkm trivial, K1.bub (by omega) (by omega) (by omega), g2, ?_⟩))
   rw [show min (k + 1) n = k + 1 by omega]
   have hks := hks0
   clear hkn hkm
   intro i j a1 a2 a3
   show fx ϕ (bubble (arrOf st2) (lo + k) (lo + k - (lo + l))) i ≤ fx ϕ (bubble (arrOf st2) (lo + k) (lo + k - (lo + l))) j
   rw [Zbk hks (by omega), Zbk hks (by omega), show lo + k - (lo + k - (lo + l)) = lo + l by omega]
   repeat' split
   all_goals first
    | (exfalso; omega)
    | exact Nat.le_refl _
    | exact b2 _ (by omega) (by omega)
    | exact Nat.le_of_lt (b3 _ (by omega) (by omega))
    | exact u1 _ _ (by omega) (by omega) (by omega)
 ·rintro c st1 s1 ⟨rfl, hk1, K1, g1, u1⟩
  refine ⟨rfl, K1, g1, ?_⟩
  rwa [show min (max (max ok 1) n) n = n by omega] at u1
 ·rintro c st1 s1 ⟨rfl, K1, g1, u1⟩
  exact kasC_pure (h st1 s1 K1 u1 g1)
end
end Tim
namespace Tim
open PySem PySem.W PyProof.Rows
section
variable {ϕ : Keyed → Nat}
theorem Zg9 {a : Array Keyed} {P X S : List Keyed} (e : a.toList = P ++ X ++ S) (u : Up ϕ X) : UpTo ϕ a P.length (P.length + X.length) := by
 have ix : ∀ k (hk : k < X.length), fx ϕ a (P.length + k) = ϕ X[k] := fun k hk => by
  refine Zbl ?_
  rw [← Array.getElem?_toList, e, List.append_assoc, List.getElem?_append_right (by omega), Nat.add_sub_cancel_left, List.getElem?_append_left hk]
  exact List.getElem?_eq_getElem hk
 intro i j a1 a2 a3
 obtain ⟨x, rfl⟩ : ∃ x, i = P.length + x := ⟨i - P.length, by omega⟩
 obtain ⟨y, rfl⟩ : ∃ y, j = P.length + y := ⟨j - P.length, by omega⟩
 rw [ix x (by omega), ix y (by omega)]
 rcases Nat.lt_or_ge x y with c | c
 ·exact List.pairwise_iff_getElem.mp u x y (by omega) (by omega) c
 ·have : x = y := by omega
  subst this
  exact Nat.le_refl _
theorem ZiL {a : Array Keyed} {p n : Nat} (h : UpTo ϕ a p (p + n)) (hn : p + n ≤ a.size) : Up ϕ ((a.toList.drop p).take n) := by
 refine List.pairwise_iff_getElem.mpr fun i j hi hj hij => ?_
 have hl : ((a.toList.drop p).take n).length = n := by rw [List.length_take, List.length_drop, Array.length_toList]; omega
 have ix : ∀ k (hk : k < ((a.toList.drop p).take n).length), fx ϕ a (p + k) = ϕ ((a.toList.drop p).take n)[k] := fun k hk => by
  have hk2 : p + k < a.size := by omega
  refine Zbl ?_
  rw [Array.getElem?_eq_getElem hk2]
  simp
 rw [← ix i hi, ← ix j hj]
 exact h _ _ (by omega) (by omega) (by omega)
def Runs (ϕ : Keyed → Nat) (a : Array Keyed) : List (Nat × Nat × Nat) → Nat → Nat → Prop
 | [], p, q => p = q
 | x :: l, p, q => x.1 = p ∧ 1 ≤ x.2.1 ∧ UpTo ϕ a p (p + x.2.1) ∧ Runs ϕ a l (p + x.2.1) q
theorem Runs.le {a : Array Keyed} : ∀ {l : List (Nat × Nat × Nat)} {p q : Nat}, Runs ϕ a l p q → p + l.length ≤ q
 | [], p, q, h => by
  have : p = q := h
  simp [this]
 | x :: l, p, q, h => by
  have := Runs.le h.2.2.2
  have := h.2.1
  simp only [List.length_cons]
  omega
theorem Runs.congr {a b : Array Keyed} : ∀ {l : List (Nat × Nat × Nat)} {p q : Nat}, Runs ϕ a l p q → (∀ i, p ≤ i → i < q → fx ϕ b i = fx ϕ a i) → Runs ϕ b l p q
 | [], _, _, h, _ => h
 | x :: l, p, q, h, e => by
  have hle := Runs.le h.2.2.2
  refine ⟨h.1, h.2.1, fun i j a1 a2 a3 => ?_, h.2.2.2.congr fun i a1 a2 => e i (by omega) a2⟩
  rw [e i (by omega) (by omega), e j (by omega) (by omega)]
  exact h.2.2.1 i j a1 a2 a3
theorem Runs.app {a : Array Keyed} : ∀ {l m : List (Nat × Nat × Nat)} {p q : Nat}, Runs ϕ a (l ++ m) p q → ∃ r, Runs ϕ a l p r ∧ Runs ϕ a m r q
 | [], m, p, q, h => ⟨p, rfl, h⟩
 | x :: l, m, p, q, h => by
  obtain ⟨r, h1, h2⟩ := Runs.app h.2.2.2
  exact ⟨r, ⟨h.1, h.2.1, h.2.2.1, h1⟩, h2⟩
theorem Runs.join {a : Array Keyed} : ∀ {l m : List (Nat × Nat × Nat)} {p q r : Nat}, Runs ϕ a l p r → Runs ϕ a m r q → Runs ϕ a (l ++ m) p q
 | [], m, p, q, r, h, k => by
  have : p = r := h
  subst this
  exact k
 | x :: l, m, p, q, r, h, k => ⟨h.1, h.2.1, h.2.2.1, Runs.join h.2.2.2 k⟩
theorem Runs.mod {a : Array Keyed} {f : Nat × Nat × Nat → Nat × Nat × Nat} (hf : ∀ x, (f x).1 = x.1 ∧ (f x).2.1 = x.2.1) : ∀ {l : List (Nat × Nat × Nat)} {p q : Nat} (k : Nat), Runs ϕ a l p q → Runs ϕ a (l.modify k f) p q
 | [], p, q, k, h => by rw [List.modify_nil]; exact h
 | x :: l, p, q, 0, h => by
  rw [List.modify_zero_cons]
  refine ⟨(hf x).1.trans h.1, by rw [(hf x).2]; exact h.2.1, by rw [(hf x).2]; exact h.2.2.1, by rw [(hf x).2]; exact h.2.2.2⟩
 | x :: l, p, q, k + 1, h => by
  rw [List.modify_succ_cons]
  exact ⟨h.1, h.2.1, h.2.2.1, Runs.mod hf k h.2.2.2⟩
end
theorem Zcs : ∀ (r : List Keyed) (a : Array Keyed) (p k : Nat), p + k + r.length ≤ a.size → ((r.zipIdx k).foldl (fun a (x : Keyed × Nat) => a.setIfInBounds (p + x.2) x.1) a).toList = a.toList.take (p + k) ++ r ++ a.toList.drop (p + k + r.length)
 | [], a, p, k, h => by simp
 | x :: r, a, p, k, h => by
  rw [List.zipIdx_cons, List.foldl_cons]
  simp only [List.length_cons] at h
  rw [Zcs r _ p (k + 1) (by rw [Array.size_setIfInBounds]; omega)]
  have hk : p + k < a.toList.length := by rw [Array.length_toList]; omega
  rw [Array.toList_setIfInBounds, List.set_eq_take_append_cons_drop, if_pos hk]
  have e1 : (a.toList.take (p + k)).length = p + k := by rw [List.length_take]; omega
  have e2 : (a.toList.take (p + k) ++ x :: a.toList.drop (p + k + 1)).take (p + (k + 1)) = a.toList.take (p + k) ++ [x] := by
   rw [List.take_append, e1, show p + (k + 1) - (p + k) = 1 by omega, List.take_of_length_le (by omega)]
   rfl
  have e3 : (a.toList.take (p + k) ++ x :: a.toList.drop (p + k + 1)).drop (p + (k + 1) + r.length) = a.toList.drop (p + k + (x :: r).length) := by
   rw [List.drop_append, e1, List.drop_of_length_le (by omega), List.nil_append, show p + (k + 1) + r.length - (p + k) = r.length + 1 by omega, List.drop_succ_cons, List.drop_drop]
   congr 1
   simp only [List.length_cons]
   omega
  rw [e2, e3]
  simp
theorem ZfZ (i : Nat) : mergeAt' i = (do
 let z ← get
 let (some (sa, na, pw), some (sb, nb, _)) := ((pendingOf z)[i]?, (pendingOf z)[i + 1]?) | unsupported "internal:list.sort.pending"
 set (setPending z (((pendingOf z).setIfInBounds i (sa, na + nb, pw)).eraseIdxIfInBounds (i + 1)))
 let some k ← ZaG false (← elem' (arrOf z) sb) (arrOf z) sa na 0 | return false
 let (sc, nc) := (sa + k, na - k)
 if nc == 0 then return true
 let some nd ← ZaG true (← elem' (arrOf z) (sc + nc - 1)) (arrOf z) sb nb (nb - 1) | return false
 if nd == 0 then return true
 let x := (arrOf z).extract sc sb
 let y := (arrOf z).extract sb (sb + nd)
 let r ← if nc ≤ nd then ZhI x y else ZhJ x y
 modify fun z => setArr z (r.toList.zipIdx.foldl (fun a (p, j) => a.setIfInBounds (sc + j) p) (arrOf z))
 return (failedOf (← get)).isNone) := rfl
section
variable {prog : Program} {w : World} {A : Around} {E : Value → Shared → Prop} {κ : SortKind} {ϕ : Keyed → Nat} {U : Keyed → Prop} {G : Shared → Prop}
theorem Zf5 {σ : Type} {M : Model} {t : σ} {Q : PUnit → σ → Shared → Prop} {st : σ} {s : Shared} (h : Q ⟨⟩ t s) : kasC M A E (set t : StateT σ Sem PUnit) Q st s := by
 unfold kasC; rw [StateT.run_set]; exact wpAny_pure h
structure Jn (κ : SortKind) (ϕ : Keyed → Nat) (a₀ : Array Keyed) (q : Nat) (l : List (Nat × Nat × Nat)) (st : SortSt) : Prop where
 kind : kindOf st = κ
 fail : failedOf st = none
 perm : (arrOf st).Perm a₀
 pend : (pendingOf st).toList = l
 runs : Runs ϕ (arrOf st) l 0 q
theorem Xy {l : List Keyed} {p n N : Nat} (hl : l.length = N) (h : p + n ≤ N) : ((l.drop p).take n).length = n := by
 rw [List.length_take, List.length_drop, hl]
 omega
theorem ZeI (R : XX prog w A κ ϕ U G) {a₀ : Array Keyed} {q i : Nat} {l : List (Nat × Nat × Nat)} {Q : Bool → SortSt → Shared → Prop} {st : SortSt} {s : Shared} (ha : Al U a₀) (J : Jn κ ϕ a₀ q l st) (hq : q ≤ a₀.size) (hi : i + 1 < l.length) (g : G s)
  (h : ∀ l' st' s', l'.length + 1 = l.length → Jn κ ϕ a₀ q l' st' → (∀ k, q ≤ k → fx ϕ (arrOf st') k = fx ϕ (arrOf st) k) → G s' → Q true st' s') : kasC (model prog w) A E (mergeAt' i) Q st s := by
 obtain ⟨l1, x, y, l2, e, e1⟩ : ∃ l1 x y l2, l = l1 ++ x :: y :: l2 ∧ l1.length = i :=
  ⟨l.take i, l[i], l[i + 1], l.drop (i + 2), by
   rw [← List.drop_eq_getElem_cons (by omega), ← List.drop_eq_getElem_cons (by omega), List.take_append_drop], by rw [List.length_take]; omega⟩
 obtain ⟨sa, na, pw⟩ := x
 obtain ⟨sb, nb, pv⟩ := y
 obtain ⟨r, r1, r2⟩ := Runs.app (e ▸ J.runs)
 obtain ⟨z1, z2, z3, z4, z5, z6, z7⟩ := r2
 dsimp only at z1 z2 z3 z4 z5 z6 z7
 subst z1
 subst z4
 have sz : (arrOf st).size = a₀.size := J.perm.size_eq
 have al : Al U (arrOf st) := ha.perm J.perm
 have hle := z7.le
 have p1 : (pendingOf st)[i]? = some (sa, na, pw) := by
  rw [← Array.getElem?_toList, J.pend, e, ← e1, List.getElem?_append_right (Nat.le_refl _), Nat.sub_self]
  rfl
 have p2 : (pendingOf st)[i + 1]? = some (sa + na, nb, pv) := by
  rw [← Array.getElem?_toList, J.pend, e, ← e1, List.getElem?_append_right (by omega), Nat.add_sub_cancel_left]
  rfl
 have p3 : (((pendingOf st).setIfInBounds i (sa, na + nb, pw)).eraseIdxIfInBounds (i + 1)).toList = l1 ++ (sa, na + nb, pw) :: l2 := by
  rw [Array.toList_eraseIdxIfInBounds, Array.toList_setIfInBounds, J.pend, e, ← e1, List.set_append_right _ _ (Nat.le_refl _), Nat.sub_self, List.eraseIdx_append_of_length_le (by omega), Nat.add_sub_cancel_left]
  rfl
 have fin : ∀ (a' : Array Keyed), a'.Perm (arrOf st) → (∀ k, k < sa → fx ϕ a' k = fx ϕ (arrOf st) k) → (∀ k, sa + na + nb ≤ k → fx ϕ a' k = fx ϕ (arrOf st) k) → UpTo ϕ a' sa (sa + (na + nb)) → ∀ (st' : SortSt) (s' : Shared), kindOf st' = κ → failedOf st' = none → arrOf st' = a' → pendingOf st' = ((pendingOf st).setIfInBounds i (sa, na + nb, pw)).eraseIdxIfInBounds (i + 1) → G s' → Q true st' s' := by
  intro a' q1 q2 q3 q4 st' s' q5 q6 q7 q8 g'
  subst q7
  refine h (l1 ++ (sa, na + nb, pw) :: l2) st' s' (by rw [e]; simp only [List.length_append, List.length_cons]; omega) ⟨q5, q6, q1.trans J.perm, by rw [q8, p3], ?_⟩ (fun k hk => q3 k (by omega)) g'
  refine (r1.congr fun k b1 b2 => q2 k b2).join ⟨rfl, by show 1 ≤ na + nb; omega, q4, ?_⟩
  show Runs ϕ (arrOf st') l2 (sa + (na + nb)) q
  rw [← Nat.add_assoc]
  exact z7.congr fun k b1 b2 => q3 k b1
 have hsz : sa + na + nb ≤ a₀.size := by omega
 clear hi e1 hq hle h p3 r1 z7
 rw [ZfZ]
 refine kasC_bind (kasC_get ?_)
 rw [p1, p2]
 dsimp only
 refine kasC_bind (Zf5 ?_)
 obtain ⟨y0, hy0, hdy0⟩ := at_ (show sa + na < (arrOf st).size by omega)
 have kd : kindOf (setPending st (((pendingOf st).setIfInBounds i (sa, na + nb, pw)).eraseIdxIfInBounds (i + 1))) = κ := J.kind
 generalize hst : setPending st (((pendingOf st).setIfInBounds i (sa, na + nb, pw)).eraseIdxIfInBounds (i + 1)) = st1 at *
 have ar1 : arrOf st1 = arrOf st := by rw [← hst]
 have pe1 : pendingOf st1 = ((pendingOf st).setIfInBounds i (sa, na + nb, pw)).eraseIdxIfInBounds (i + 1) := by rw [← hst]
 have fa1 : failedOf st1 = none := by rw [← hst]; exact J.fail
 have seg : ∀ p n, UpTo ϕ (arrOf st) p (p + n) → p + n ≤ a₀.size → Up ϕ (((arrOf st).toList.drop p).take n) := fun p n u hn => ZiL u (by omega)
 have sB := seg _ _ z6 (by omega)
 have sA := seg _ _ z3 (by omega)
 have cutL : ∀ p n m, ((arrOf st).toList.drop p).take (n + m) = ((arrOf st).toList.drop p).take n ++ ((arrOf st).toList.drop (p + n)).take m := fun p n m => by
  rw [List.take_add, List.drop_drop]
 have lenL : True → (arrOf st).toList.length = a₀.size := fun _ => by rw [Array.length_toList, sz]
 refine kasC_bind (ZG hy0 (kasC_bind (JS R kd (al _ _ hy0) al (by omega) (by omega) z3 g fun k s1 hk1 l1' l2' g1 => ?_)))
 dsimp only
 have upB : ∀ v ∈ ((arrOf st).toList.drop (sa + na)).take nb, ϕ y0 ≤ ϕ v := by
  obtain ⟨nb', rfl⟩ : ∃ m, nb = m + 1 := ⟨nb - 1, by omega⟩
  rw [hdy0, List.take_succ_cons] at sB ⊢
  exact X0 sB
 by_cases c1 : na - k = 0
 ·rw [if_pos (by simpa using c1)]
  have k0 : k = na := by omega
  subst k0
  refine kasC_pure (fin (arrOf st) (Array.Perm.refl _) (fun _ _ => rfl) (fun _ _ => rfl) ?_ st1 s1 kd fa1 ar1 pe1 g1)
  have u : Up ϕ (((arrOf st).toList.drop sa).take (k + nb)) := by
   rw [cutL]
   exact List.pairwise_append.mpr ⟨sA, sB, fun u hu v hv => Nat.le_trans (l1' u hu) (upB v hv)⟩
  have := Zg9 (ϕ := ϕ) (a := arrOf st) (P := (arrOf st).toList.take sa) (S := (arrOf st).toList.drop (sa + (k + nb))) (by rw [List.append_assoc, ← List.drop_drop, List.take_append_drop, List.take_append_drop]) u
  rw [List.length_take, lenL trivial, Nat.min_eq_left (by omega), Xy (lenL trivial) (by omega)] at this
  exact this
 rw [if_neg (by simpa using c1)]
 replace c1 : k < na := by omega
 rw [show sa + k + (na - k) - 1 = sa + na - 1 by omega]
 obtain ⟨xl, hxl, hdxl⟩ := atL (show sa + na - 1 < (arrOf st).size by omega)
 have upA : ∀ v ∈ ((arrOf st).toList.drop sa).take na, ϕ v ≤ ϕ xl := by
  have : ((arrOf st).toList.drop sa).take na = ((arrOf st).toList.drop sa).take (na - 1) ++ [xl] := by
   have e9 : ∃ m, na = m + 1 := ⟨na - 1, by omega⟩
   obtain ⟨m, rfl⟩ := e9
   rw [cutL, Nat.add_sub_cancel]
   congr 1
   obtain ⟨x9, hx9, hd9⟩ := at_ (show sa + m < (arrOf st).size by omega)
   rw [hd9]
   have : x9 = xl := by
    rw [show sa + (m + 1) - 1 = sa + m by omega, hx9] at hxl
    exact Option.some.inj hxl
   rw [this]
   rfl
  rw [this] at sA ⊢
  exact XZ sA
 refine kasC_bind (ZG hxl (kasC_bind (JS R kd (al _ _ hxl) al (by omega) (by omega) z6 g1 fun nd s2 hnd m1 m2 g2 => ?_)))
 dsimp only
 by_cases c2 : nd = 0
 ·rw [if_pos (by simpa using c2)]
  subst c2
  refine kasC_pure (fin (arrOf st) (Array.Perm.refl _) (fun _ _ => rfl) (fun _ _ => rfl) ?_ st1 s2 kd fa1 ar1 pe1 g2)
  have u : Up ϕ (((arrOf st).toList.drop sa).take (na + nb)) := by
   rw [cutL]
   exact List.pairwise_append.mpr ⟨sA, sB, fun u hu v hv => Nat.le_trans (upA u hu) (m2 v (by simpa using hv))⟩
  have := Zg9 (ϕ := ϕ) (a := arrOf st) (P := (arrOf st).toList.take sa) (S := (arrOf st).toList.drop (sa + (na + nb))) (by rw [List.append_assoc, ← List.drop_drop, List.take_append_drop, List.take_append_drop]) u
  rw [List.length_take, lenL trivial, Nat.min_eq_left (by omega), Xy (lenL trivial) (by omega)] at this
  exact this
 rw [if_neg (by simpa using c2)]
 replace c2 : 0 < nd := by omega
 have ex1 : ((arrOf st).extract (sa + k) (sa + na)).toList = ((arrOf st).toList.drop (sa + k)).take (na - k) := by
  rw [← Ze0, show sa + k + (na - k) = sa + na by omega]
 have ex2 : ((arrOf st).extract (sa + na) (sa + na + nd)).toList = ((arrOf st).toList.drop (sa + na)).take nd := Ze0 _ _ _
 have sz1 : True → ((arrOf st).extract (sa + k) (sa + na)).size = na - k := fun _ => by rw [Array.size_extract]; omega
 have sz2 : True → ((arrOf st).extract (sa + na) (sa + na + nd)).size = nd := fun _ => by rw [Array.size_extract]; omega
 have al' : ∀ p q', Al U ((arrOf st).extract p q') := fun p q' i x hx => by
  rw [Array.getElem?_extract] at hx
  split at hx
  ·exact al _ _ hx
  ·cases hx
 have u1 : Up ϕ ((arrOf st).extract (sa + k) (sa + na)).toList := by
  rw [ex1]
  exact seg _ _ (z3.sub (by omega) (by omega)) (by omega)
 have u2 : Up ϕ ((arrOf st).extract (sa + na) (sa + na + nd)).toList := by
  rw [ex2]
  exact seg _ _ (z6.sub (by omega) (by omega)) (by omega)
 have q0 : ∀ y, ((arrOf st).extract (sa + na) (sa + na + nd))[0]? = some y → ∀ x ∈ ((arrOf st).extract (sa + k) (sa + na)).toList, ϕ y ≤ ϕ x := fun y hy x hx => by
  rw [Array.getElem?_extract, if_pos (by omega), Nat.add_zero, hy0] at hy
  rw [← Option.some.inj hy]
  rw [ex1] at hx
  exact l2' x hx
 have q1 : ∀ x, ((arrOf st).extract (sa + k) (sa + na))[((arrOf st).extract (sa + k) (sa + na)).size - 1]? = some x → ∀ y ∈ ((arrOf st).extract (sa + na) (sa + na + nd)).toList, ϕ y ≤ ϕ x := fun x hx y hy => by
  rw [sz1 trivial, Array.getElem?_extract, if_pos (by omega), show sa + k + (na - k - 1) = sa + na - 1 by omega, hxl] at hx
  rw [← Option.some.inj hx]
  rw [ex2] at hy
  exact m1 y hy
 have last : ∀ (r : Array Keyed) (st' : SortSt) (s' : Shared), Sim st1 st' → G s' → Ok ϕ ((arrOf st).extract (sa + k) (sa + na)) ((arrOf st).extract (sa + na) (sa + na + nd)) r → kasC (model prog w) A E (do
   modify fun z => setArr z (r.toList.zipIdx.foldl (fun a (p, j) => a.setIfInBounds (sa + k + j) p) (arrOf z))
   return (failedOf (← get)).isNone) Q st' s' := by
  intro r st' s' S' g' O
  refine kasC_bind (kasC_modify (kasC_bind (kasC_get (kasC_pure ?_))))
  have fz : failedOf st' = none := S'.2.2.2.trans fa1
  show Q (failedOf st').isNone _ _
  rw [fz]
  have az : arrOf st' = arrOf st := S'.2.1.trans ar1
  obtain ⟨O1, O2⟩ := O
  have lr : True → r.toList.length = na - k + nd := fun _ => by
   rw [O2.length_eq, List.length_append, Array.length_toList, Array.length_toList, sz1 trivial, sz2 trivial]
  have pu := Zcs r.toList (arrOf st) (sa + k) 0 (by rw [lr trivial]; omega)
  rw [Nat.add_zero, lr trivial, show sa + k + (na - k + nd) = sa + na + nd by omega] at pu
  have lr' : k + r.toList.length = na + nd := by rw [lr trivial]; omega
  rw [ex1, ex2] at O2
  obtain ⟨P, hP⟩ : ∃ z, (arrOf st).toList.take sa = z := ⟨_, rfl⟩
  obtain ⟨A1, hA1⟩ : ∃ z, ((arrOf st).toList.drop sa).take k = z := ⟨_, rfl⟩
  rw [hA1] at l1'
  obtain ⟨A2, hA2⟩ : ∃ z, ((arrOf st).toList.drop (sa + k)).take (na - k) = z := ⟨_, rfl⟩
  rw [hA2] at O2
  obtain ⟨B1, hB1⟩ : ∃ z, ((arrOf st).toList.drop (sa + na)).take nd = z := ⟨_, rfl⟩
  rw [hB1] at O2
  obtain ⟨B2, hB2⟩ : ∃ z, ((arrOf st).toList.drop (sa + na + nd)).take (nb - nd) = z := ⟨_, rfl⟩
  rw [hB2] at m2
  obtain ⟨S, hS⟩ : ∃ z, (arrOf st).toList.drop (sa + na + nb) = z := ⟨_, rfl⟩
  have hA : ((arrOf st).toList.drop sa).take na = A1 ++ A2 := by rw [← hA1, ← hA2, ← cutL, show k + (na - k) = na by omega]
  have hB : ((arrOf st).toList.drop (sa + na)).take nb = B1 ++ B2 := by rw [← hB1, ← hB2, ← cutL, show nd + (nb - nd) = nb by omega]
  have hD : (arrOf st).toList.drop (sa + na + nd) = B2 ++ S := by
   rw [← hB2, ← hS, show sa + na + nb = sa + na + nd + (nb - nd) by omega]
   exact XV _ _ _
  have hT : (arrOf st).toList.take (sa + k) = P ++ A1 := by rw [← hP, ← hA1, List.take_add]
  have hL : (arrOf st).toList = P ++ ((A1 ++ A2) ++ (B1 ++ B2)) ++ S := by
   rw [← hA, ← hB, ← hP, ← hS, ← cutL, List.append_assoc, Nat.add_assoc, ← XV, List.take_append_drop]
  rw [hT, hD] at pu
  have pL : P.length = sa := by rw [← hP, List.length_take, lenL trivial]; omega
  have pA1 : A1.length = k := by rw [← hA1, Xy (lenL trivial) (by omega)]
  have pA2 : k + A2.length = na := by rw [← hA2, Xy (lenL trivial) (by omega)]; omega
  have pB1 : B1.length = nd := by rw [← hB1, Xy (lenL trivial) (by omega)]
  have pB2 : nd + B2.length = nb := by rw [← hB2, Xy (lenL trivial) (by omega)]; omega
  refine fin (r.toList.zipIdx.foldl (fun a (x : Keyed × Nat) => a.setIfInBounds (sa + k + x.2) x.1) (arrOf st)) ?_ ?_ ?_ ?_ _ _ (S'.1.trans kd) fz (by rw [← az]) (S'.2.2.1.trans pe1) g'
  ·refine Array.perm_iff_toList_perm.mpr ?_
   have e9 : (r.toList ++ (B2 ++ S)).Perm (A2 ++ B1 ++ (B2 ++ S)) := O2.append_right _
   rw [pu, hL]
   have f1 : P ++ A1 ++ r.toList ++ (B2 ++ S) = P ++ (A1 ++ (r.toList ++ (B2 ++ S))) := by simp only [List.append_assoc]
   have f2 : P ++ (A1 ++ A2 ++ (B1 ++ B2)) ++ S = P ++ (A1 ++ (A2 ++ B1 ++ (B2 ++ S))) := by simp only [List.append_assoc]
   rw [f1, f2]
   exact (e9.append_left A1).append_left P
  ·intro j hj
   refine Yr ?_
   rw [← Array.getElem?_toList, ← Array.getElem?_toList, pu, hL]
   simp only [List.append_assoc]
   rw [List.getElem?_append_left (by omega), List.getElem?_append_left (by omega)]
  ·intro j hj
   refine Yr ?_
   rw [← Array.getElem?_toList, ← Array.getElem?_toList, pu, hL]
   have e1 : P ++ A1 ++ r.toList ++ (B2 ++ S) = (P ++ A1 ++ r.toList ++ B2) ++ S := by simp only [List.append_assoc]
   rw [e1, List.getElem?_append_right (by simp only [List.length_append]; omega), List.getElem?_append_right (by simp only [List.length_append]; omega)]
   congr 1
   simp only [List.length_append]
   omega
  ·have uu : Up ϕ (A1 ++ r.toList ++ B2) := by
    rw [hA] at sA
    rw [hB] at sB
    obtain ⟨t1, t2, t3⟩ := List.pairwise_append.mp sA
    obtain ⟨t4, t5, t6⟩ := List.pairwise_append.mp sB
    have m2' : ∀ u ∈ B2, ϕ xl ≤ ϕ u := m2
    rw [hA] at upA
    rw [hB] at upB
    have mm : ∀ u ∈ r.toList, u ∈ A2 ∨ u ∈ B1 := fun u hu => List.mem_append.mp (O2.mem_iff.mp hu)
    refine List.pairwise_append.mpr ⟨List.pairwise_append.mpr ⟨t1, O1, fun u hu v hv => ?_⟩, t5, fun u hu v hv => ?_⟩
    ·rcases mm v hv with z | z
     ·exact t3 u hu v z
     ·exact Nat.le_trans (l1' u hu) (upB v (List.mem_append_left _ z))
    ·rcases List.mem_append.mp hu with z | z
     ·exact Nat.le_trans (upA u (List.mem_append_left _ z)) (m2' v hv)
     ·rcases mm u z with z' | z'
      ·exact Nat.le_trans (upA u (List.mem_append_right _ z')) (m2' v hv)
      ·exact t6 u z' v hv
   have := Zg9 (ϕ := ϕ) (P := P) (S := S) (a := r.toList.zipIdx.foldl (fun a (x : Keyed × Nat) => a.setIfInBounds (sa + k + x.2) x.1) (arrOf st)) (by rw [pu]; simp only [List.append_assoc]) uu
   rw [pL, show (A1 ++ r.toList ++ B2).length = na + nb by simp only [List.length_append]; omega] at this
   exact this
 by_cases c3 : na - k ≤ nd
 ·rw [if_pos c3]
  exact kasC_bind (Zj1 R kd (al' _ _) (al' _ _) u1 u2 (by rw [sz1 trivial]; omega) (by rw [sz2 trivial]; omega) q0 q1 g2 last)
 ·rw [if_neg c3]
  exact kasC_bind (Zj2 R kd (al' _ _) (al' _ _) u1 u2 (by rw [sz1 trivial]; omega) (by rw [sz2 trivial]; omega) q0 q1 g2 last)
end
end Tim
namespace Tim
open PySem PySem.W PyProof.Rows
section
variable {prog : Program} {w : World} {A : Around} {E : Value → Shared → Prop} {κ : SortKind} {ϕ : Keyed → Nat} {U : Keyed → Prop} {G : Shared → Prop}
theorem Jn.kp {a₀ : Array Keyed} {q : Nat} {l : List (Nat × Nat × Nat)} {st st' : SortSt} (J : Jn κ ϕ a₀ q l st) (K : Kp q st st') : Jn κ ϕ a₀ q l st' :=
 ⟨K.kind.trans J.kind, K.fail.trans J.fail, K.perm.trans J.perm, by rw [K.pend]; exact J.pend, J.runs.congr fun i _ h => Yr (K.low i h)⟩
theorem Jn.mod {a₀ : Array Keyed} {q k : Nat} {l : List (Nat × Nat × Nat)} {st : SortSt} {f : Nat × Nat × Nat → Nat × Nat × Nat} (J : Jn κ ϕ a₀ q l st) (hf : ∀ x, (f x).1 = x.1 ∧ (f x).2.1 = x.2.1) : Jn κ ϕ a₀ q (l.modify k f) (setPending st ((pendingOf st).modify k f)) :=
 ⟨J.kind, J.fail, J.perm, by show ((pendingOf st).modify _ _).toList = _; rw [Array.toList_modify, J.pend], Runs.mod hf _ J.runs⟩
theorem Zj3 (c : Prop) [Decidable c] (n : Nat) : (if c then n - 1 else n) ≤ n := by split <;> omega
theorem ZhQ {α β : Type} {code : β → StateT SortSt Sem α} {T : StateT SortSt Sem α} {Q : α → SortSt → Shared → Prop} {st : SortSt} {s : Shared} (P : β → SortSt → Shared → Prop)
  (main : (∀ x st s, P x st s → kasC (model prog w) A E (code x) Q st s) → kasC (model prog w) A E T Q st s) (tail : ∀ x st s, P x st s → kasC (model prog w) A E (code x) Q st s) : kasC (model prog w) A E T Q st s := main tail
theorem ZhR (R : XX prog w A κ ϕ U G) {a₀ : Array Keyed} {Q : Unit → SortSt → Shared → Prop} {st : SortSt} {s : Shared} (ha : Al U a₀) (hk : kindOf st = κ) (hf : failedOf st = none) (hp : pendingOf st = #[]) (har : arrOf st = a₀) (h2 : 1 ≤ a₀.size) (g : G s)
  (h : ∀ st' s', failedOf st' = none → (arrOf st').Perm a₀ → Up ϕ (arrOf st').toList → G s' → Q () st' s') : kasC (model prog w) A E sortRuns' Q st s := by
 rw [sortRuns'_eq]
 refine kasC_bind (kasC_get ?_)
 rw [har]
 dsimp only
 have J0 : Jn κ ϕ a₀ 0 [] st := ⟨hk, hf, by rw [har], by rw [hp], rfl⟩
 refine kasC_bind (Z1 (Q := fun c st' s' => ∃ l, c = (none, a₀.size) ∧ Jn κ ϕ a₀ a₀.size l st' ∧ G s') (Yb (fun t c st' s' => ∃ lo l, c = (none, lo) ∧ t ≤ lo ∧ lo ≤ a₀.size ∧ Jn κ ϕ a₀ lo l st' ∧ G s')
  ⟨0, [], rfl, by omega, by omega, J0, g⟩ ?_ ?_) ?_)
 ·rintro t c st1 s1 ht ⟨lo, l, rfl, b1, b2, J1, g1⟩
  dsimp only
  by_cases c1 : lo ≥ a₀.size
  ·rw [if_pos c1]
   have : lo = a₀.size := by omega
   subst this
   exact kasC_pure ⟨l, rfl, J1, g1⟩
  rw [if_neg c1]
  have sz : (arrOf st1).size = a₀.size := J1.perm.size_eq
  refine kasC_bind (Zf4 R J1.kind (ha.perm J1.perm) (by omega) (by omega) g1 fun n st2 s2 n1 n2 K2 u2 g2 => ?_)
  dsimp only
  apply ZhQ (P := fun n3 st3 s3 => (1 ≤ n3 ∧ lo + n3 ≤ a₀.size) ∧ Kp lo st1 st3 ∧ UpTo ϕ (arrOf st3) lo (lo + n3) ∧ G s3)
  ·intro tail
   by_cases cn : n < minRun' a₀.size a₀.size 0
   rotate_left
   ·rw [if_neg cn]
    have hP : (fun n3 st3 s3 => (1 ≤ n3 ∧ lo + n3 ≤ a₀.size) ∧ Kp lo st1 st3 ∧ UpTo ϕ (arrOf st3) lo (lo + n3) ∧ G s3) n st2 s2 := ⟨by omega, K2, u2, g2⟩
    revert hP
    generalize n = n'
    exact fun hP => tail n' st2 s2 hP
   ·rw [if_pos cn]
    refine kasC_bind (XC ?_)
    refine kasC_bind (Zjb R J1.kind (ha.perm J1.perm) (by omega) (by omega) K2 u2 g2 fun st3 s3 K3 u3 g3 => ?_)
    rw [if_neg (by decide)]
    exact tail _ st3 s3 ⟨by omega, K3, u3, g3⟩
  clear n1 n2 K2 u2 g2
  rintro n3 st3 s3 ⟨hn3, K3, u3, g3⟩
  refine kasC_bind (kasC_get ?_)
  have J3 := J1.kp K3
  have done : ∀ (l' : List (Nat × Nat × Nat)) (st4 : SortSt) (s4 : Shared), Jn κ ϕ a₀ lo l' st4 → UpTo ϕ (arrOf st4) lo (lo + n3) → G s4 → ∃ lo' l, ((none : Option Unit), lo + n3) = (none, lo') ∧ t + 1 ≤ lo' ∧ lo' ≤ a₀.size ∧ Jn κ ϕ a₀ lo' l (setPending st4 ((pendingOf st4).push (lo, n3, 0))) ∧ G s4 := fun l' st4 s4 J4 u4 g4 =>
   ⟨lo + n3, l' ++ [(lo, n3, 0)], rfl, by omega, by omega, ⟨J4.kind, J4.fail, J4.perm, by show ((pendingOf st4).push (lo, n3, 0)).toList = _; rw [Array.toList_push, J4.pend], J4.runs.join ⟨rfl, hn3.1, u4, rfl⟩⟩, g4⟩
  split
  ·refine kasC_bind (Z1 (Q := fun c st' s' => c = (none, ()) ∧ ∃ l', Jn κ ϕ a₀ lo l' st' ∧ UpTo ϕ (arrOf st') lo (lo + n3) ∧ G s') (Yb (fun _ c st' s' => c = (none, ()) ∧ ∃ l', Jn κ ϕ a₀ lo l' st' ∧ UpTo ϕ (arrOf st') lo (lo + n3) ∧ G s') ⟨rfl, l, J3, u3, g3⟩ ?_ ?_) ?_)
   ·rintro _ c st4 s4 _ ⟨rfl, l', J4, u4, g4⟩
    refine kasC_bind (kasC_get ?_)
    split
    ·rename_i hh
     by_cases cp : (pendingOf st4).size > 1
     ·split
      ·exact kasC_pure ⟨rfl, l', J4, u4, g4⟩
      ·refine kasC_bind (ZeI R ha J4 b2 (by rw [← J4.pend, Array.length_toList]; omega) g4 fun l5 st5 s5 hl5 J5 e5 g5 => ?_)
       rw [if_neg (by decide)]
       exact kasC_pure ⟨rfl, l5, J5, fun i j a1 a2 a3 => (by rw [e5 i a1, e5 j (by omega)]; exact u4 i j a1 a2 a3), g5⟩
     ·rw [if_neg cp] at hh
      cases hh
    ·exact kasC_pure ⟨rfl, l', J4, u4, g4⟩
   ·rintro c st4 s4 hh
    exact hh
   ·rintro c st4 s4 ⟨rfl, l', J4, u4, g4⟩
    dsimp only
    exact kasC_bind (kasC_modify (kasC_bind (kasC_modify (kasC_pure (done _ _ _ (J4.mod fun x => ⟨rfl, rfl⟩) u4 g4)))))
  ·exact kasC_bind (kasC_modify (kasC_pure (done l _ _ J3 u3 g3)))
 ·rintro c st1 s1 ⟨lo, l, rfl, b1, b2, J1, g1⟩
  have : lo = a₀.size := by omega
  subst this
  exact ⟨l, rfl, J1, g1⟩
 ·rintro c st1 s1 ⟨l, rfl, J1, g1⟩
  dsimp only
  refine kasC_bind (Z1 (Q := fun c st' s' => c = (none, ()) ∧ ∃ l, l.length ≤ 1 ∧ Jn κ ϕ a₀ a₀.size l st' ∧ G s') (Yb (fun t c st' s' => c = (none, ()) ∧ ∃ l, (l.length ≤ 1 ∨ l.length + t ≤ a₀.size) ∧ Jn κ ϕ a₀ a₀.size l st' ∧ G s') ⟨rfl, l, ?_, J1, g1⟩ ?_ ?_) ?_)
  ·have := J1.runs.le
   omega
  ·rintro t c st4 s4 ht ⟨rfl, l', hl', J4, g4⟩
   refine kasC_bind (kasC_get ?_)
   have hsz : (pendingOf st4).size = l'.length := by rw [← J4.pend, Array.length_toList]
   by_cases cp : (pendingOf st4).size ≤ 1
   ·rw [if_pos cp]
    exact kasC_pure ⟨rfl, l', by omega, J4, g4⟩
   ·rw [if_neg cp]
    refine kasC_bind (ZeI R ha J4 (Nat.le_refl _) ?_ g4 fun l5 st5 s5 hl5 J5 e5 g5 => ?_)
    ·exact Nat.lt_of_le_of_lt (Nat.succ_le_succ (Zj3 _ _)) (by omega)
    ·rw [if_neg (by decide)]
     exact kasC_pure ⟨rfl, l5, by omega, J5, g5⟩
  ·rintro c st4 s4 ⟨rfl, l', hl', J4, g4⟩
   have := J4.runs.le
   exact ⟨rfl, l', by omega, J4, g4⟩
  ·rintro c st4 s4 ⟨rfl, l', hl', J4, g4⟩
   refine kasC_pure (h st4 s4 J4.fail J4.perm ?_ g4)
   have r4 := J4.runs
   have sz : (arrOf st4).size = a₀.size := J4.perm.size_eq
   match l', hl', r4 with
   | [], _, r4 =>
    have : 0 = a₀.size := r4
    omega
   | [x], _, r4 =>
    obtain ⟨q1, q2, q3, q4⟩ := r4
    have q4 : 0 + x.2.1 = a₀.size := q4
    have := ZiL (ϕ := ϕ) (a := arrOf st4) (p := 0) (n := x.2.1) q3 (by omega)
    rw [List.drop_zero, List.take_of_length_le (by rw [Array.length_toList]; omega)] at this
    exact this
   | x :: y :: l', hl', _ => simp at hl'
end
end Tim
namespace Tim
open PySem PySem.W PyProof.Rows
structure WO (n : Nat) (lt : Nat → Nat → Bool) : Prop where
 irr : ∀ i, i < n → lt i i = false
 tr : ∀ i j k, i < n → j < n → k < n → lt i j = true → lt j k = true → lt i k = true
 ntr : ∀ i j k, i < n → j < n → k < n → lt k j = true → lt k i = true ∨ lt i j = true
def rk (n : Nat) (lt : Nat → Nat → Bool) (i : Nat) : Nat := ((List.range n).filter fun k => lt k i).length
theorem YD {α : Type} {p q : α → Bool} : ∀ (l : List α), (∀ x ∈ l, p x = true → q x = true) → (l.filter p).length ≤ (l.filter q).length
 | [], _ => Nat.le_refl _
 | x :: l, h => by
  have ih := YD l fun y hy => h y (List.mem_cons_of_mem _ hy)
  rw [List.filter_cons, List.filter_cons]
  by_cases c : p x = true
  ·rw [if_pos c, if_pos (h x (List.mem_cons_self ..) c)]
   simpa using ih
  ·rw [if_neg c]
   split
   ·simp only [List.length_cons]
    omega
   ·exact ih
theorem Xn {α : Type} {p q : α → Bool} : ∀ (l : List α), (∀ x ∈ l, p x = true → q x = true) → (∃ x ∈ l, p x = false ∧ q x = true) → (l.filter p).length < (l.filter q).length
 | [], _, ⟨x, hx, _⟩ => nomatch hx
 | x :: l, h, ⟨y, hy, e1, e2⟩ => by
  have le := YD l fun z hz => h z (List.mem_cons_of_mem _ hz)
  rw [List.filter_cons, List.filter_cons]
  rcases List.mem_cons.mp hy with z | z
  ·subst z
   rw [if_neg (by rw [e1]; decide), if_pos e2]
   simp only [List.length_cons]
   omega
  ·have ih := Xn l (fun z hz => h z (List.mem_cons_of_mem _ hz)) ⟨y, z, e1, e2⟩
   by_cases c : p x = true
   ·rw [if_pos c, if_pos (h x (List.mem_cons_self ..) c)]
    simpa using ih
   ·rw [if_neg c]
    split
    ·simp only [List.length_cons]
     omega
    ·exact ih
theorem WO.rk_lt {n : Nat} {lt : Nat → Nat → Bool} (o : WO n lt) {i j : Nat} (hi : i < n) (hj : j < n) : decide (rk n lt i < rk n lt j) = lt i j := by
 cases c : lt i j with
 | true =>
  refine decide_eq_true (Xn _ (fun k hk h => o.tr k i j (List.mem_range.mp hk) hi hj h c) ⟨i, List.mem_range.mpr hi, o.irr i hi, c⟩)
 | false =>
  refine decide_eq_false (Nat.not_lt.mpr (YD _ fun k hk h => ?_))
  rcases o.ntr i j k hi hj (List.mem_range.mp hk) h with z | z
  ·exact z
  ·rw [c] at z
   cases z
theorem ZfK {α β : Type} {f : α → β} : ∀ {l : List β} {m : List β}, l.Perm m → ∀ q : List α, m = q.map f → ∃ q' : List α, q'.Perm q ∧ l = q'.map f := by
 intro l m h
 induction h with
 | nil =>
  intro q e
  exact ⟨q, List.Perm.refl _, e⟩
 | cons x _ ih =>
  intro q e
  match q, e with
  | y :: q, e =>
   rw [List.map_cons] at e
   injection e with e1 e2
   obtain ⟨q', h1, h2⟩ := ih q e2
   exact ⟨y :: q', h1.cons y, by rw [List.map_cons, h2, e1]⟩
 | swap x y l =>
  intro q e
  match q, e with
  | a :: b :: q, e =>
   simp only [List.map_cons] at e
   injection e with e1 e2
   injection e2 with e2 e3
   exact ⟨b :: a :: q, List.Perm.swap .., by simp only [List.map_cons]; rw [e1, e2, e3]⟩
 | trans _ _ ih1 ih2 =>
  intro q e
  obtain ⟨q2, h1, h2⟩ := ih2 q e
  obtain ⟨q3, h3, h4⟩ := ih1 q2 h2
  exact ⟨q3, h3.trans h1, h4⟩
section
variable {prog : Program} {w : World} {A : Around} {E : Value → Shared → Prop} {s : Shared}
open Classical in
noncomputable def phi (vs : List Value) (lt : Nat → Nat → Bool) (x : Keyed) : Nat := if h : ∃ i, vs[i]? = some x.1 then rk vs.length lt (Classical.choose h) else 0
theorem list_sortW {a : Addr} {vs : List Value} {lt : Nat → Nat → Bool} {κ : SortKind} {n : Nat} {P : PySem.Fin → Shared → Prop} (ho : s.heap.get? a = some (seqObj "list" vs.toArray n)) (hz : vs.length ≤ sizeLine) (o : WO vs.length lt)
  (same : ∀ i j, i < vs.length → vs[i]? = vs[j]? → ∀ k, lt k i = lt k j)
  (kd : ∀ (h6 : Heap) (Q : SortKind → Shared → Prop), (∀ b o, b ≠ a → s.heap.get? b = some o → h6.get? b = some o) → 2 ≤ vs.length → Q κ { s with heap := h6 } → wpAny (model prog w) A (keyKind' vs.toArray) Q E { s with heap := h6 })
  (ask : ∀ (h6 : Heap) (tk i j : Nat) (x y : Value) (C : Bool → Shared → Prop), (∀ b o, b ≠ a → s.heap.get? b = some o → h6.get? b = some o) → vs[i]? = some x → vs[j]? = some y → (∀ tk, C (lt i j) { s with heap := h6, toks := tk }) → wpAny (model prog w) A (keyLt' κ x y) C (fun _ _ => False) { s with heap := h6, toks := tk })
  (h : ∀ (h1 : Heap) (tk c : Nat) (p : Array Nat), Srt.Pm vs.length p → (∀ i j, i < j → j < vs.length → lt (p.getD j 0) (p.getD i 0) = false) → (∀ b o, b ≠ a → s.heap.get? b = some o → h1.get? b = some o) →
   h1.get? a = some (seqObj "list" (p.toList.map fun i => vs.getD i Value.none).toArray c) → P (.done (.ret .none)) { s with heap := h1, toks := tk }) :
  wpAny (model prog w) A (Builtin.«list.sort» ⟨[.ref a], []⟩) P E s := by
 have ha : a < s.heap.objs.size := Heap.lt_size ho
 rw [list_sort_plain]
 refine wpAny_bind (listItems_at ho rfl (wpAny_bind (listUpdate_at ho rfl ?_ (by rw [List.size_toArray]; exact hz) (Nat.zero_le _))))
 obtain ⟨e1, ho1⟩ : ∃ e1, (s.heap.update a (Obj.mapSeq fun _ => (#[] : Array Value))).get? a = some (seqObj "list" #[] e1) := ⟨_, get?_update_seq ho fun _ => #[]⟩
 have k1 : ∀ b o, b ≠ a → s.heap.get? b = some o → (s.heap.update a (Obj.mapSeq fun _ => (#[] : Array Value))).get? b = some o := fun b o hb q => (Heap.get?_update_other _ _ (Ne.symm hb)).trans q
 refine wpAny_bind (seqEpoch_at ho1 rfl (wpAny_bind (wpAny_newTuple ?_ (by show vs.length ≤ _; exact hz))))
 refine wpAny_bind (wpAny_newList ?_ (Nat.zero_le _))
 refine wpAny_holding ?_
 generalize hg : ((s.heap.update a (Obj.mapSeq fun _ => (#[] : Array Value))).push { cls := .type "tuple", data := .seq vs.toArray.toList.toArray }).push { cls := .type "list", data := .seq ([] : List Value).toArray } = h6
 have k6 : ∀ b o, b ≠ a → s.heap.get? b = some o → h6.get? b = some o := fun b o hb q => by
  rw [← hg]
  exact Heap.get?_push_of_some _ (Heap.get?_push_of_some _ (k1 b o hb q))
 have ho6 : h6.get? a = some (seqObj "list" #[] e1) := by
  rw [← hg]
  exact Heap.get?_push_of_some _ (Heap.get?_push_of_some _ ho1)
 show wpAny (model prog w) A _ P E { s with heap := h6 }
 dsimp only
 have fin : ∀ (tk : Nat) (p : Array Nat) (out : Array Value), Srt.Pm vs.length p → (∀ i j, i < j → j < vs.length → lt (p.getD j 0) (p.getD i 0) = false) → out = (p.toList.map fun i => vs.getD i Value.none).toArray →
   ∃ c, (h6.update a (Obj.mapSeq fun _ => out)).get? a = some (seqObj "list" out c) ∧ out.size ≤ sizeLine ∧ P (.done (.ret .none)) { s with heap := h6.update a (Obj.mapSeq fun _ => out), toks := tk } := fun tk p out hp hu ho' => by
  have hc := get?_update_seq ho6 fun _ => out
  refine ⟨_, hc, ?_, h _ tk _ p hp hu (fun b o hb q => (Heap.get?_update_other _ _ (Ne.symm hb)).trans (k6 b o hb q)) (by rw [← ho']; exact hc)⟩
  rw [ho', List.size_toArray, List.length_map, Array.length_toList, hp.size]
  exact hz
 have hr : vs = (List.range vs.length).map fun i => vs.getD i Value.none := by
  apply List.ext_getElem?
  intro i
  simp only [List.getElem?_map]
  by_cases hi : i < vs.length
  ·rw [List.getElem?_eq_getElem hi, List.getElem?_range hi, Option.map_some, List.getD_eq_getElem?_getD, List.getElem?_eq_getElem hi]
   rfl
  ·rw [List.getElem?_eq_none (by omega), List.getElem?_eq_none (by simp; omega)]
   rfl
 by_cases h2 : vs.toArray.size < 2
 ·rw [if_pos h2, if_pos h2]
  rw [List.size_toArray] at h2
  obtain ⟨c, f1, f2, f3⟩ := fin s.toks (List.range vs.length).toArray vs.toArray ⟨by simp, Array.Perm.refl _⟩ (fun a b hab hb => by omega) (congrArg List.toArray hr)
  refine wpAny_bind (wpAny_pure ?_)
  rw [StateT.run_pure]
  refine wpAny_bind (wpAny_pure ?_)
  have eo : (arrOf (SortSt.mk' general' (vs.toArray.zip vs.toArray) #[] 7 none)).map (·.2) = vs.toArray := by
   show (vs.toArray.zip vs.toArray).map (·.2) = vs.toArray
   apply Array.toList_inj.mp
   simp
   exact List.map_snd_zip (Nat.le_refl _)
  dsimp only
  rw [eo]
  refine wpAny_bind (seqEpoch_at ho6 rfl (wpAny_bind (listUpdate_at ho6 rfl ?_ (Nat.zero_le _) (Nat.le_succ_of_le f2))))
  simp only [bne_self_eq_false, Bool.false_eq_true, if_false]
  exact wpAny_pure f3
 ·rw [if_neg h2, if_neg h2]
  rw [List.size_toArray] at h2
  have zl : (vs.toArray.zip vs.toArray).toList = (List.range vs.length).map fun i => ((vs.getD i Value.none, vs.getD i Value.none) : Keyed) := by
   rw [Array.toList_zip]
   show vs.zip vs = _
   apply List.ext_getElem?
   intro i
   simp only [List.getElem?_map]
   by_cases hi : i < vs.length
   ·rw [List.getElem?_range hi, Option.map_some, (List.getElem?_zip_eq_some (z := (vs[i], vs[i]))).mpr ⟨List.getElem?_eq_getElem hi, List.getElem?_eq_getElem hi⟩, List.getD_eq_getElem?_getD, List.getElem?_eq_getElem hi]
    rfl
   ·rw [List.getElem?_eq_none (by simp; omega), List.getElem?_eq_none (by simp; omega)]
    rfl
  have zsz : (vs.toArray.zip vs.toArray).size = vs.length := by rw [← Array.length_toList, zl, List.length_map, List.length_range]
  have ph : ∀ (i : Nat) (x : Keyed), i < vs.length → x.1 = vs.getD i Value.none → phi vs lt x = rk vs.length lt i := fun i x hi e => by
   have hx : ∃ i, vs[i]? = some x.1 := ⟨i, by rw [e, List.getD_eq_getElem?_getD, List.getElem?_eq_getElem hi]; rfl⟩
   unfold phi
   rw [dif_pos hx]
   have hc := Classical.choose_spec hx
   generalize Classical.choose hx = j at *
   have hj : j < vs.length := (List.getElem?_eq_some_iff.mp hc).1
   have ee : vs[j]? = vs[i]? := by rw [hc, e, List.getD_eq_getElem?_getD, List.getElem?_eq_getElem hi]; rfl
   unfold rk
   congr 1
   refine List.filter_congr fun k hk => ?_
   exact same j i hj ee k
  refine wpAny_bind (kd h6 _ k6 (by omega) ?_)
  have R : XX prog w A κ (phi vs lt) (fun x => ∃ i, i < vs.length ∧ x.1 = vs.getD i Value.none) (fun s' => ∃ tk, s' = { s with heap := h6, toks := tk }) := ⟨fun x y C s' ⟨i, hi, ei⟩ ⟨j, hj, ej⟩ ⟨tk, g⟩ k => by
   subst g
   refine ask h6 tk i j x.1 y.1 C k6 (by rw [ei, List.getD_eq_getElem?_getD, List.getElem?_eq_getElem hi]; rfl) (by rw [ej, List.getD_eq_getElem?_getD, List.getElem?_eq_getElem hj]; rfl) fun tk' => ?_
   rw [← o.rk_lt hi hj, ← ph i x hi ei, ← ph j y hj ej]
   exact k _ ⟨tk', rfl⟩⟩
  refine wpAny_bind (wpAny_mono (show kasC (model prog w) A E sortRuns' (fun _ st' s' => failedOf st' = none ∧ (arrOf st').Perm (vs.toArray.zip vs.toArray) ∧ Up (phi vs lt) (arrOf st').toList ∧ ∃ tk, s' = { s with heap := h6, toks := tk }) (SortSt.mk' κ (vs.toArray.zip vs.toArray) #[] 7 none) { s with heap := h6 } from
   ZhR R (a₀ := vs.toArray.zip vs.toArray) (fun i x e => ?_) rfl rfl rfl rfl (by omega) ⟨s.toks, rfl⟩ fun st' s' a1 a2 a3 a4 => ⟨a1, a2, a3, a4⟩) ?_ fun _ _ e => e)
  ·have hi : i < vs.length := by
    have := (Array.getElem?_eq_some_iff.mp e).1
    omega
   rw [← Array.getElem?_toList, zl, List.getElem?_map, List.getElem?_range hi] at e
   cases e
   exact ⟨i, hi, rfl⟩
  ·rintro ⟨⟨⟩, st'⟩ s' ⟨hf', hpm, hup, tk, rfl⟩
   obtain ⟨q, hq1, hq2⟩ := ZfK (Array.perm_iff_toList_perm.mp hpm) _ zl
   have hqs : q.toArray.size = vs.length := by rw [List.size_toArray, hq1.length_eq, List.length_range]
   have hout : (arrOf st').map (·.2) = (q.toArray.toList.map fun i => vs.getD i Value.none).toArray := by
    apply Array.toList_inj.mp
    rw [Array.toList_map, hq2, List.map_map]
    rfl
   have up' : ∀ i j, i < j → j < vs.length → lt (q.toArray.getD j 0) (q.toArray.getD i 0) = false := fun i j hij hj => by
    rw [List.size_toArray] at hqs
    have gi : ∀ k (hk : k < q.length), q.toArray.getD k 0 = q[k] ∧ q[k] < vs.length := fun k hk => ⟨by rw [Array.getD_eq_getD_getElem?, List.getElem?_toArray, List.getElem?_eq_getElem hk]; rfl, List.mem_range.mp (hq1.mem_iff.mp (List.getElem_mem hk))⟩
    obtain ⟨ei, bi⟩ := gi i (by omega)
    obtain ⟨ej, bj⟩ := gi j (by omega)
    rw [ei, ej, ← o.rk_lt bj bi]
    refine decide_eq_false (Nat.not_lt.mpr ?_)
    rw [hq2] at hup
    have := List.pairwise_iff_getElem.mp (List.pairwise_map.mp hup) i j (by omega) (by omega) hij
    rw [ph _ _ bi rfl, ph _ _ bj rfl] at this
    exact this
   obtain ⟨c, f1, f2, f3⟩ := fin tk q.toArray _ ⟨hqs, Array.perm_iff_toList_perm.mpr (by simpa using hq1)⟩ up' hout
   dsimp only
   refine wpAny_bind (seqEpoch_at (s := { s with heap := h6, toks := tk }) ho6 rfl (wpAny_bind (listUpdate_at (s := { s with heap := h6, toks := tk }) ho6 rfl ?_ (Nat.zero_le _) (Nat.le_succ_of_le f2))))
   rw [hf']
   simp only [bne_self_eq_false, Bool.false_eq_true, if_false]
   exact wpAny_pure f3
end
end Tim
namespace Tim
open PySem PySem.W PyProof.Rows
structure SortAs (prog : Program) (w : World) (h1 : Heap) (vs : List Value) (lt : Nat → Nat → Bool) (κ : SortKind) : Prop where
 wo : WO vs.length lt
 same : ∀ i j, i < vs.length → vs[i]? = vs[j]? → ∀ k, lt k i = lt k j
 kd : ∀ (A : Around) (E : Value → Shared → Prop) (s : Shared) (Q : SortKind → Shared → Prop), (∀ b o, h1.get? b = some o → s.heap.get? b = some o) → 2 ≤ vs.length → Q κ s → wpAny (model prog w) A (keyKind' vs.toArray) Q E s
 ask : ∀ (A : Around) (s : Shared) (i j : Nat) (x y : Value) (C : Bool → Shared → Prop), (∀ b o, h1.get? b = some o → s.heap.get? b = some o) → vs[i]? = some x → vs[j]? = some y → (∀ tk, C (lt i j) { s with toks := tk }) → wpAny (model prog w) A (keyLt' κ x y) C (fun _ _ => False) s
section
variable {prog : Program} {w : World} {A : Around} {E : Value → Shared → Prop} {s : Shared}
theorem sorted_all {r : Addr} {Q : Value → Shared → Prop} {Pc : Heap → List Value → Prop} {lt : Nat → Nat → Bool} {κ : SortKind}
  (col : ∀ (R : List Value → Shared → Prop), (∀ h1 tk vs, (∀ b o, s.heap.get? b = some o → h1.get? b = some o) → Pc h1 vs → R vs { s with heap := h1, toks := tk }) → wpAny (model prog w) A.in1 (collect (.ref r)) R E s)
  (ord : ∀ h1 vs, (∀ b o, s.heap.get? b = some o → h1.get? b = some o) → Pc h1 vs → vs.length ≤ sizeLine ∧ SortAs prog w h1 vs lt κ)
  (fin : ∀ h1 vs h3 tk c p, Pc h1 vs → (∀ b o, s.heap.get? b = some o → h3.get? b = some o) → (∀ b o, h1.get? b = some o → h3.get? b = some o) → (∀ b o, s.heap.get? b = some o → h1.get? b = some o) → Srt.Pm vs.length p → (∀ i j, i < j → j < vs.length → lt (p.getD j 0) (p.getD i 0) = false) →
   h3.get? h1.objs.size = some (seqObj "list" (p.toList.map fun i => vs.getD i Value.none).toArray c) → s.heap.get? h1.objs.size = none → Q (.ref h1.objs.size) { s with heap := h3, toks := tk }) :
  wpAny (model prog w) A (call (.builtin "sorted") [.ref r]) Q E s := by
 refine Calls.call_function_entry kind_sorted plain_sorted entry_sorted (args_sorted1 _) ?_
 unfold Builtin.«sorted»
 refine wpAny_bind (m := checkCount "sorted" 1 1 _) (wpAny_pure ?_)
 refine wpAny_bind (col _ fun h1 tk vs hk hP => ?_)
 obtain ⟨hz, S⟩ := ord h1 vs hk hP
 refine wpAny_bind (wpAny_newList ?_ hz)
 have hB : (h1.push { cls := .type "list", data := .seq vs.toArray }).get? h1.objs.size = some (seqObj "list" vs.toArray 0) := Heap.get?_push_size _ rfl
 refine wpAny_bind (wpAny_holding (wpAny_call_entry slot_list_sort ⟨_, hB, rfl⟩ entry_list_sort ?body (args_list_sort _)))
 have k1 : ∀ {h6 : Heap}, (∀ b o, b ≠ h1.objs.size → (h1.push { cls := .type "list", data := .seq vs.toArray }).get? b = some o → h6.get? b = some o) → ∀ b o, h1.get? b = some o → h6.get? b = some o := fun k b o e => k b o (Nat.ne_of_lt (Heap.lt_size e)) (Heap.get?_push_of_some _ e)
 refine list_sortW (s := { s with heap := h1.push { cls := .type "list", data := .seq vs.toArray }, toks := tk }) hB hz S.wo S.same (fun h6 Q k h2 q => S.kd _ _ _ _ (k1 k) h2 q) (fun h6 tk' i j x y C k e1 e2 q => S.ask _ _ i j x y C (k1 k) e1 e2 fun tk2 => q tk2)
  fun h3 tk3 c p hp hs hkeep hD => ⟨_, rfl, wpAny_pure ⟨_, rfl, ?_⟩⟩
 refine fin h1 vs h3 tk3 c p hP (fun b o e => k1 hkeep b o (hk b o e)) (k1 hkeep) hk hp hs hD ?_
 cases e : s.heap.get? h1.objs.size with
 | none => rfl
 | some u => exact absurd (Heap.lt_size (hk _ _ e)) (Nat.lt_irrefl _)
def ltS (xs : List Str) (i j : Nat) : Bool := decide ((xs.getD i "").cps.toList < (xs.getD j "").cps.toList)
theorem ltS_wo (xs : List Str) (n : Nat) : WO n (ltS xs) where
 irr := fun i _ => by
  unfold ltS
  exact decide_eq_false (List.lt_irrefl _)
 tr := fun i j k _ _ _ h1 h2 => by
  unfold ltS at *
  rw [decide_eq_true_eq] at *
  exact List.lt_trans h1 h2
 ntr := fun i j k _ _ _ h => by
  unfold ltS at *
  rw [decide_eq_true_eq] at h
  rw [decide_eq_true_eq, decide_eq_true_eq]
  by_cases c : (xs.getD k "").cps.toList < (xs.getD i "").cps.toList
  ·exact .inl c
  ·exact .inr (List.lt_of_le_of_lt (List.not_lt.mp c) h)
theorem strs_at : ∀ {vs : List Value} {xs : List Str}, StrsAre vs xs → ∀ (i : Nat) (v : Value), vs[i]? = some v → ∃ t, v = .str (xs.getD i "") t ∧ xs[i]? = some (xs.getD i "")
 | _, _, .nil, i, v, h => by simp at h
 | _, _, .cons y t r, 0, v, h => by
  simp at h
  exact ⟨t, by rw [← h]; rfl, rfl⟩
 | _, _, .cons y t r, i + 1, v, h => by
  obtain ⟨t', e1, e2⟩ := strs_at r i v (by simpa using h)
  exact ⟨t', by rw [e1]; rfl, by simpa using e2⟩
theorem strs_len : ∀ {vs : List Value} {xs : List Str}, StrsAre vs xs → vs.length = xs.length
 | _, _, .nil => rfl
 | _, _, .cons y t r => by simp [strs_len r]
theorem sa_strs {h1 : Heap} {vs : List Value} {xs : List Str} (hS : StrsAre vs xs) : SortAs prog w h1 vs (ltS xs) oneType' where
 wo := ltS_wo xs _
 same := fun i j hi e k => by
  have hj : vs[j]? = some vs[i] := by rw [← e]; exact List.getElem?_eq_getElem hi
  obtain ⟨t1, e1, _⟩ := strs_at hS i _ (List.getElem?_eq_getElem hi)
  obtain ⟨t2, e2, _⟩ := strs_at hS j _ hj
  rw [e1] at e2
  injection e2 with e2 _
  unfold ltS
  rw [e2]
 kd := fun A E s Q _ h2 q => by
  match vs, hS, h2 with
  | v1 :: v2 :: vs, hS, _ =>
   rw [keyKind_strs hS]
   exact wpAny_pure q
 ask := fun A s i j x y C _ e1 e2 q => by
  obtain ⟨t1, rfl, _⟩ := strs_at hS i _ e1
  obtain ⟨t2, rfl, _⟩ := strs_at hS j _ e2
  exact kas_lt_str (q s.toks)
def PrI (h : Heap) (v : Value) (x : Str) : Prop := ∃ a o n t y, v = .ref a ∧ h.get? a = some o ∧ o.cls = .type "tuple" ∧ o.data = .seq #[.str x t, y] n
theorem PrI.keep {h h' : Heap} {v : Value} {x : Str} (p : PrI h v x) (k : ∀ b o, h.get? b = some o → h'.get? b = some o) : PrI h' v x := by
 obtain ⟨a, o, n, t, y, e, e1, e2⟩ := p
 exact ⟨a, o, n, t, y, e, k a o e1, e2⟩
theorem ZeM {h : Heap} : ∀ {vs : List Value} {xs : List Str}, xs.length = vs.length → (∀ (i : Nat) (v : Value) (x : Str), vs[i]? = some v → xs[i]? = some x → PrI h v x) → ∃ fs, KatTups h vs fs ∧ fs.length = vs.length ∧ ∀ f ∈ fs, ∃ x t, f = .str x t
 | [], [], _, _ => ⟨[], trivial, rfl, fun f hf => nomatch hf⟩
 | [], _ :: _, h, _ => by cases h
 | _ :: _, [], h, _ => by cases h
 | v :: vs, x :: xs, hl, hv => by
  obtain ⟨a, o, n, t, y, rfl, ha, hc, hd⟩ := hv 0 v x rfl rfl
  obtain ⟨fs, k, l, q⟩ := ZeM (vs := vs) (xs := xs) (by simpa using hl) fun i v x e1 e2 => hv (i + 1) v x e1 e2
  refine ⟨.str x t :: fs, KatTups.cons ha hc hd rfl k, by simp [l], fun f hf => ?_⟩
  rcases List.mem_cons.mp hf with z | z
  ·exact ⟨x, t, z⟩
  ·exact q f z
theorem lt_ne {x y : Str} (h : ¬ x.cps.toList < y.cps.toList) (h2 : ¬ x = y) : y.cps.toList < x.cps.toList := by
 by_cases c : y.cps.toList < x.cps.toList
 ·exact c
 ·have e := List.le_antisymm (List.not_lt.mp c) (List.not_lt.mp h)
  exact absurd (by rw [← L2.tx_eta x, ← L2.tx_eta y, e]) h2
theorem Ze1 {v : Value} {Q : Bool → Shared → Prop} (h : Q true s) : wpAny (model prog w) A (eqBool v v) Q E s := by
 unfold eqBool
 refine wpAny_holding ?_
 rw [if_pos (by simp)]
 exact wpAny_bind (wpAny_rule (wpAny_pure h))
theorem sa_tups {h1 : Heap} {vs : List Value} {xs : List Str} (hl : xs.length = vs.length) (nd : xs.Nodup) (hv : ∀ (i : Nat) (v : Value) (x : Str), vs[i]? = some v → xs[i]? = some x → PrI h1 v x) : SortAs prog w h1 vs (ltS xs) (tuples' ((Value.type "str") != Value.type "tuple")) where
 wo := ltS_wo xs _
 same := fun i j hi e k => by
  have hj : vs[j]? = some vs[i] := by rw [← e]; exact List.getElem?_eq_getElem hi
  have hj2 : j < vs.length := (List.getElem?_eq_some_iff.mp hj).1
  obtain ⟨a, o, n, t, y, e1, e2, e3, e4⟩ := hv i vs[i] xs[i] (List.getElem?_eq_getElem hi) (List.getElem?_eq_getElem (by omega))
  obtain ⟨a', o', n', t', y', e1', e2', e3', e4'⟩ := hv j vs[i] xs[j] hj (List.getElem?_eq_getElem (by omega))
  rw [e1] at e1'
  cases e1'
  rw [e2] at e2'
  cases e2'
  rw [e4] at e4'
  have ex : xs[i] = xs[j] := by
   injection e4' with z1 _
   have := congrArg (fun a : Array Value => a[0]?) z1
   simp at this
   exact this.1
  unfold ltS
  rw [List.getD_eq_getElem?_getD, List.getD_eq_getElem?_getD, List.getD_eq_getElem?_getD, List.getElem?_eq_getElem (show i < xs.length by omega), List.getElem?_eq_getElem (show j < xs.length by omega), ex]
 kd := fun A E s Q k h2 q => by
  obtain ⟨fs, kt, lf, hf⟩ := ZeM (h := s.heap) hl fun i v x e1 e2 => (hv i v x e1 e2).keep k
  refine kat_kind (T := .type "str") kt (by omega) (fun f m => ?_) (by decide) q
  obtain ⟨x, t, rfl⟩ := hf f m
  exact Looks.of_pure rfl
 ask := fun A s i j x y C k e1 e2 q => by
  have hi : i < vs.length := (List.getElem?_eq_some_iff.mp e1).1
  have hj : j < vs.length := (List.getElem?_eq_some_iff.mp e2).1
  obtain ⟨a1, o1, n1, t1, y1, rfl, g1, c1, d1⟩ := (hv i x xs[i] e1 (List.getElem?_eq_getElem (by omega))).keep k
  obtain ⟨a2, o2, n2, t2, y2, rfl, g2, c2, d2⟩ := (hv j y xs[j] e2 (List.getElem?_eq_getElem (by omega))).keep k
  have el : ltS xs i j = decide (xs[i].cps.toList < xs[j].cps.toList) := by
   unfold ltS
   rw [List.getD_eq_getElem?_getD, List.getD_eq_getElem?_getD, List.getElem?_eq_getElem (show i < xs.length by omega), List.getElem?_eq_getElem (show j < xs.length by omega)]
   rfl
  by_cases hij : i = j
  ·subst hij
   rw [e1] at e2
   cases e2
   rw [g1] at g2
   cases g2
   rw [el] at q
   rw [decide_eq_false (List.lt_irrefl _)] at q
   refine kat_lt g1 d1 g1 d1 ?_
   refine kat_cons (Ze1 (kat_yes (kat_cons (Ze1 (kat_yes (kat_nil ?_))))))
   exact q s.toks
  have hne : ¬ xs[i] = xs[j] := fun z => hij ((List.getElem_inj nd).mp z)
  refine kat_lt g1 d1 g2 d2 (kat_cons (wpAny_eqBool_str ?_))
  rw [decide_eq_false hne]
  refine kat_no (kas_lt_str ?_)
  rw [← el]
  exact q s.toks
end
end Tim
namespace L2
open PySem PySem.Spec PyProof.Rows PySem.W
section
variable {prog : Program} {w : World} {A : Around} {E : Value → Shared → Prop} {s : Shared}
theorem YG {n : Nat} (h : n ≤ 1000) : n ≤ sizeLine := by rw [sizeLine_eq]; omega
theorem Zhs {xs : List Str} {n : Nat} {p : Array Nat} (hl : xs.length = n) (nd : xs.Nodup) (hp : Srt.Pm n p) (h : ∀ i j, i < j → j < n → Tim.ltS xs (p.getD j 0) (p.getD i 0) = false) : Srt.Up (ltX xs) p n := fun i j hij hj => by
 have h1 := h i j hij hj
 have bi := hp.below (show i < n by omega)
 have bj := hp.below hj
 have ne := hp.ne (show i < n by omega) hj (by omega)
 unfold Tim.ltS at h1
 unfold ltX
 rw [decide_eq_false_iff_not] at h1
 rw [decide_eq_true_eq]
 refine Tim.lt_ne h1 fun e => ne ?_
 rw [Jq (by omega), Jq (by omega)] at e
 exact ((List.getElem_inj nd).mp e).symm
theorem Zb3 {a : Addr} {vs : List Value} {xs : List Str} {n : Nat} {P : PySem.Fin → Shared → Prop} (ho : s.heap.get? a = some (seqObj "list" vs.toArray n)) (h1k : vs.length ≤ 1000) (hl : xs.length = vs.length) (nd : xs.Nodup)
  (hv : ∀ (i : Nat) (v : Value) (x : Str), vs[i]? = some v → xs[i]? = some x → Zk3 s.heap v x)
  (h : ∀ (h1 : Heap) (tk c : Nat) (p : Array Nat), Srt.Pm xs.length p → Srt.Up (ltX xs) p xs.length → (∀ b o, b ≠ a → s.heap.get? b = some o → h1.get? b = some o) →
   h1.get? a = some (seqObj "list" (p.toList.map fun i => vs.getD i Value.none).toArray c) → P (.done (.ret .none)) { s with heap := h1, toks := tk }) :
  wpAny (model prog w) A (Builtin.«list.sort» ⟨[.ref a], []⟩) P E s := by
 have hv6 : ∀ {h6 : Heap}, (∀ b o, b ≠ a → s.heap.get? b = some o → h6.get? b = some o) → ∀ (i : Nat) (v : Value) (x : Str), vs[i]? = some v → xs[i]? = some x → Tim.PrI h6 v x := fun {h6} k6 i v x q1 q2 => by
  obtain ⟨b, t, y, rfl, hb⟩ := hv i v x q1 q2
  exact ⟨b, _, _, t, y, rfl, k6 b _ (fun z => by rw [z, ho] at hb; injection hb with hb; exact absurd (congrArg Obj.cls hb) (by unfold seqObj; simp)) hb, rfl, rfl⟩
 have hv0 : ∀ (i : Nat) (v : Value) (x : Str), vs[i]? = some v → xs[i]? = some x → Tim.PrI s.heap v x := fun i v x q1 q2 => by
  obtain ⟨b, t, y, rfl, hb⟩ := hv i v x q1 q2
  exact ⟨b, _, _, t, y, rfl, hb, rfl, rfl⟩
 refine Tim.list_sortW ho (YG h1k) (Tim.ltS_wo xs _) (Tim.sa_tups (prog := prog) (w := w) hl nd hv0).same (fun h6 Q k h2 q => (Tim.sa_tups (h1 := h6) hl nd (hv6 k)).kd _ _ _ _ (fun b o e => e) h2 q) (fun h6 tk i j x y C k e1 e2 q => (Tim.sa_tups (h1 := h6) hl nd (hv6 k)).ask _ _ i j x y C (fun b o e => e) e1 e2 fun tk2 => q tk2)
  fun h1 tk c p hp hs k hD => h h1 tk c p (hl ▸ hp) (by rw [hl]; exact Zhs hl nd hp hs) k hD
end
theorem Yi {X : Cx} (hc : X.calm = true) : CallR X (.builtin "sorted") (fun xs H Q => ∃ (p d : Addr) (ks : List Str) (g : Str → V), xs = [.ref p] ∧ H p = some (ivO p d) ∧ H d = some (.dK (ks.map fun x => ((Sum.inr x : Key), g x))) ∧ ks.Nodup ∧ ks.length ≤ 1000 ∧
  ∀ (D : Addr) (H1 : Hp) (vs : List V) (ss : List Str), Same H H1 → ss.Perm ks → (ss.map fun x => x.cps.toList).Pairwise (· < ·) → H1 D = some (.lst vs) → vs.length = ss.length →
   (∀ (i : Nat) (x : Str), ss[i]? = some x → ∃ b, vs[i]? = some (.ref b) ∧ H1 b = some (.tup [.str x, g x])) → Q (.ref D) H1) := by
 intro pins s σ H xs us Q I r h
 obtain ⟨p, d, ks, g, rfl, hp, hd, nd, h1k, q⟩ := h
 obtain ⟨u, rfl, ru⟩ := Xt r
 cases ru
 have hview : s.heap.IsItemsView p d := (I.hok p _ hp).1
 obtain ⟨hz, lo, vs', kv, dd⟩ := Zbs I.hok hd
 obtain ⟨ep, hat⟩ := dd.dictAt
 have hlen : ks.length = vs'.length := by have := kv.length; simpa using this
 have hsz : vs'.length ≤ sizeLine := by rw [sizeLine_eq]; omega
 refine Calls.call_function_entry kind_sorted plain_sorted entry_sorted (args_sorted1 _) ?_
 unfold Builtin.«sorted»
 refine wpAny_bind (m := checkCount "sorted" 1 1 _) (wpAny_pure ?_)
 refine wpAny_bind (kdx_collect (A := X.A.in1) (knd := Zp X.prog X.w) (kvs := vs') (ep := ep) (I.ok.hd hc) hview hat hsz fun h1 tk as hk hl hG => ?_)
 refine wpAny_bind (wpAny_newList ?_ (by rw [List.length_map, hl]; exact hsz))
 have pr : ∀ (i : Nat), i < ks.length → ∃ a t y, as[i]? = some a ∧ RelV (g (ks.getD i "")) y ∧ h1.get? a = some { cls := .type "tuple", data := .seq #[.str (ks.getD i "") t, y] } := fun i hi => by
  have hi2 : i < as.length := by omega
  obtain ⟨key, k, x, e1, e2, e3⟩ := hG.pairs i as[i] (List.getElem?_eq_getElem hi2)
  have ek := congrArg (fun l : List Key => l[i]?) kv.keys
  simp only [List.getElem?_map] at ek
  rw [e1, List.getElem?_eq_getElem hi] at ek
  have ek' : (Sum.inr ks[i] : Key) = k := Option.some.inj ek
  have ev : RelV (g ks[i]) x := by
   have key : ∀ {l1 : List (Key × V)} {l2 : List (Key × Value)} (i : Nat) (p : Key × V) (q : Key × Value), Paired (fun (p : Key × V) (q : Key × Value) => p.1 = q.1 ∧ RelV p.2 q.2) l1 l2 → l1[i]? = some p → l2[i]? = some q → RelV p.2 q.2 := by
    intro l1 l2 i p q hP
    induction hP generalizing i with
    | nil => intro e; simp at e
    | cons r t ih =>
     intro e1 e2
     cases i with
     | zero =>
      simp at e1 e2
      subst e1 e2
      exact r.2
     | succ i => exact ih i (by simpa using e1) (by simpa using e2)
   exact key i (Sum.inr ks[i], g ks[i]) (k, x) kv (by rw [List.getElem?_map, List.getElem?_eq_getElem hi]; rfl) e1
  subst ek'
  rcases keyIs_shape (show Jk (Sum.inr ks[i]) key = true from e2) with ⟨j, t, e4, _⟩ | ⟨z, t, e4, e5⟩
  ·cases e4
  ·injection e4 with e4
   subst e4
   refine ⟨as[i], t, x, List.getElem?_eq_getElem hi2, by rw [Jq hi]; exact ev, ?_⟩
   rw [e3, e5, Jq hi]
 have hB : (h1.push { cls := .type "list", data := .seq (as.map Value.ref).toArray }).get? h1.objs.size = some (seqObj "list" (as.map Value.ref).toArray 0) := Heap.get?_push_size _ rfl
 refine wpAny_bind (wpAny_holding (wpAny_call_entry slot_list_sort ⟨_, hB, rfl⟩ entry_list_sort ?body (args_list_sort _)))
 refine Zb3 (s := { s with heap := h1.push { cls := .type "list", data := .seq (as.map Value.ref).toArray }, toks := tk }) (xs := ks) hB (by rw [List.length_map]; omega) (by rw [List.length_map]; omega) nd (fun i v x e1 e2 => ?_) fun h3 tk3 c pm hpm hup hkeep hD => ⟨_, rfl, wpAny_pure ⟨_, rfl, ?_⟩⟩
 ·have hi : i < ks.length := (List.getElem?_eq_some_iff.mp e2).1
  obtain ⟨a, t, y, f1, _, f3⟩ := pr i hi
  rw [List.getElem?_map, f1] at e1
  cases e1
  have ex : ks.getD i "" = x := by rw [List.getD_eq_getElem?_getD, e2]; rfl
  rw [ex] at f3
  exact ⟨a, t, y, rfl, Heap.get?_push_of_some _ f3⟩
 ·have hold : ∀ b u, s.heap.get? b = some u → h3.get? b = some u := fun b u e => hkeep b u (Nat.ne_of_lt (Heap.lt_size (hk b u e))) (Heap.get?_push_of_some _ (hk b u e))
  have hDn : s.heap.get? h1.objs.size = none := by
   cases z : s.heap.get? h1.objs.size with
   | none => rfl
   | some u => exact absurd (Heap.lt_size (hk _ u z)) (Nat.lt_irrefl _)
  have tup3 : ∀ (i : Nat), i < ks.length → ∃ a t y, as[i]? = some a ∧ RelV (g (ks.getD i "")) y ∧ s.heap.get? a = none ∧ a ≠ h1.objs.size ∧ h3.get? a = some { cls := .type "tuple", data := .seq #[.str (ks.getD i "") t, y] } := fun i hi => by
   obtain ⟨a, t, y, f1, f2, f3⟩ := pr i hi
   have ne : a ≠ h1.objs.size := Nat.ne_of_lt (Heap.lt_size f3)
   exact ⟨a, t, y, f1, f2, Heap.get?_none_of_le (Nat.le_of_lt (hG.above a (List.mem_of_getElem? f1))), ne, hkeep a _ ne (Heap.get?_push_of_some _ f3)⟩
  have asnd : as.Nodup := hG.rise.imp fun {a b} z e => by subst e; exact Nat.lt_irrefl _ z
  let N : Addr → Option HO := fun b => if b = h1.objs.size then some (.lst (pm.toList.map fun i => V.ref (as.getD i 0))) else (as.idxOf? b).map fun i => .tup [.str (ks.getD i ""), g (ks.getD i "")]
  have hND : N h1.objs.size = some (.lst (pm.toList.map fun i => V.ref (as.getD i 0))) := if_pos rfl
  have hNt : ∀ (i : Nat), i < ks.length → ∃ a, as[i]? = some a ∧ N a = some (.tup [.str (ks.getD i ""), g (ks.getD i "")]) := fun i hi => by
   obtain ⟨a, t, y, f1, f2, f3, f4, f5⟩ := tup3 i hi
   refine ⟨a, f1, ?_⟩
   show (if a = h1.objs.size then _ else _) = _
   rw [if_neg f4]
   have hi2 : i < as.length := (List.getElem?_eq_some_iff.mp f1).1
   have e : as.idxOf? a = some i := by
    rw [List.idxOf?_eq_some_iff]
    refine ⟨hi2, by rw [List.getElem?_eq_getElem hi2] at f1; simpa using Option.some.inj f1, fun j hj => ?_⟩
    intro z
    have e1 : as[j]'(by omega) = as[i] := by rw [List.getElem?_eq_getElem hi2] at f1; rw [Option.some.inj f1]; simpa using z
    exact absurd ((List.getElem_inj asnd).mp e1) (by omega)
   rw [e]
   rfl
  have hNall : ∀ a o, N a = some o → s.heap.get? a = none ∧ ∀ H2, ObjOk X.prog X.w H2 h3 a o := fun a o e => by
   by_cases ha : a = h1.objs.size
   ·subst ha
    rw [hND] at e
    cases e
    refine ⟨hDn, fun H2 => ⟨?_, pm.toList.map (fun i => Value.ref (as.getD i 0)), c, ?_, ?_⟩⟩
    ·rw [List.length_map, Array.length_toList, hpm.size, sizeLine_eq]
     omega
    ·have gen : ∀ l : List Nat, Vals (l.map fun i => V.ref (as.getD i 0)) (l.map fun i => Value.ref (as.getD i 0)) := by
      intro l
      induction l with
      | nil => exact .nil
      | cons i l ih => exact .cons rfl ih
     exact gen _
    ·rw [hD]
     have el : (List.map (fun i => (List.map Value.ref as).getD i Value.none) pm.toList) = pm.toList.map fun i => Value.ref (as.getD i 0) := by
      refine List.map_congr_left fun i hi => ?_
      have hi' : i < as.length := by
       have : i ∈ pm := by simpa using hi
       have := hpm.perm.mem_iff.mp this
       have : i < ks.length := by simpa using this
       omega
      rw [List.getD_eq_getElem?_getD, List.getElem?_map, List.getElem?_eq_getElem hi', List.getD_eq_getElem?_getD, List.getElem?_eq_getElem hi']
      rfl
     rw [el]
   ·have e' : (as.idxOf? a).map (fun i => HO.tup [.str (ks.getD i ""), g (ks.getD i "")]) = some o := by
     have : (if a = h1.objs.size then some (HO.lst (pm.toList.map fun i => V.ref (as.getD i 0))) else (as.idxOf? a).map fun i => HO.tup [.str (ks.getD i ""), g (ks.getD i "")]) = some o := e
     rw [if_neg ha] at this
     exact this
    cases hx : as.idxOf? a with
    | none => rw [hx] at e'; cases e'
    | some i =>
     rw [hx] at e'
     cases e'
     obtain ⟨hi, hai, _⟩ := List.idxOf?_eq_some_iff.mp hx
     have hi' : i < ks.length := by omega
     obtain ⟨a', t, y, f1, f2, f3, f4, f5⟩ := tup3 i hi'
     rw [List.getElem?_eq_getElem hi] at f1
     have ea : a = a' := by rw [← Option.some.inj f1]; simpa using hai.symm
     subst ea
     refine ⟨f3, fun H2 => ⟨by show 2 ≤ sizeLine; rw [sizeLine_eq]; decide, [.str (ks.getD i "") t, y], .cons ⟨t, rfl⟩ (.cons f2 .nil), ⟨⟨_, f5, rfl, _, rfl⟩, fun o e => by rw [f5] at e; cases e; rfl⟩⟩⟩
  refine ⟨.ref h1.objs.size, _, I.laidN (N := N) (tk := tk3) hold hNall, rfl, ?_⟩
  have hsame : Same H fun b => (N b).or (H b) := fun b u e => by
   obtain ⟨v, hv⟩ := (I.hok b u e).there'
   have : N b = none := by
    cases z : N b with
    | none => rfl
    | some o => rw [(hNall b o z).1] at hv; cases hv
   show (N b).or (H b) = some u
   rw [this, Option.none_or]
   exact e
  refine q _ _ (pm.toList.map fun i => V.ref (as.getD i 0)) (pm.toList.map fun i => ks.getD i "") hsame (Zee ks pm hpm) ?_ (by rw [hND]; rfl) (by rw [List.length_map, List.length_map]) fun i x e => ?_
  ·rw [List.map_map, List.pairwise_map, List.pairwise_iff_getElem]
   intro i j hi hj hij
   have hz2 : pm.toList.length = ks.length := by rw [Array.length_toList, hpm.size]
   have hu := hup i j hij (by omega)
   unfold ltX at hu
   rw [decide_eq_true_eq] at hu
   have g1 : pm.getD i 0 = pm.toList[i] := by rw [Array.getD_eq_getD_getElem?, Array.getElem?_eq_getElem (by simpa using hi)]; simp
   have g2 : pm.getD j 0 = pm.toList[j] := by rw [Array.getD_eq_getD_getElem?, Array.getElem?_eq_getElem (by simpa using hj)]; simp
   rw [g1, g2] at hu
   exact hu
  ·rw [List.getElem?_map] at e
   cases ep : pm.toList[i]? with
   | none => rw [ep] at e; cases e
   | some k =>
    rw [ep] at e
    have ex : ks.getD k "" = x := Option.some.inj e
    have hkm : k ∈ pm := by simpa using List.mem_of_getElem? ep
    have hkl : k < ks.length := by simpa using hpm.perm.mem_iff.mp hkm
    obtain ⟨a, f1, f2⟩ := hNt k hkl
    refine ⟨a, ?_, ?_⟩
    ·rw [List.getElem?_map, ep, Option.map_some, List.getD_eq_getElem?_getD, f1]
     rfl
    ·show (N a).or (H a) = _
     rw [f2, Option.some_or, ex]
theorem ZbP {X : Cx} {pins : List (Addr × Obj)} {σ : St} {H : Hp} {s : Shared} {h3 : Heap} {tk : Nat} {D : Addr} {vs : List V} (I : Inv X pins σ H s) (k : ∀ b u, s.heap.get? b = some u → h3.get? b = some u) (hD : s.heap.get? D = none) (hz : vs.length ≤ sizeLine)
  (ho : ∃ (its : List Value) (n : Nat), Vals vs its ∧ h3.get? D = some { cls := .type "list", data := .seq its.toArray n }) : H D = none ∧ Inv X pins σ (upd H D (.lst vs)) { s with heap := h3, toks := tk } := by
 have hn : H D = none := by
  cases e : H D with
  | none => rfl
  | some u =>
   obtain ⟨v, hv⟩ := (I.hok D u e).there'
   rw [hD] at hv
   cases hv
 refine ⟨hn, ?_⟩
 have := I.laidN (N := fun b => if b = D then some (.lst vs) else none) (tk := tk) k fun a o e => by
  by_cases c : a = D
  ·subst c
   rw [if_pos rfl] at e
   cases e
   exact ⟨hD, fun H2 => ⟨hz, ho⟩⟩
  ·rw [if_neg c] at e
   cases e
 have e : (fun b => (if b = D then some (HO.lst vs) else none).or (H b)) = upd H D (.lst vs) := by
  funext b
  by_cases c : b = D
  ·subst c
   rw [if_pos rfl, Option.some_or, Zd]
  ·rw [if_neg c, Option.none_or, Zg c]
 rw [e] at this
 exact this
theorem XA {α : Type} {d : α} (ks : List α) (p : Array Nat) (hp : Srt.Pm ks.length p) : (p.toList.map fun i => ks.getD i d).Perm ks := by
 have h1 := (Array.perm_iff_toList_perm.mp hp.perm).map fun i => ks.getD i d
 have h2 : ((List.range ks.length).toArray.toList.map fun i => ks.getD i d) = ks := by
  apply List.ext_getElem?
  intro i
  simp only [List.getElem?_map]
  by_cases hi : i < ks.length
  ·rw [List.getElem?_range hi, List.getElem?_eq_getElem hi, Option.map_some, List.getD_eq_getElem?_getD, List.getElem?_eq_getElem hi]
   rfl
  ·rw [List.getElem?_eq_none (by simp; omega), List.getElem?_eq_none (by omega)]
   rfl
 rw [h2] at h1
 exact h1
theorem Zc4 {n : Nat} {p : Array Nat} (hp : Srt.Pm n p) {i : Nat} (hi : i < p.toList.length) : p.getD i 0 = p.toList[i] := by
 rw [Array.getD_eq_getD_getElem?, Array.getElem?_eq_getElem (by simpa using hi)]
 simp
theorem Zio {xs : List Str} {p : Array Nat} (hp : Srt.Pm xs.length p) (h : ∀ i j, i < j → j < xs.length → Tim.ltS xs (p.getD j 0) (p.getD i 0) = false) : ((p.toList.map fun i => xs.getD i "").map fun x => x.cps.toList).Pairwise (· ≤ ·) := by
 rw [List.map_map, List.pairwise_map, List.pairwise_iff_getElem]
 intro i j hi hj hij
 have hz : p.toList.length = xs.length := by rw [Array.length_toList, hp.size]
 have hu := h i j hij (by omega)
 unfold Tim.ltS at hu
 rw [decide_eq_false_iff_not, Zc4 hp hi, Zc4 hp hj] at hu
 exact List.not_lt.mp hu
theorem Zei : ∀ {ks : List Str} {g : Str → V} {vs : List (Key × Value)}, KV (ks.map fun x => ((Sum.inr x : Key), g x)) vs → ∀ (i : Nat) (k : Key) (x : Value), vs[i]? = some (k, x) → k = Sum.inr (ks.getD i "") ∧ i < ks.length := by
 intro ks g vs kv i k x e
 have ek := congrArg (fun l : List Key => l[i]?) kv.keys
 simp only [List.getElem?_map] at ek
 rw [e] at ek
 cases z : ks[i]? with
 | none => rw [z] at ek; cases ek
 | some y =>
  rw [z] at ek
  refine ⟨?_, (List.getElem?_eq_some_iff.mp z).1⟩
  rw [List.getD_eq_getElem?_getD, z]
  exact (Option.some.inj ek).symm
theorem YE {X : Cx} (hc : X.calm = true) : CallR X (.builtin "sorted") (fun xs H Q => ∃ (d : Addr) (ks : List Str) (g : Str → V), xs = [.ref d] ∧ H d = some (.dK (ks.map fun x => ((Sum.inr x : Key), g x))) ∧ ks.length ≤ 1000 ∧
  ∀ (p : Addr) (ss' : List Str), H p = none → ss'.Perm ks → (ss'.map fun x => x.cps.toList).Pairwise (· ≤ ·) → Q (.ref p) (upd H p (.lst (ss'.map V.str)))) := by
 intro pins s σ H xs us Q I r h
 obtain ⟨d, ks, g, rfl, hd, h1k, q⟩ := h
 obtain ⟨u, rfl, ru⟩ := Xt r
 cases ru
 obtain ⟨hz, lo, vs', kv, dd⟩ := Zbs I.hok hd
 obtain ⟨ep, hat⟩ := dd.dictAt
 have hlen : ks.length = vs'.length := by have := kv.length; simpa using this
 have toS : ∀ (n : Nat) (vs : List Value) (xs : List Str), vs.length = xs.length → (∀ (i : Nat) (v : Value), vs[i]? = some v → ∃ t, v = .str (xs.getD i "") t) → StrsAre vs xs := by
  intro n vs
  induction vs with
  | nil =>
   intro xs e _
   match xs, e with
   | [], _ => exact .nil
  | cons v vs ih =>
   intro xs e hh
   match xs, e with
   | x :: xs, e =>
    obtain ⟨t, rfl⟩ := hh 0 v rfl
    exact .cons x t (ih xs (by simpa using e) fun i u z => by
     obtain ⟨t, e⟩ := hh (i + 1) u (by simpa using z)
     exact ⟨t, e⟩)
 refine Tim.sorted_all (lt := Tim.ltS ks) (κ := oneType') (Pc := fun h1 vs => StrsAre vs ks) (fun R hR => ?_) (fun h1 vs hk hP => ?_) fun h1 vs h3 tk c p hP hk k1 hk1 hp hs hD hN => ?_
 ·refine kdu_collect (A := X.A.in1) (kdl_dict lo) (I.ok.hd hc) hat (YG (by omega)) fun h' tk acc hk hacc => hR h' tk acc.toList hk (toS 0 _ _ (by rw [Array.length_toList, hacc.1, hlen]) fun i v e => ?_)
  obtain ⟨k, x, e1, e2⟩ := hacc.2 i v (by rw [← Array.getElem?_toList]; exact e)
  obtain ⟨ek, hi⟩ := Zei kv i k x e1
  subst ek
  rcases keyIs_shape (show Jk (Sum.inr (ks.getD i "")) v = true from e2) with ⟨j, t, e4, _⟩ | ⟨z, t, e4, e5⟩
  ·cases e4
  ·injection e4 with e4
   exact ⟨t, by rw [e5, e4]⟩
 ·have := Tim.strs_len hP
  exact ⟨YG (by omega), Tim.sa_strs hP⟩
 ·have hl := Tim.strs_len hP
  have hp' : Srt.Pm ks.length p := by rw [← hl]; exact hp
  have vv : ∀ l : List Nat, (∀ i ∈ l, i < ks.length) → Vals ((l.map fun i => ks.getD i "").map V.str) (l.map fun i => vs.getD i Value.none) := by
   intro l
   induction l with
   | nil => intro _; exact .nil
   | cons i l ih =>
    intro hh
    have hi : i < vs.length := by have := hh i (List.mem_cons_self ..); omega
    obtain ⟨t, e, _⟩ := Tim.strs_at hP i _ (List.getElem?_eq_getElem hi)
    refine .cons ?_ (ih fun j hj => hh j (List.mem_cons_of_mem _ hj))
    show RelV (V.str (ks.getD i "")) (vs.getD i Value.none)
    rw [List.getD_eq_getElem?_getD (l := vs), List.getElem?_eq_getElem hi]
    exact ⟨t, e⟩
  have hmem : ∀ i ∈ p.toList, i < ks.length := fun i hi => by
   have : i ∈ p := by simpa using hi
   have := hp'.perm.mem_iff.mp this
   simpa using this
  obtain ⟨hn, I2⟩ := ZbP (tk := tk) (vs := (p.toList.map fun i => ks.getD i "").map V.str) I hk hN (by rw [List.length_map, List.length_map, Array.length_toList, hp'.size]; exact YG h1k) ⟨_, c, vv p.toList hmem, hD⟩
  exact ⟨.ref h1.objs.size, _, I2, rfl, q _ _ hn (XA ks p hp') (Zio hp' (by rw [← hl]; exact hs))⟩
theorem ZaM {X : Cx} : CallR X (.builtin "sorted") (fun xs H Q => ∃ (a : Addr) (rs : List (Addr × Str)), xs = [.ref a] ∧ SqL X.K H a (rs.map fun r => V.ref r.1) ∧ (∀ r ∈ rs, ∃ y, H r.1 = some (.tup [.str r.2, y])) ∧ (rs.map (·.2)).Nodup ∧ rs.length ≤ 1000 ∧
  ∀ (p : Addr) (rs' : List (Addr × Str)), H p = none → rs'.Perm rs → (rs'.map fun r => r.2.cps.toList).Pairwise (· < ·) → Q (.ref p) (upd H p (.lst (rs'.map fun r => V.ref r.1)))) := by
 intro pins s σ H xs us Q I r h
 obtain ⟨a, rs, rfl, hq, ht, nd, h1k, q⟩ := h
 obtain ⟨u, rfl, ru⟩ := Xt r
 cases ru
 obtain ⟨its, rv, pl, hz⟩ := I.list hq
 have hl := rv.length
 rw [List.length_map] at hl
 have iat : ∀ (i : Nat) (hi : i < rs.length), its[i]? = some (.ref rs[i].1) := fun i hi => by
  obtain ⟨u', hu, ru⟩ := rv.get (show (rs.map fun r => V.ref r.1)[i]? = some (V.ref rs[i].1) by rw [List.getElem?_map, List.getElem?_eq_getElem hi]; rfl)
  rw [hu]
  exact congrArg some ru
 have pr : ∀ (i : Nat) (v : Value) (x : Str), its[i]? = some v → (rs.map (·.2))[i]? = some x → Tim.PrI s.heap v x := fun i v x e1 e2 => by
  have hi : i < rs.length := by have := (List.getElem?_eq_some_iff.mp e1).1; omega
  rw [iat i hi] at e1
  cases e1
  rw [List.getElem?_map, List.getElem?_eq_getElem hi] at e2
  cases e2
  obtain ⟨y, hy⟩ := ht rs[i] (List.getElem_mem hi)
  obtain ⟨_, jts, rj, ⟨o, g1, g2, n, g3⟩, _⟩ := (show ObjOk X.prog X.w H s.heap rs[i].1 (.tup [.str rs[i].2, y]) from I.hok _ _ hy)
  obtain ⟨u1, u2, ej, r1, r2⟩ := Zfo rj
  obtain ⟨t, rfl⟩ := r1
  exact ⟨rs[i].1, o, n, t, u2, rfl, g1, g2, by rw [g3, ej]⟩
 have hS : ∀ {h1 : Heap}, (∀ b o, s.heap.get? b = some o → h1.get? b = some o) → Tim.SortAs X.prog X.w h1 its (Tim.ltS (rs.map (·.2))) (tuples' ((Value.type "str") != Value.type "tuple")) := fun hk => Tim.sa_tups (by rw [List.length_map]; omega) nd fun i v x e1 e2 => (pr i v x e1 e2).keep hk
 refine Tim.sorted_all (lt := Tim.ltS (rs.map (·.2))) (κ := tuples' ((Value.type "str") != Value.type "tuple")) (Pc := fun h1 vs => its = vs) (fun R hR => ?_) (fun h1 vs hk hP => ?_) fun h1 vs h3 tk c p hP hk k1 hk1 hp hs hD hN => ?_
 ·exact collect_list pl.isList (hR _ s.toks its (fun b o e => (Heap.get?_update_other _ _ (Nat.ne_of_gt (Heap.lt_size e))).trans (Heap.get?_push_of_some _ e)) rfl) (YG (by omega))
 ·subst hP
  exact ⟨YG (by omega), hS hk⟩
 ·subst hP
  have hp' : Srt.Pm rs.length p := by rw [hl]; exact hp
  have vv : ∀ l : List Nat, (∀ i ∈ l, i < rs.length) → Vals ((l.map fun i => rs.getD i (0, "")).map fun r => V.ref r.1) (l.map fun i => its.getD i Value.none) := by
   intro l
   induction l with
   | nil => intro _; exact .nil
   | cons i l ih =>
    intro hh
    have hi : i < rs.length := hh i (List.mem_cons_self ..)
    refine .cons ?_ (ih fun j hj => hh j (List.mem_cons_of_mem _ hj))
    show its.getD i Value.none = Value.ref (rs.getD i (0, "")).1
    rw [List.getD_eq_getElem?_getD (l := its), iat i hi, List.getD_eq_getElem?_getD, List.getElem?_eq_getElem hi]
    rfl
  have hmem : ∀ i ∈ p.toList, i < rs.length := fun i hi => by
   have : i ∈ p := by simpa using hi
   have := hp'.perm.mem_iff.mp this
   simpa using this
  obtain ⟨hn, I2⟩ := ZbP (tk := tk) (vs := (p.toList.map fun i => rs.getD i (0, "")).map fun r => V.ref r.1) I hk hN (by rw [List.length_map, List.length_map, Array.length_toList, hp'.size]; exact YG h1k) ⟨_, c, vv p.toList hmem, hD⟩
  refine ⟨.ref h1.objs.size, _, I2, rfl, q _ _ hn (XA rs p hp') ?_⟩
  have hup := Zhs (n := rs.length) (by rw [List.length_map]) nd hp' (by rw [hl]; exact hs)
  rw [List.map_map, List.pairwise_map, List.pairwise_iff_getElem]
  intro i j hi hj hij
  have hz2 : p.toList.length = rs.length := by rw [Array.length_toList, hp'.size]
  have hu := hup i j hij (by omega)
  unfold ltX at hu
  rw [decide_eq_true_eq, Zc4 hp' hi, Zc4 hp' hj] at hu
  have ge : ∀ k, k < rs.length → (rs.map fun r => r.2).getD k ("" : Str) = (rs.getD k (0, "")).2 := fun k hk => by
   rw [List.getD_eq_getElem?_getD, List.getElem?_map, List.getElem?_eq_getElem hk, List.getD_eq_getElem?_getD, List.getElem?_eq_getElem hk]
   rfl
  rw [ge _ (hmem _ (List.getElem_mem hi)), ge _ (hmem _ (List.getElem_mem hj))] at hu
  exact hu
end L2
namespace L2
open PySem PySem.Spec PyProof.Rows
theorem Zd3 {t t' : SetTable} {hs : Array Int} {n : Nat} {od : Array Nat} (h : t.relaid hs n = some (t', od)) : t'.led = t.led ∧ t'.plain = t.plain := by
 unfold SetTable.relaid SetTable.laid at h
 cases e : SetTable.layClean (SetTable.sizeAbove n - 1) hs with
 | none => rw [e] at h; cases h
 | some ow =>
  rw [e] at h
  obtain ⟨h1, _⟩ := Prod.mk.inj (Option.some.inj h)
  rw [← h1]
  exact ⟨rfl, rfl⟩
theorem ZfI (t : SetTable) (es : Array (Int × Value)) (n : Nat) : (relayAll t es n).2.1.led = t.led ∧ (t.plain = false → (relayAll t es n).2.1.plain = false) := by
 unfold relayAll
 split
 ·rename_i t' od e
  obtain ⟨e1, e2⟩ := Zd3 e
  dsimp only
  split
  ·exact ⟨e1, fun h => by rw [e2]; exact h⟩
  ·exact ⟨rfl, fun _ => rfl⟩
 ·exact ⟨rfl, fun _ => rfl⟩
theorem Zi2 (t : SetTable) (es : Array (Int × Value)) (hh : Int) (x : Value) : (layNew t es hh x).2.1.led = t.led ∧ (t.plain = false → (layNew t es hh x).2.1.plain = false) := by
 unfold layNew
 split
 ·dsimp only
  unfold SetTable.orStandIn
  split
  ·exact ⟨rfl, fun h => h⟩
  ·exact ⟨rfl, fun _ => rfl⟩
 ·exact ⟨rfl, fun _ => rfl⟩
def byT (w : World) : Bool := w.params.followText "set-order"
structure StT (prog : Program) (w : World) (h : Heap) (a : Addr) (ks : List Str) (o : Obj) (es : Array (Int × Value)) (ep : Nat) (t : SetTable) : Prop where
 ob : h.get? a = some o
 ex : o.ExactSet
 dt : o.data = .set es ep t
 el : ElemsOf (Zp prog w) es.toList
 mem : ∀ k : Key, (∃ x, k = Sum.inr x ∧ x ∈ ks) ↔ ∃ e ∈ es.toList, (Zp prog w).is k e.2 = true
 len : es.size = ks.length
 nd : ks.Nodup
 fits : t.fits es.size = true
 led : t.led = !byT w
 plain : ks ≠ [] → t.plain = false
def SetT (prog : Program) (w : World) (h : Heap) (a : Addr) (ks : List Str) : Prop := ∃ o es ep t, StT prog w h a ks o es ep t
section
variable {prog : Program} {w : World} {A : Around} {E : Value → Shared → Prop} {s : Shared}
theorem SetT.keep {h h' : Heap} {a : Addr} {ks : List Str} (x : SetT prog w h a ks) (k : ∀ o, h.get? a = some o → h'.get? a = some o) : SetT prog w h' a ks := by
 obtain ⟨o, es, ep, t, q⟩ := x
 exact ⟨o, es, ep, t, { q with ob := k o q.ob }⟩
def Zdn (ks : List Str) (x : Str) : List Str := if x ∈ ks then ks else ks ++ [x]
theorem addS_mem {ks : List Str} {x y : Str} : y ∈ Zdn ks x ↔ y ∈ ks ∨ y = x := by
 unfold Zdn
 split
 ·rename_i c
  exact ⟨.inl, fun h => h.elim id fun e => e ▸ c⟩
 ·simp
theorem Zh6 {ks : List Str} {x : Str} (h : ks.Nodup) : (Zdn ks x).Nodup := by
 unfold Zdn
 split
 ·exact h
 ·rename_i c
  exact List.nodup_append.mpr ⟨h, by simp, fun a ha b hb e => by rw [List.mem_singleton.mp hb] at e; subst e; exact c ha⟩
theorem Zgu (ks : List Str) (x : Str) : (Zdn ks x).length ≤ ks.length + 1 := by
 unfold Zdn
 split <;> simp
theorem Zcl {h : Heap} {a : Addr} {o : Obj} {es es' : Array (Int × Value)} {ep : Nat} {t t' : SetTable} (ho : h.get? a = some o) (hd : o.data = .set es ep t) : (h.update a (Obj.putSet es' t')).get? a = some { o with data := .set es' (ep + 1) t' } := by
 have := Heap.get?_update_self (Obj.putSet es' t') ho (by rw [putSet_of es' t' hd]; rfl)
 rw [putSet_of es' t' hd] at this
 exact this
theorem Zci {gg : Bool → Sem Unit} (hgg : ∀ (b : Bool) (s₁ : Shared) (Q' : Unit → Shared → Prop), Q' () s₁ → wpAny (model prog w) A (gg b) Q' E s₁) {a : Addr} {o : Obj} {es es1 : Array (Int × Value)} {ep : Nat} {t t2 : SetTable} {ks : List Str} (ho : s.heap.get? a = some o) (hd : o.data = .set es ep t)
  (S : ∀ (h : Heap) (ob : Obj) (ep1 : Nat) (es2 : Array (Int × Value)) (t3 : SetTable), h.get? a = some ob → ob.ExactSet → ob.data = .set es2 ep1 t3 → List.Perm es2.toList es1.toList → t3.fits es2.size = true → t3.led = t2.led → (t2.plain = false → t3.plain = false) → SetT prog w h a ks) (hx : o.ExactSet) (hb : es1.size < scanBound) (hf : t2.fits es1.size = true) {wd : Bool} {R : Option Bool → Shared → Prop}
  (q : ∀ h1, Heap.SameBut a s.heap h1 → SetT prog w h1 a ks → R (some true) { s with heap := h1 }) :
  wpAny (model prog w) A (do
    storeSet a es1 t2
    if (!wd && t2.tooFull) = true then do
      gg (relayAll t2 es1 (SetTable.grown es1.size)).2.2
      storeSet a (relayAll t2 es1 (SetTable.grown es1.size)).1 (relayAll t2 es1 (SetTable.grown es1.size)).2.1
      pure (some true)
     else pure (some true)) R E s := by
 refine wpAny_bind (wpAny_storeSet_of ho hd ?_ (fits_of_scanBound hb))
 have o1 := Zcl (es' := es1) (t' := t2) ho hd
 have m1 := Heap.SameBut.update s.heap a (Obj.putSet es1 t2)
 split
 ·have p := relayAll_perm t2 es1 (SetTable.grown es1.size)
  have f := relayAll_fits t2 es1 (SetTable.grown es1.size)
  obtain ⟨l1, l2⟩ := ZfI t2 es1 (SetTable.grown es1.size)
  generalize relayAll t2 es1 (SetTable.grown es1.size) = rl at p f l1 l2 ⊢
  have sz : rl.1.size = es1.size := by rw [← Array.length_toList, p.length_eq, Array.length_toList]
  refine wpAny_bind (hgg _ _ _ (wpAny_bind (wpAny_storeSet_of o1 rfl ?_ (fits_of_scanBound (by rw [sz]; exact hb)))))
  exact wpAny_pure (q _ (m1.trans (Heap.SameBut.update _ a _)) (S _ _ _ rl.1 rl.2.1 (Zcl o1 rfl) hx rfl p f l1 l2))
 ·exact wpAny_pure (q _ m1 (S _ _ _ es1 t2 o1 hx rfl (List.Perm.refl _) hf rfl fun z => z))
theorem Zhk {a : Addr} {ks : List Str} {x : Str} {tk : Tok} {Q : Bool → Shared → Prop} (hS : SetT prog w s.heap a ks) (hroom : ks.length + 1 < scanBound)
  (q : ∀ (r : Bool) (h1 : Heap), Heap.SameBut a s.heap h1 → SetT prog w h1 a (Zdn ks x) → Q r { s with heap := h1 }) : wpAny (model prog w) A (setAddHashed a (.str x tk) ((Zp prog w).hash (Sum.inr x))) Q E s := by
 obtain ⟨o, es, ep, t, T⟩ := hS
 have hkey : (Zp prog w).is (Sum.inr x : Key) (.str x tk) = true := Xd prog w x tk
 have hb : es.size < scanBound := by rw [T.len]; omega
 unfold setAddHashed setAddHashedIn
 refine wpAny_holding (wpAny_bind (wpAny_setState_of T.ob T.dt T.fits ?_))
 dsimp only
 rw [byScan_of (knd := Zp prog w) rfl hb T.el]
 simp only [↓reduceIte]
 unfold setAddByScan
 refine wpAny_bind (wpAny_bind (wpAny_rule (wpAny_bind (wpAny_setScan_of hkey T.ob T.dt T.fits T.el ?_))))
 cases hr : List.findIdx? (fun e => (Zp prog w).is (Sum.inr x : Key) e.2) es.toList with
 | some j =>
  dsimp only
  obtain ⟨hj, hpj, _⟩ := List.findIdx?_eq_some_iff_getElem.mp hr
  obtain ⟨y, ey, hy⟩ := (T.mem (Sum.inr x)).mpr ⟨es.toList[j], List.getElem_mem hj, hpj⟩
  cases ey
  refine wpAny_pure (wpAny_pure ?_)
  have es0 : s = { s with heap := s.heap } := by cases s; rfl
  rw [es0]
  refine q _ s.heap (Heap.SameBut.refl a s.heap) ?_
  unfold Zdn
  rw [if_pos hy]
  exact ⟨o, es, ep, t, T⟩
 | none =>
  dsimp only
  have hx : x ∉ ks := fun hx => by
   obtain ⟨e, he, hp⟩ := (T.mem (Sum.inr x)).mp ⟨x, rfl, hx⟩
   have := List.findIdx?_eq_none_iff.mp hr e he
   rw [hp] at this
   cases this
  have perm := layNew_perm t es ((Zp prog w).hash (Sum.inr x)) (.str x tk)
  have fit := layNew_fits t es ((Zp prog w).hash (Sum.inr x)) (.str x tk)
  obtain ⟨l1, l2⟩ := Zi2 t es ((Zp prog w).hash (Sum.inr x)) (.str x tk)
  generalize layNew t es ((Zp prog w).hash (Sum.inr x)) (.str x tk) = L at perm fit l1 l2 ⊢
  obtain ⟨es1, t1, wd, gave⟩ := L
  dsimp only at perm fit l1 l2 ⊢
  rw [Array.toList_push] at perm
  have sz1 : es1.size = ks.length + 1 := by rw [← Array.length_toList, perm.length_eq, List.length_append, Array.length_toList, T.len]; rfl
  refine wpAny_bind ?_
  have hgw : ∀ (b : Bool) (s₁ : Shared) (Q' : Unit → Shared → Prop), Q' () s₁ → wpAny (model prog w) A (match b with | true => rule "set.scan.the-table-gave-way" | false => pure ()) Q' E s₁ := fun b s₁ Q' hq => by cases b <;> first | exact wpAny_pure hq | exact wpAny_rule hq
  refine hgw gave _ _ ?_
  have mk : ∀ (t2 : SetTable), t2.led = t1.led → t2.plain = false → ∀ (h : Heap) (ob : Obj) (ep1 : Nat) (es2 : Array (Int × Value)) (t3 : SetTable), h.get? a = some ob → ob.ExactSet → ob.data = .set es2 ep1 t3 → List.Perm es2.toList es1.toList → t3.fits es2.size = true → t3.led = t2.led → (t2.plain = false → t3.plain = false) → SetT prog w h a (Zdn ks x) := by
   intro t2 e1 e2 h ob ep1 es2 t3 c1 c2 c3 c4 c5 c6 c7
   have pp := c4.trans perm
   refine ⟨ob, es2, ep1, t3, c1, c2, c3, (T.el.push hkey rfl).perm pp, fun k => ?_, ?_, Zh6 T.nd, c5, by rw [c6, e1, l1, T.led], fun _ => c7 e2⟩
   ·constructor
    ·rintro ⟨y, rfl, hy⟩
     rcases addS_mem.mp hy with z | z
     ·obtain ⟨e, he, hp⟩ := (T.mem (Sum.inr y)).mp ⟨y, rfl, z⟩
      exact ⟨e, pp.mem_iff.mpr (List.mem_append_left _ he), hp⟩
     ·subst z
      exact ⟨_, pp.mem_iff.mpr (List.mem_append_right _ (List.mem_singleton.mpr rfl)), hkey⟩
    ·rintro ⟨e, he, hp⟩
     rcases List.mem_append.mp (pp.mem_iff.mp he) with z | z
     ·obtain ⟨y, ey, hy⟩ := (T.mem k).mpr ⟨e, z, hp⟩
      exact ⟨y, ey, addS_mem.mpr (.inl hy)⟩
     ·rw [List.mem_singleton.mp z] at hp
      exact ⟨x, (Zp prog w).inj _ _ _ hp hkey, addS_mem.mpr (.inr rfl)⟩
   ·rw [← Array.length_toList, c4.length_eq, Array.length_toList, sz1]
    unfold Zdn
    rw [if_neg hx, List.length_append]
    rfl
  split
  ·refine wpAny_bind ?_
   rw [hashByValue_scannable 8 (x := .str x tk) rfl]
   refine wpAny_pure ?_
   refine Zci (t2 := if plainKind (.str x tk) = true then t1 else { t1 with plain := false }) hgw T.ob T.dt (mk _ rfl rfl) T.ex (by rw [sz1]; exact hroom) (SetTable.fits_plain_off fit) fun h1 m hS' => ?_
   exact wpAny_pure (q _ h1 m hS')
  ·rename_i hpl
   refine wpAny_bind (wpAny_pure ?_)
   simp only [↓reduceIte]
   refine Zci hgw T.ob T.dt (mk t1 rfl (by simpa using hpl)) T.ex (by rw [sz1]; exact hroom) fit fun h1 m hS' => ?_
   exact wpAny_pure (q _ h1 m hS')
end
def met (val : Nat → Str) : Nat → List Str
 | 0 => []
 | i + 1 => Zdn (met val i) (val i)
theorem Zb1 (val : Nat → Str) : ∀ i, (met val i).length ≤ i
 | 0 => Nat.le_refl _
 | i + 1 => by
  have := Zgu (met val i) (val i)
  have := Zb1 val i
  show (Zdn _ _).length ≤ _
  omega
theorem ZeD (val : Nat → Str) : ∀ i x, x ∈ met val i ↔ ∃ j, j < i ∧ val j = x
 | 0, x => by simp [met]
 | i + 1, x => by
  show x ∈ Zdn _ _ ↔ _
  rw [addS_mem, ZeD val i x]
  constructor
  ·rintro (⟨j, hj, e⟩ | e)
   ·exact ⟨j, by omega, e⟩
   ·exact ⟨i, by omega, e.symm⟩
  ·rintro ⟨j, hj, e⟩
   by_cases c : j = i
   ·subst c; exact .inr e.symm
   ·exact .inl ⟨j, by omega, e⟩
section
variable {prog : Program} {w : World} {A : Around} {R : Result → Shared → Prop} {J : Addr} {fp wr : List Addr} {G : Array GenState → Array GenState → Prop} {n : Nat} {P : Nat → Value → Prop} {St : Nat → Shared → Prop}
theorem Zds (W : WalksS prog w A.in1 J fp wr G n P St) (S : Addr) (hSf : S ∉ fp) (val : Nat → Str) (hval : ∀ i v, P i v → ∃ t, v = .str (val i) t) (hb : n + 1 < scanBound) :
  ∀ (k i : Nat) (s : Shared), n - i = k → i ≤ n → St i s → SetT prog w s.heap S (met val i) → (∀ s', Moved (S :: wr) G s s' → SetT prog w s'.heap S (met val n) → R (.ok (.ret .none)) s') →
   codeAny (model prog w) A (.builtin "set.update.loop" ⟨[.ref S, .ref J], []⟩) R s := by
 have hSw : S ∉ wr := fun h => hSf (W.sub _ h)
 have hsub : ∀ b ∈ wr, b ∈ S :: wr := fun b hb => List.mem_cons_of_mem _ hb
 intro k
 induction k with
 | zero =>
  intro i s hk hi hst hS hR
  have hin : i = n := by omega
  subst hin
  refine codeAny_builtin PyProof.Rows.F.entry_set_update_loop ?_
  rw [Around.under_plainId PyProof.Rows.F.plain_set_update_loop _]
  refine (show wpAny _ A.in1 (pyNext (.ref J) >>= _) _ _ s from wpAny_bind (W.done s _ _ hst fun s1 mv => ?_))
  exact (show wpAny _ A.in1 (ret Value.none) _ _ s1 from wpAny_pure (hR s1 (mv.mono hsub) (hS.keep fun o e => mv.heap S o hSw e)))
 | succ k ih =>
  intro i s hk hi hst hS hR
  have hlt : i < n := by omega
  refine codeAny_builtin PyProof.Rows.F.entry_set_update_loop ?_
  rw [Around.under_plainId PyProof.Rows.F.plain_set_update_loop _]
  refine (show wpAny _ A.in1 (pyNext (.ref J) >>= _) _ _ s from wpAny_bind (W.item i s _ _ hlt hst fun v s1 hP hst1 mv => ?_))
  obtain ⟨t, rfl⟩ := hval i v hP
  have hS1 : SetT prog w s1.heap S (met val i) := hS.keep fun o e => mv.heap S o hSw e
  refine (show wpAny _ A.in1 (holding [Value.str (val i) t] (setAdd S (.str (val i) t)) >>= _) _ _ s1 from wpAny_bind (wpAny_holding ?_))
  unfold setAdd
  refine wpAny_holding (wpAny_bind ((Zp prog w).pyHash (k := (Sum.inr (val i) : Key)) (Xd prog w (val i) t) ?_))
  refine Zhk (s := { s1 with toks := s1.toks + 1 }) hS1 (by have := Zb1 val i; omega) fun r h1 sb hS2 => ?_
  refine wpAny_pure ⟨plainId_quiet PyProof.Rows.F.plain_set_update_loop _, ih (i + 1) _ (by omega) hlt (W.frame _ s1 _ _ hst1 (Nat.le_succ _) fun b hb o e => ?_) hS2 fun s2 mv2 hS3 => ?_⟩
  ·rw [sb.2 b (fun h : b = S => hSf (by rw [← h]; exact hb))]; exact e
  ·refine hR s2 (Moved.trans W.gtrans ((mv.mono hsub).then_heap (Nat.le_succ _) fun b o hb e => ?_) mv2) hS3
   rw [sb.2 b (fun h : b = S => hb (by rw [h]; exact List.mem_cons_self))]; exact e
end
section
variable {prog : Program} {w : World} {A : Around} {E : Value → Shared → Prop} {s : Shared}
theorem ZhA (a : Value) {Q1 : Value → Shared → Prop}
  (q : Q1 (.ref s.heap.objs.size) { s with heap := s.heap.push { cls := .type "set", dict := none, data := .set #[] 0 (.fresh 0 0 (!byT w)) } }) :
  codeAny (model prog w) A (.call (.builtin "set.__new__") ⟨[.type "set", a], []⟩) (wants Q1 E) s := by
 refine codeAny_of_tree ?_
 refine (show wpAny _ A.in1 (do checkBuiltinCall "set.__new__" ⟨[.type "set", a], []⟩; again (.builtin "set.__new__" ⟨[.type "set", a], []⟩)) _ _ s from wpAny_bind (wpAny_of_eq (PySem.F.newCall_set_1 a) (wpAny_pure ⟨plainId_quiet PySem.F.plain_set_new _, codeAny_builtin PySem.F.entry_set_new ?_⟩)))
 rw [Around.under_plainId PySem.F.plain_set_new _]
 unfold Builtin.«set.__new__» Builtin.Frozenset.newClass
 have hsub := sub_set_self
 obtain ⟨hp, gg, dd, tk, os⟩ := s
 dsimp only
 wp_walk
 refine wpAny_askSetting (wpAny_pure ?_)
 dsimp only
 simp only [newObj]
 exact wpAny_bind (wpAny_alloc (wpAny_pure (wpAny_pure q)))
theorem ZeW {h : Heap} {a : Addr} (e : h.get? a = some { cls := .type "set", dict := none, data := .set #[] 0 (.fresh 0 0 (!byT w)) }) : SetT prog w h a [] :=
 ⟨_, #[], 0, _, e, ⟨rfl, rfl, rfl⟩, rfl, fun e he => by simp at he, fun k => by simp, rfl, List.nodup_nil, by rfl, rfl, fun z => absurd rfl z⟩
theorem Ze9 {l : Addr} {items : Array Value} {ss : List Str} {Q : Value → Shared → Prop} (hh : A.handled = none) (hl : s.heap.IsList l items) (hi : StrsAre items.toList ss) (hb : items.size + 1 < scanBound)
  (q : ∀ (h1 : Heap) (tk : Nat), SetT prog w h1 s.heap.objs.size (met (fun i => ss.getD i "") items.size) → (∀ b o, s.heap.get? b = some o → h1.get? b = some o) → Q (.ref s.heap.objs.size) { s with heap := h1, toks := tk }) :
  wpAny (model prog w) A (call (.type "set") [.ref l]) Q E s := by
 obtain ⟨c, tl, hmro⟩ := PySem.F.called_set.mro
 have hmade := PySem.F.called_set.made
 have hsub := PySem.F.called_set.sub
 refine wpAny_call (codeAny_of_tree ?_)
 refine (show wpAny _ _ (callAny (.type "set") _) _ _ _ from wpAny_pure ⟨Code.quiet_builtin _ (by decide +kernel), codeAny_builtin PySem.F.entry_type_call ?_⟩)
 rw [Around.under_plain (weight_type_call_type "set" [.ref l] []) rfl]
 have h1 := PySem.F.called_set.notType
 have h2 := PySem.F.called_set.canCreate
 have hct := PySem.F.typeCall_set_1 (.ref l)
 repeat (any_goals (first | assumption | wp_step))
 refine codeAny_mono (ZhA (.ref l) (E := E) (Q1 := fun obj s1 => obj = .ref s.heap.objs.size ∧ s1 = { s with heap := s.heap.push { cls := .type "set", dict := none, data := .set #[] 0 (.fresh 0 0 (!byT w)) } }) ⟨rfl, rfl⟩) fun r s1 hr => ?_
 cases r with
 | error e => exact hr
 | ok fl =>
  cases fl with
  | ret obj =>
   obtain ⟨rfl, rfl⟩ := hr
   have gS : (s.heap.push { cls := .type "set", dict := none, data := .set #[] 0 (.fresh 0 0 (!byT w)) }).get? s.heap.objs.size = some { cls := .type "set", dict := none, data := .set #[] 0 (.fresh 0 0 (!byT w)) } := Heap.get?_push_size _ rfl
   have hT : Shared.TypeIs { s with heap := s.heap.push { cls := .type "set", dict := none, data := .set #[] 0 (.fresh 0 0 (!byT w)) } } (.ref s.heap.objs.size) "set" := ⟨_, gS, rfl⟩
   have hli := PySem.F.called_set.init.lookup
   have hbi := PySem.F.called_set.init.bind (.ref s.heap.objs.size)
   repeat (any_goals (first | assumption | wp_step))
   refine codeAny_mono (codeAny_call_builtin (R := wants (fun r s2 => r = .none ∧ ∃ g tk, s2 = { s with heap := g, toks := tk } ∧ SetT prog w g s.heap.objs.size (met (fun i => ss.getD i "") items.size) ∧ (∀ b o, s.heap.get? b = some o → g.get? b = some o)) E) PySem.F.called_set.init.plain PySem.F.entry_set_init (check_set_init_1 hT ?_)) fun r2 s2 hr2 => ?_
   ·obtain ⟨ol, hol, hcl, nl, hdl⟩ := hl
    obtain ⟨ocls, odict, odata, oslots⟩ := ol
    simp only at hcl hdl
    subst hcl; subst hdl
    have hol' : (s.heap.push { cls := .type "set", dict := none, data := .set #[] 0 (.fresh 0 0 (!byT w)) }).get? l = some { cls := .type "list", dict := odict, data := .seq items nl, slots := oslots } := Heap.get?_push_of_some _ hol
    have hsls := PySem.F.sub_list_set
    have hslf := PySem.F.sub_list_frozenset
    have hne : (Value.type "list" == Value.type "dict") = false := by decide
    have hl1 : (s.heap.push { cls := .type "set", dict := none, data := .set #[] 0 (.fresh 0 0 (!byT w)) }).IsList l items := ⟨_, hol', rfl, nl, rfl⟩
    unfold Builtin.«set.__init__» noKeywords Builtin.Frozenset.updateFrom
    generalize hPI : pyIter = PI
    wp_walk
    subst hPI
    refine wpAny_pyIter_list hl1 (wpAny_bind (wpAny_runValue ?_))
    have hlS : l < s.heap.objs.size := Heap.lt_size hol
    have hh3 : A.in1.in1.in1.handled = none := by simp [hh]
    have hneI : l ≠ (s.heap.push { cls := .type "set", dict := none, data := .set #[] 0 (.fresh 0 0 (!byT w)) }).objs.size := by
     rw [Heap.size_push]; exact Nat.ne_of_lt (Nat.lt_succ_of_lt hlS)
    have hSf : s.heap.objs.size ∉ [(s.heap.push { cls := .type "set", dict := none, data := .set #[] 0 (.fresh 0 0 (!byT w)) }).objs.size, l] := by
     rw [Heap.size_push]; simp only [List.mem_cons, List.not_mem_nil, or_false, not_or]
     exact ⟨Nat.ne_of_lt (Nat.lt_succ_self _), Nat.ne_of_gt hlS⟩
    have hval : ∀ (i : Nat) (v : Value), items[i]? = some v → ∃ t, v = .str ((fun i => ss.getD i "") i) t := fun i v hv => by
     obtain ⟨t, e, _⟩ := Tim.strs_at hi i v (by rw [Array.getElem?_toList]; exact hv)
     exact ⟨t, e⟩
    refine Zds ((Walks.list hh3 _ l hneI items).toS) s.heap.objs.size hSf (fun i => ss.getD i "") hval hb (items.size - 0) 0 _ (by omega) (Nat.zero_le _)
     ⟨⟨_, Heap.get?_push_size _ rfl, rfl, rfl⟩, (hl1.push _)⟩ (ZeW (Heap.get?_push_of_some _ gS)) ?_
    intro s3 mv hS3
    obtain ⟨h3, g3, d3, t3, o3⟩ := s3
    have eg : g3 = s.gens := mv.gens
    have ed : d3 = s.drawn := mv.drawn
    have eo : o3 = s.os := mv.os
    subst eg; subst ed; subst eo
    refine wpAny_pure (show wpAny _ _ (ret Value.none) _ _ _ from wpAny_pure ⟨rfl, h3, t3, rfl, hS3, fun b o e => ?_⟩)
    have hb0 : b < s.heap.objs.size := Heap.lt_size e
    have hb2 : b ≠ (s.heap.push { cls := .type "set", dict := none, data := .set #[] 0 (.fresh 0 0 (!byT w)) }).objs.size := by
     rw [Heap.size_push]; exact Nat.ne_of_lt (Nat.lt_succ_of_lt hb0)
    exact mv.heap b o (by simp only [List.mem_cons, List.not_mem_nil, or_false, not_or]; exact ⟨Nat.ne_of_lt hb0, hb2⟩) (Heap.get?_push_of_some _ (Heap.get?_push_of_some _ e))
   ·cases r2 with
    | error e => exact hr2
    | ok fl2 =>
     cases fl2 with
     | ret r =>
      obtain ⟨rfl, g, tk, rfl, hS', hk'⟩ := hr2
      repeat (any_goals (first | assumption | wp_step))
      exact q _ _ hS' hk'
     | _ => exact hr2
  | _ => exact hr
end
theorem si_slot : Slot "set_iterator" "__next__" "set_iterator.__next__" :=
 .of (owner := "set_iterator") (n := "__next__") (by rw [typeLookup_type, builtinLookup_eq_fast]; kernel_rfl) (by decide +kernel) (by decide +kernel) (by decide +kernel) (by first | exact .inl (by decide +kernel) | exact .inr (by decide +kernel)) (by rw [isSubtype_type]; kernel_rfl)
theorem YY : entryFor table "set_iterator.__next__" = some Builtin.«set_iterator.__next__» := entryFor_of_fast (by kernel_rfl)
theorem Xx (a : Value) : argsOk "set_iterator.__next__" ⟨[a], []⟩ := by unfold argsOk; kernel_rfl
theorem Zft : entryFor table "set.__iter__" = some Builtin.«frozenset.__iter__» :=
 entryFor_alias (id' := "frozenset.__iter__") (by kernel_rfl) (by first | rfl | decide +kernel | (unfold String.splitOn; simp +decide [String.splitOnAux])) (by decide +kernel) (by kernel_rfl)
theorem JZ {α : Type} {l : List α} {i : Nat} (h : i < l.length) : (l[i] :: l.eraseIdx i).Perm l := by
 rw [List.eraseIdx_eq_take_drop_succ]
 have e : l = l.take i ++ l[i] :: l.drop (i + 1) := by rw [← List.drop_eq_getElem_cons h, List.take_append_drop]
 conv => rhs; rw [e]
 exact List.perm_middle.symm
theorem Zeb {α : Type} (next : Nat → Nat) : ∀ (f k : Nat) (left : List α) (out : Array α), left.length ≤ f → (pickOrder.go next f k left out).toList.Perm (out.toList ++ left)
 | 0, k, left, out, h => by
  have : left = [] := List.length_eq_zero_iff.mp (by omega)
  subst this
  unfold pickOrder.go
  simp
 | f + 1, k, [], out, h => by
  unfold pickOrder.go
  simp
 | f + 1, k, x :: left, out, h => by
  unfold pickOrder.go
  have hi : next k % (x :: left).length < (x :: left).length := Nat.mod_lt _ (by simp)
  rw [List.getElem?_eq_getElem hi]
  dsimp only
  refine (Zeb next f (k + 1) _ _ ?_).trans ?_
  ·rw [List.length_eraseIdx, if_pos hi]
   simp at h ⊢
   omega
  ·rw [Array.toList_push, List.append_assoc]
   exact List.Perm.append_left _ (JZ hi)
theorem Jb {α : Type} (next : Nat → Nat) (xs : Array α) : (pickOrder next xs).toList.Perm xs.toList := by
 unfold pickOrder
 have := Zeb next xs.size 0 xs.toList #[] (by simp)
 simpa using this
abbrev ZaS (h : Heap) (J : Addr) (f : Value) (i : Nat) (a : Addr) (n ep : Nat) : Prop := h.get? J = some { cls := .type "set_iterator", dict := none, data := .fields #[f, .int i 0, .ref a, .int n 0, .int ep 0], slots := #[] }
section
variable {prog : Program} {w : World} {A : Around} {E : Value → Shared → Prop} {s : Shared}
theorem ZaT {src : Source} {n : Nat} {Q : Nat → Shared → Prop} (hn : n ≠ 0) (h : ∀ i d, i < n → Q i { s with drawn := d }) : wpAny (model prog w) A (choose src n) Q E s :=
 fun _ _ _ => ⟨hn, h _ _ (Nat.mod_lt _ (Nat.pos_of_ne_zero hn))⟩
theorem Zbq {α : Type} : ∀ (n : Nat) (xs : List α) (s : Shared) {Q : List α → Shared → Prop}, xs.length ≤ n → (∀ ys d, ys.Perm xs → Q ys { s with drawn := d }) → wpAny (model prog w) A (drawOrder n xs) Q E s
 | 0, xs, s, Q, hl, h => by
  have : xs = [] := List.length_eq_zero_iff.mp (by omega)
  subst this
  unfold drawOrder
  exact wpAny_pure (h [] s.drawn (List.Perm.refl _))
 | n + 1, [], s, Q, hl, h => by
  unfold drawOrder
  exact wpAny_pure (h [] s.drawn (List.Perm.refl _))
 | n + 1, x :: xs, s, Q, hl, h => by
  unfold drawOrder
  refine wpAny_bind (ZaT (by simp) fun i d hi => ?_)
  rw [List.getElem?_eq_getElem hi]
  dsimp only
  refine wpAny_bind (Zbq n ((x :: xs).eraseIdx i) { s with drawn := d } ?_ fun ys d2 hp => wpAny_pure (h _ d2 ?_))
  ·rw [List.length_eraseIdx]
   split <;> simp at * <;> omega
  ·exact (hp.cons _).trans (JZ hi)
structure SeesS (h : Heap) (a : Addr) (o : Obj) (es : Array (Int × Value)) (ep : Nat) (t : SetTable) (n : Nat) : Prop where
 ob : h.get? a = some o
 dt : o.data = .set es ep t
 fits : t.fits es.size = true
 len : es.size = n
theorem Yg {a : Addr} {o : Obj} {es : Array (Int × Value)} {ep n : Nat} {t : SetTable} {Q : (Array (Int × Value) × Nat × SetTable) → Shared → Prop} (V : SeesS s.heap a o es ep t n) (q : Q (es, ep, t) s) : wpAny (model prog w) A (setState a) Q E s := wpAny_setState_of V.ob V.dt V.fits q
theorem Yw {J a : Addr} {f : Value} {i n ep : Nat} {o : Obj} {es : Array (Int × Value)} {t : SetTable} {Q : PySem.Fin → Shared → Prop} (hJ : ZaS s.heap J f i a n ep) (V : SeesS s.heap a o es ep t n)
  (q : wpAny (model prog w) A (if let .int slot _ := f then (do
    match ← setNext a slot.toNat (i : Int).toNat (ep : Int).toNat with
    | some (x, next) =>
     setField (.ref J) 0 (rawInt next)
     setField (.ref J) 1 (rawInt ((i : Int) + 1))
     ret x
    | none => setField (.ref J) 2 .none; raiseNew (← newExc (.type "StopIteration") []))
   else (do
    let some places ← seqItems? f | unsupported "internal:set_iterator"
    match places[(i : Int).toNat]? with
    | some (.int place _) =>
     let x ← setNextDrawn a place.toNat (ep : Int).toNat
     setField (.ref J) 1 (rawInt ((i : Int) + 1))
     ret x
    | some _ => unsupported "internal:set_iterator"
    | none => setField (.ref J) 0 (rawInt 0); setField (.ref J) 2 .none; raiseNew (← newExc (.type "StopIteration") []))) Q E s) :
  wpAny (model prog w) A (Builtin.«set_iterator.__next__» ⟨[.ref J], []⟩) Q E s := by
 refine (show wpAny _ _ (fieldsOf (.ref J) >>= _) _ _ s from wpAny_bind (wpAny_fieldsOf hJ rfl ?_))
 dsimp only
 refine wpAny_bind (wpAny_setEntries_of V.ob V.dt V.fits ?_)
 rw [if_neg (by rw [V.len]; simp)]
 exact q
theorem Xw {J : Addr} {Q : PySem.Fin → Shared → Prop} {g0 : Heap} (hh : A.handled = none)
  (q : ∀ g e, (∀ c o, g0.get? c = some o → g.get? c = some o) → (∃ o, g.get? e = some o ∧ o.cls = .type "StopIteration") → E (.ref e) { s with heap := g }) :
  wpAny (model prog w) A (do raiseNew (← newExc (.type "StopIteration") [])) Q E { s with heap := g0 } := by
 refine wpAny_bind ?_
 simp only [newExc, newTuple]
 refine wpAny_bind (wpAny_newObj_type (wpAny_bind (m := firstArgMember _ _) (wpAny_of_eq (a := Value.none) (by first | rfl | (simp only [firstArgMember]; rfl)) (wpAny_newObj_type ?_ (by size_fits)))) (by size_fits))
 simp only [raiseNew]
 refine wpAny_bind (wpAny_handled ?_)
 first | rw [show A.in1.handled = none from hh] | rw [hh]
 exact wpAny_bind (wpAny_pure (wpAny_throw (q _ _ (fun c o e => Heap.get?_push_of_some _ (Heap.get?_push_of_some _ e)) ⟨_, Heap.get?_push_size _ rfl, rfl⟩)))
theorem ZfB {J T a : Addr} {i n ep p m : Nat} {o oT : Obj} {es : Array (Int × Value)} {t : SetTable} {pl : Array Value} {hx : Int} {x : Value} {Q : Value → Shared → Prop} (hJ : ZaS s.heap J (.ref T) i a n ep) (V : SeesS s.heap a o es ep t n)
  (gT : s.heap.get? T = some oT) (dT : oT.data = .seq pl m) (hp : pl[i]? = some (.int p 0)) (hx : es[p]? = some (hx, x)) (q : ∀ g, ZaS g J (.ref T) (i + 1) a n ep → Heap.SameBut J s.heap g → Q x { s with heap := g }) :
  wpAny (model prog w) A (Builtin.«set_iterator.__next__» ⟨[.ref J], []⟩) (fun fin s' => ∃ v, fin = .done (.ret v) ∧ Q v s') E s := by
 refine Yw hJ V ?_
 dsimp only
 refine wpAny_bind (wpAny_seqItems gT dT ?_)
 simp only [Int.toNat_natCast, hp]
 unfold setNextDrawn
 refine wpAny_bind (wpAny_bind (Yg V ?_))
 dsimp only
 rw [if_neg (by simp), hx]
 refine wpAny_pure (wpAny_bind (wpAny_setField_rec hJ (by simp) fun g hg sb => wpAny_pure ⟨x, rfl, q g ?_ sb⟩))
 have e : ((i + 1 : Nat) : Int) = (i : Int) + 1 := by push_cast; rfl
 unfold ZaS
 rw [e]
 exact hg
theorem Zhj {J T a : Addr} {i n ep m : Nat} {o oT : Obj} {es : Array (Int × Value)} {t : SetTable} {pl : Array Value} {Q : PySem.Fin → Shared → Prop} (hh : A.handled = none) (hJ : ZaS s.heap J (.ref T) i a n ep) (V : SeesS s.heap a o es ep t n)
  (gT : s.heap.get? T = some oT) (dT : oT.data = .seq pl m) (hp : pl[i]? = none) (q : ∀ g e, (∀ c o, c ≠ J → s.heap.get? c = some o → g.get? c = some o) → (∃ o, g.get? e = some o ∧ o.cls = .type "StopIteration") → E (.ref e) { s with heap := g }) :
  wpAny (model prog w) A (Builtin.«set_iterator.__next__» ⟨[.ref J], []⟩) Q E s := by
 refine Yw hJ V ?_
 dsimp only
 refine wpAny_bind (wpAny_seqItems gT dT ?_)
 simp only [Int.toNat_natCast, hp]
 refine wpAny_bind (wpAny_setField_rec hJ (by simp) fun g1 hg1 sb1 => wpAny_bind (wpAny_setField_rec hg1 (by simp) fun g2 hg2 sb2 => ?_))
 exact Xw (J := J) hh fun g e k he => q g e (fun c o hc z => k c o (sb2.extBut _ _ hc (sb1.extBut _ _ hc z))) he
theorem Zfz {J a : Addr} {i n ep : Nat} {o : Obj} {es : Array (Int × Value)} {t : SetTable} {hx : Int} {x : Value} {Q : Value → Shared → Prop} (hb : byT w = true) (hJ : ZaS s.heap J (.int 0 0) i a n ep) (V : SeesS s.heap a o es ep t n)
  (hp : (pickOrder (w.params.setOrder a ep) es)[i]? = some (hx, x)) (q : ∀ g, ZaS g J (.int 0 0) (i + 1) a n ep → Heap.SameBut J s.heap g → Q x { s with heap := g }) :
  wpAny (model prog w) A (Builtin.«set_iterator.__next__» ⟨[.ref J], []⟩) (fun fin s' => ∃ v, fin = .done (.ret v) ∧ Q v s') E s := by
 refine Yw hJ V ?_
 dsimp only
 refine wpAny_bind ?_
 unfold setNext setsByText
 refine wpAny_bind (Yg V ?_)
 dsimp only
 refine wpAny_bind (wpAny_bind (wpAny_askSetting (wpAny_pure ?_)))
 dsimp only
 rw [if_pos (show (model prog w).w.params.followText "set-order" = true from hb), if_neg (by simp)]
 unfold setWalk setsByText
 refine wpAny_bind (wpAny_bind (Yg V ?_))
 dsimp only
 refine wpAny_bind (wpAny_bind (wpAny_askSetting (wpAny_pure ?_)))
 dsimp only
 rw [if_pos (show (model prog w).w.params.followText "set-order" = true from hb)]
 refine wpAny_bind (wpAny_askSetting (wpAny_pure (wpAny_pure ?_)))
 have hp' : (pickOrder ((model prog w).w.params.setOrder a ep) es)[i]? = some (hx, x) := hp
 simp only [Int.toNat_natCast, hp', Option.map_some]
 refine wpAny_bind (wpAny_setField_rec hJ (by simp) fun g1 hg1 sb1 => wpAny_bind (wpAny_setField_rec hg1 (by simp) fun g2 hg2 sb2 => wpAny_pure ⟨x, rfl, q g2 ?_ (sb1.trans sb2)⟩))
 have e : ((i + 1 : Nat) : Int) = (i : Int) + 1 := by push_cast; rfl
 unfold ZaS
 rw [e]
 exact hg2
theorem Zhh {J a : Addr} {i n ep : Nat} {o : Obj} {es : Array (Int × Value)} {t : SetTable} {Q : PySem.Fin → Shared → Prop} (hh : A.handled = none) (hb : byT w = true) (hJ : ZaS s.heap J (.int 0 0) i a n ep) (V : SeesS s.heap a o es ep t n)
  (hp : (pickOrder (w.params.setOrder a ep) es)[i]? = none) (q : ∀ g e, (∀ c o, c ≠ J → s.heap.get? c = some o → g.get? c = some o) → (∃ o, g.get? e = some o ∧ o.cls = .type "StopIteration") → E (.ref e) { s with heap := g }) :
  wpAny (model prog w) A (Builtin.«set_iterator.__next__» ⟨[.ref J], []⟩) Q E s := by
 refine Yw hJ V ?_
 dsimp only
 refine wpAny_bind ?_
 unfold setNext setsByText
 refine wpAny_bind (Yg V ?_)
 dsimp only
 refine wpAny_bind (wpAny_bind (wpAny_askSetting (wpAny_pure ?_)))
 dsimp only
 rw [if_pos (show (model prog w).w.params.followText "set-order" = true from hb), if_neg (by simp)]
 unfold setWalk setsByText
 refine wpAny_bind (wpAny_bind (Yg V ?_))
 dsimp only
 refine wpAny_bind (wpAny_bind (wpAny_askSetting (wpAny_pure ?_)))
 dsimp only
 rw [if_pos (show (model prog w).w.params.followText "set-order" = true from hb)]
 refine wpAny_bind (wpAny_askSetting (wpAny_pure (wpAny_pure ?_)))
 have hp' : (pickOrder ((model prog w).w.params.setOrder a ep) es)[i]? = none := hp
 simp only [Int.toNat_natCast, hp', Option.map_none]
 refine wpAny_bind (wpAny_setField_rec hJ (by simp) fun g1 hg1 sb1 => ?_)
 exact Xw (J := J) hh fun g e k he => q g e (fun c o hc z => k c o (sb1.extBut _ _ hc z)) he
theorem JO {a : Addr} {sl i n ep : Nat} {o : Obj} {es : Array (Int × Value)} {t : SetTable} {Q : Option (Value × Nat) → Shared → Prop} (hb : byT w = false) (V : SeesS s.heap a o es ep t n) (hn : n ≤ 1) (led : t.led = true)
  (q : Q (match es[SetTable.below t.place sl]?, t.place[SetTable.below t.place sl]? with
   | some (_, x), some j => some (x, j + 1)
   | _, _ => none) s) : wpAny (model prog w) A (setNext a sl i ep) Q E s := by
 unfold setNext setsByText
 refine wpAny_bind (Yg V ?_)
 dsimp only
 refine wpAny_bind (wpAny_bind (wpAny_askSetting (wpAny_pure ?_)))
 dsimp only
 rw [if_neg (by rw [show (model prog w).w.params.followText "set-order" = false from hb]; decide)]
 refine (show wpAny (model prog w) A (if (!t.plain && decide (es.size > 1)) = true then _ else _) Q E s from ?_)
 rw [if_neg (by rw [V.len]; simp; omega)]
 refine (show wpAny (model prog w) A ((if (!t.led && !es.isEmpty) = true then unsupported "set:maker-not-led" else pure ()) >>= fun _ => _) Q E s from ?_)
 rw [led]
 simp only [Bool.not_true, Bool.false_and, Bool.false_eq_true, if_false]
 exact wpAny_bind (wpAny_pure (wpAny_pure q))
theorem ZfA {J a : Addr} {ep j : Nat} {o : Obj} {es : Array (Int × Value)} {t : SetTable} {hx : Int} {x : Value} {Q : Value → Shared → Prop} (hb : byT w = false) (led : t.led = true) (hJ : ZaS s.heap J (.int 0 0) 0 a 1 ep) (V : SeesS s.heap a o es ep t 1)
  (hj : t.place = #[j]) (hp : es[0]? = some (hx, x)) (q : ∀ g, ZaS g J (.int ((j + 1 : Nat) : Int) 0) 1 a 1 ep → Heap.SameBut J s.heap g → Q x { s with heap := g }) :
  wpAny (model prog w) A (Builtin.«set_iterator.__next__» ⟨[.ref J], []⟩) (fun fin s' => ∃ v, fin = .done (.ret v) ∧ Q v s') E s := by
 refine Yw hJ V ?_
 dsimp only
 refine wpAny_bind (JO hb V (Nat.le_refl _) led ?_)
 have hbw : SetTable.below t.place (0 : Int).toNat = 0 := by rw [hj]; rfl
 rw [hbw, hp, hj]
 refine wpAny_bind (wpAny_setField_rec hJ (by simp) fun g1 hg1 sb1 => wpAny_bind (wpAny_setField_rec hg1 (by simp) fun g2 hg2 sb2 => wpAny_pure ⟨x, rfl, q g2 hg2 (sb1.trans sb2)⟩))
theorem Zhi {J a : Addr} {sl i n ep : Nat} {o : Obj} {es : Array (Int × Value)} {t : SetTable} {Q : PySem.Fin → Shared → Prop} (hh : A.handled = none) (hb : byT w = false) (led : t.led = true) (hJ : ZaS s.heap J (.int (sl : Int) 0) i a n ep) (V : SeesS s.heap a o es ep t n) (hn : n ≤ 1)
  (hp : es[SetTable.below t.place sl]? = none) (q : ∀ g e, (∀ c o, c ≠ J → s.heap.get? c = some o → g.get? c = some o) → (∃ o, g.get? e = some o ∧ o.cls = .type "StopIteration") → E (.ref e) { s with heap := g }) :
  wpAny (model prog w) A (Builtin.«set_iterator.__next__» ⟨[.ref J], []⟩) Q E s := by
 refine Yw hJ V ?_
 dsimp only
 refine wpAny_bind (JO hb V hn led ?_)
 rw [Int.toNat_natCast, hp]
 refine wpAny_bind (wpAny_setField_rec hJ (by simp) fun g1 hg1 sb1 => ?_)
 exact Xw (J := J) hh fun g e k he => q g e (fun c o hc z => k c o (sb1.extBut _ _ hc z)) he
end
theorem SeesS.keep {h h' : Heap} {a : Addr} {o : Obj} {es : Array (Int × Value)} {ep n : Nat} {t : SetTable} (V : SeesS h a o es ep t n) (k : ∀ o, h.get? a = some o → h'.get? a = some o) : SeesS h' a o es ep t n := { V with ob := k o V.ob }
theorem ZdP : Slot "set_iterator" "__iter__" "set_iterator.__iter__" :=
 .of (owner := "set_iterator") (n := "__iter__") (by rw [typeLookup_type, builtinLookup_eq_fast]; kernel_rfl) (by decide +kernel) (by decide +kernel) (by decide +kernel) (by first | exact .inl (by decide +kernel) | exact .inr (by decide +kernel)) (by rw [isSubtype_type]; kernel_rfl)
theorem Zfx : entryFor table "set_iterator.__iter__" = some Builtin.«dict_keyiterator.__iter__» :=
 entryFor_alias (id' := "dict_keyiterator.__iter__") (by kernel_rfl) (by first | rfl | decide +kernel | (unfold String.splitOn; simp +decide [String.splitOnAux])) (by decide +kernel) (by kernel_rfl)
theorem Zfy (a : Value) : argsOk "set_iterator.__iter__" ⟨[a], []⟩ := by unfold argsOk; kernel_rfl
theorem ZbH {prog : Program} {w : World} {A : Around} {E : Value → Shared → Prop} {s : Shared} {J a : Addr} {f : Value} {i n ep : Nat} {Q : Value → Shared → Prop} (hJ : ZaS s.heap J f i a n ep) (h : Q (.ref J) s) : wpAny (model prog w) A (pyIter (.ref J)) Q E s := by
 refine wpAny_pyIter_slot ⟨_, hJ, rfl⟩ ZdP (wpAny_call_entry ZdP ⟨_, hJ, rfl⟩ Zfx ?_ (Zfy _))
 exact (show wpAny _ _ (ret (.ref J)) _ _ s from wpAny_pure ⟨_, rfl, "set_iterator", _, ⟨_, hJ, rfl⟩, si_slot.lookup, h⟩)
section
variable {prog : Program} {w : World} {A : Around} {E : Value → Shared → Prop} {s : Shared}
abbrev ZgJ (ord : Array (Int × Value)) (i : Nat) (v : Value) : Prop := ∃ e, ord[i]? = some e ∧ v = e.2
theorem ZjD (hh : A.handled = none) {J T a : Addr} {n ep : Nat} {o : Obj} {es : Array (Int × Value)} {t : SetTable} {ps : List Nat} (hJT : T ≠ J) (hJa : a ≠ J) (hps : ps.length = n) (hlt : ∀ p ∈ ps, p < es.size) :
  Walks prog w A J [J, T, a] [J] n (ZgJ (ps.map fun p => es.getD p (0, .none)).toArray) (fun i h => ZaS h J (.ref T) i a n ep ∧ (∃ oT m, h.get? T = some oT ∧ oT.data = .seq (ps.map fun p : Nat => Value.int (p : Int) 0).toArray m) ∧ SeesS h a o es ep t n) where
 sub := fun b hb => by rw [List.mem_singleton.mp hb]; simp
 frame := fun i h h' ⟨s1, ⟨oT, m, g, d⟩, s3⟩ k => ⟨k J (by simp) _ s1, ⟨oT, m, k T (by simp) _ g, d⟩, s3.keep fun o e => k a (by simp) o e⟩
 item := fun i s Q E hi ⟨s1, ⟨oT, m, g, d⟩, s3⟩ q => by
  have hi' : i < ps.length := by omega
  have hp : (ps.map fun p : Nat => Value.int (p : Int) 0).toArray[i]? = some (.int (ps[i] : Nat) 0) := by simp [hi']
  have hpe : ps[i] < es.size := hlt _ (List.getElem_mem hi')
  have hx : es[ps[i]]? = some (es[ps[i]].1, es[ps[i]].2) := by rw [Array.getElem?_eq_getElem hpe]
  unfold pyNext
  refine wpAny_bind (wpAny_attempt (wpAny_callSpecial?_slot (name := Str.ofString "__next__") ⟨_, s1, rfl⟩ si_slot (wpAny_call_entry si_slot ⟨_, s1, rfl⟩ YY (ZfB s1 s3 g d hp hx fun g1 h1 sb => wpAny_pure (q _ g1 s.toks ?_ ?_ ?_)) (Xx _))))
  ·refine ⟨es[ps[i]], ?_, rfl⟩
   simp [hi', hpe]
  ·exact ⟨h1, ⟨oT, m, sb.extBut _ _ hJT g, d⟩, s3.keep fun o e => sb.extBut _ _ hJa e⟩
  ·exact fun b o hb e => sb.extBut _ _ (fun z => hb (by simp [z])) e
 done := fun s Q E ⟨s1, ⟨oT, m, g, d⟩, s3⟩ q => by
  unfold pyNext
  refine wpAny_bind (wpAny_attempt (wpAny_callSpecial?_slot (name := Str.ofString "__next__") ⟨_, s1, rfl⟩ si_slot (wpAny_call_entry si_slot ⟨_, s1, rfl⟩ YY (Zhj hh s1 s3 g d (by simp [hps]) fun g1 e k ⟨oe, ge, ce⟩ => ?_) (Xx _))))
  exact wpAny_bind (wpAny_isInstance (T := "StopIteration") (b := true) ⟨oe, ge, ce⟩ isSubtype_stop (wpAny_pure (q g1 s.toks fun b o hb z => k b o (fun y => hb (by simp [y])) z)))
 self := fun i s Q E ⟨s1, _⟩ q => ZbH s1 q
theorem ZjB (hh : A.handled = none) (hb : byT w = true) {J a : Addr} {n ep : Nat} {o : Obj} {es : Array (Int × Value)} {t : SetTable} (hJa : a ≠ J) (hn : es.size = n) :
  Walks prog w A J [J, a] [J] n (ZgJ (pickOrder (w.params.setOrder a ep) es)) (fun i h => ZaS h J (.int 0 0) i a n ep ∧ SeesS h a o es ep t n) where
 sub := fun b hb => by rw [List.mem_singleton.mp hb]; simp
 frame := fun i h h' ⟨s1, s3⟩ k => ⟨k J (by simp) _ s1, s3.keep fun o e => k a (by simp) o e⟩
 item := fun i s Q E hi ⟨s1, s3⟩ q => by
  have hsz : (pickOrder (w.params.setOrder a ep) es).size = n := by rw [← Array.length_toList, (Jb _ es).length_eq, Array.length_toList, hn]
  have hx : (pickOrder (w.params.setOrder a ep) es)[i]? = some ((pickOrder (w.params.setOrder a ep) es)[i]'(by omega)) := Array.getElem?_eq_getElem (by omega)
  unfold pyNext
  refine wpAny_bind (wpAny_attempt (wpAny_callSpecial?_slot (name := Str.ofString "__next__") ⟨_, s1, rfl⟩ si_slot (wpAny_call_entry si_slot ⟨_, s1, rfl⟩ YY (Zfz hb s1 s3 hx fun g1 h1 sb => wpAny_pure (q _ g1 s.toks ⟨_, hx, rfl⟩ ⟨h1, s3.keep fun o e => sb.extBut _ _ hJa e⟩ fun b o hb e => sb.extBut _ _ (fun z => hb (by simp [z])) e)) (Xx _))))
 done := fun s Q E ⟨s1, s3⟩ q => by
  have hsz : (pickOrder (w.params.setOrder a ep) es).size = n := by rw [← Array.length_toList, (Jb _ es).length_eq, Array.length_toList, hn]
  unfold pyNext
  refine wpAny_bind (wpAny_attempt (wpAny_callSpecial?_slot (name := Str.ofString "__next__") ⟨_, s1, rfl⟩ si_slot (wpAny_call_entry si_slot ⟨_, s1, rfl⟩ YY (Zhh hh hb s1 s3 (Array.getElem?_eq_none (by omega)) fun g1 e k ⟨oe, ge, ce⟩ => ?_) (Xx _))))
  exact wpAny_bind (wpAny_isInstance (T := "StopIteration") (b := true) ⟨oe, ge, ce⟩ isSubtype_stop (wpAny_pure (q g1 s.toks fun b o hb z => k b o (fun y => hb (by simp [y])) z)))
 self := fun i s Q E ⟨s1, _⟩ q => ZbH s1 q
theorem ZjC (hh : A.handled = none) (hb : byT w = false) {J a : Addr} {n ep : Nat} {o : Obj} {es : Array (Int × Value)} {t : SetTable} (hJa : a ≠ J) (hn : es.size = n) (h1 : n ≤ 1) (led : t.led = true) (hf : t.fits es.size = true) :
  Walks prog w A J [J, a] [J] n (ZgJ es) (fun i h => (∃ sl : Nat, ZaS h J (.int (sl : Int) 0) i a n ep ∧ (i < n → sl = 0) ∧ (i = n → es[SetTable.below t.place sl]? = none)) ∧ SeesS h a o es ep t n) where
 sub := fun b hb => by rw [List.mem_singleton.mp hb]; simp
 frame := fun i h h' ⟨⟨sl, s1, s2⟩, s3⟩ k => ⟨⟨sl, k J (by simp) _ s1, s2⟩, s3.keep fun o e => k a (by simp) o e⟩
 item := fun i s Q E hi ⟨⟨sl, s1, s2, _⟩, s3⟩ q => by
  have hn1 : n = 1 := by omega
  have hi0 : i = 0 := by omega
  subst hi0
  have hsl := s2 hi
  subst hsl
  subst hn1
  have hpz : t.place.size = 1 := by
   simp only [SetTable.fits, Bool.and_eq_true, beq_iff_eq] at hf
   omega
  obtain ⟨j, hj⟩ : ∃ j, t.place = #[j] := by
   generalize t.place = pl at hpz
   obtain ⟨l⟩ := pl
   match l, hpz with
   | [j], _ => exact ⟨j, rfl⟩
  have hx : es[0]? = some es[0] := Array.getElem?_eq_getElem (by omega)
  unfold pyNext
  refine wpAny_bind (wpAny_attempt (wpAny_callSpecial?_slot (name := Str.ofString "__next__") ⟨_, s1, rfl⟩ si_slot (wpAny_call_entry si_slot ⟨_, s1, rfl⟩ YY (ZfA hb led s1 s3 hj hx fun g1 hg1 sb => wpAny_pure (q _ g1 s.toks ⟨_, hx, rfl⟩ ⟨⟨j + 1, hg1, fun z => absurd z (by omega), fun _ => ?_⟩, s3.keep fun o e => sb.extBut _ _ hJa e⟩ fun b o hb e => sb.extBut _ _ (fun z => hb (by simp [z])) e)) (Xx _))))
  have hbw : SetTable.below t.place (j + 1) = 1 := by
   rw [hj]
   unfold SetTable.below
   show SetTable.below.go #[j] (j + 1) 1 0 1 = 1
   unfold SetTable.below.go
   rw [if_pos (by omega)]
   dsimp only
   rw [if_pos (by simp)]
   rfl
  rw [hbw]
  exact Array.getElem?_eq_none (by omega)
 done := fun s Q E ⟨⟨sl, s1, _, s2⟩, s3⟩ q => by
  unfold pyNext
  refine wpAny_bind (wpAny_attempt (wpAny_callSpecial?_slot (name := Str.ofString "__next__") ⟨_, s1, rfl⟩ si_slot (wpAny_call_entry si_slot ⟨_, s1, rfl⟩ YY (Zhi hh hb led s1 s3 h1 (s2 rfl) fun g1 e k ⟨oe, ge, ce⟩ => ?_) (Xx _))))
  exact wpAny_bind (wpAny_isInstance (T := "StopIteration") (b := true) ⟨oe, ge, ce⟩ isSubtype_stop (wpAny_pure (q g1 s.toks fun b o hb z => k b o (fun y => hb (by simp [y])) z)))
 self := fun i s Q E ⟨⟨sl, s1, _⟩, _⟩ q => ZbH s1 q
end
end L2
namespace L2
open PySem PySem.Spec PyProof.Rows PySem.W
section
variable {prog : Program} {w : World} {A : Around} {E : Value → Shared → Prop} {s : Shared}
theorem Zc2 {es : Array (Int × Value)} {ps : List Nat} (h : ps.Perm (List.range es.size)) : (ps.map fun p => es.getD p (0, .none)).Perm es.toList := by
 have h1 := h.map fun p => es.getD p (0, .none)
 have h2 : ((List.range es.size).map fun p => es.getD p (0, .none)) = es.toList := by
  apply List.ext_getElem?
  intro i
  rw [List.getElem?_map]
  by_cases hi : i < es.size
  ·rw [List.getElem?_range hi, Array.getElem?_toList, Array.getElem?_eq_getElem hi]
   simp [hi]
  ·rw [List.getElem?_eq_none (by simp; omega), List.getElem?_eq_none (by simp; omega)]
   rfl
 rw [h2] at h1
 exact h1
theorem Zf7 {A' : Around} {a : Addr} {ks : List Str} {o : Obj} {es : Array (Int × Value)} {ep : Nat} {t : SetTable} {Q : Value → Shared → Prop} (hh : A'.handled = none) (S : StT prog w s.heap a ks o es ep t) (hz : ks.length ≤ 1000)
  (q : ∀ (J : Addr) (h1 : Heap) (d : Drawn) (ord : Array (Int × Value)) (fp : List Addr) (St : Nat → Heap → Prop), ord.toList.Perm es.toList → Walks prog w A' J fp [J] ks.length (ZgJ ord) St → St 0 h1 → (∀ b ∈ fp, b = a ∨ s.heap.objs.size ≤ b) → s.heap.objs.size ≤ J →
   (∀ b u, s.heap.get? b = some u → h1.get? b = some u) → Q (.ref J) { s with heap := h1, drawn := d }) : wpAny (model prog w) A (pyIter (.ref a)) Q E s := by
 have hT : s.TypeIs (.ref a) "set" := ⟨o, S.ob, S.ex.1⟩
 have V : SeesS s.heap a o es ep t ks.length := ⟨S.ob, S.dt, S.fits, S.len⟩
 have ha : a < s.heap.objs.size := Heap.lt_size S.ob
 have es0 : s = { s with heap := s.heap, drawn := s.drawn } := by cases s; rfl
 refine wpAny_pyIter_slot hT PySem.F.slot_set_iter (wpAny_call_entry PySem.F.slot_set_iter hT Zft ?_ (PySem.F.args_set_iter_1 _))
 unfold Builtin.«frozenset.__iter__»
 refine (show wpAny _ _ (Builtin.Frozenset.sizeOf a >>= _) _ _ s from wpAny_bind ?_)
 unfold Builtin.Frozenset.sizeOf
 refine wpAny_bind (wpAny_setEntries_of V.ob V.dt V.fits (wpAny_pure ?_))
 dsimp only
 unfold setDrawn setsByText
 refine wpAny_bind (wpAny_bind (Yg V ?_))
 dsimp only
 refine wpAny_bind (wpAny_bind (wpAny_askSetting (wpAny_pure (wpAny_pure ?_))))
 have lift1 : ∀ (x : Bool) (h : x = (!byT w && (!t.plain && decide (es.size > 1)))), x = (!(model prog w).w.params.followText "set-order" && (!t.plain && decide (es.size > 1))) := fun x h => h
 by_cases c : (!byT w && (!t.plain && decide (es.size > 1))) = true
 ·refine (show wpAny (model prog w) _ (if (!byT w && (!t.plain && decide (es.size > 1))) = true then _ else _) _ _ s from ?_)
  rw [if_pos c]
  refine wpAny_bind (Zbq es.size (List.range es.size) s (by simp) fun ps d hp => ?_)
  have hpl : ps.length = ks.length := by rw [hp.length_eq, List.length_range, S.len]
  refine wpAny_bind (wpAny_newTuple ?_ (by rw [List.length_map]; exact YG (by omega)))
  have V1 : SeesS (s.heap.push { cls := .type "tuple", data := .seq (ps.map fun i : Nat => rawInt i).toArray }) a o es ep t ks.length := V.keep fun o e => Heap.get?_push_of_some _ e
  refine wpAny_bind ?_
  unfold setEpoch
  refine wpAny_bind (Yg (s := { s with heap := s.heap.push { cls := .type "tuple", data := .seq (ps.map fun i : Nat => rawInt i).toArray }, drawn := d }) V1 (wpAny_pure ?_))
  refine wpAny_bind (wpAny_newObj_type (wpAny_pure ⟨_, rfl, "set_iterator", _, ⟨_, Heap.get?_push_size _ rfl, rfl⟩, si_slot.lookup, ?_⟩))
  have hsz : (s.heap.push { cls := .type "tuple", data := .seq (ps.map fun i : Nat => rawInt i).toArray }).objs.size = s.heap.objs.size + 1 := Heap.size_push ..
  refine q _ _ d (ps.map fun p => es.getD p (0, .none)).toArray [_, s.heap.objs.size, a] _ (Zc2 hp) (ZjD hh (T := s.heap.objs.size) (a := a) (ep := ep) (o := o) (es := es) (t := t) (by rw [hsz]; exact Nat.ne_of_lt (Nat.lt_succ_self _)) (by rw [hsz]; exact Nat.ne_of_lt (Nat.lt_succ_of_lt ha)) hpl fun p hpm => List.mem_range.mp (hp.mem_iff.mp hpm)) ⟨?_, ⟨_, _, Heap.get?_push_of_some _ (Heap.get?_push_size _ rfl), rfl⟩, V1.keep fun o e => Heap.get?_push_of_some _ e⟩ ?_ (by rw [hsz]; exact Nat.le_succ _) fun b u e => Heap.get?_push_of_some _ (Heap.get?_push_of_some _ e)
  ·unfold ZaS
   rw [Heap.get?_push_size _ rfl, S.len]
   rfl
  ·intro b hb
   rcases List.mem_cons.mp hb with z | z
   ·rw [z, hsz]; exact .inr (Nat.le_succ _)
   ·rcases List.mem_cons.mp z with z | z
    ·rw [z]; exact .inr (Nat.le_refl _)
    ·exact .inl (List.mem_singleton.mp z)
 ·refine (show wpAny (model prog w) _ (if (!byT w && (!t.plain && decide (es.size > 1))) = true then _ else _) _ _ s from ?_)
  rw [if_neg c]
  refine wpAny_bind (wpAny_pure (wpAny_bind ?_))
  unfold setEpoch
  refine wpAny_bind (Yg V (wpAny_pure ?_))
  refine wpAny_bind (wpAny_newObj_type (wpAny_pure ⟨_, rfl, "set_iterator", _, ⟨_, Heap.get?_push_size _ rfl, rfl⟩, si_slot.lookup, ?_⟩))
  have fpk : ∀ b ∈ [s.heap.objs.size, a], b = a ∨ s.heap.objs.size ≤ b := fun b hb => by
   rcases List.mem_cons.mp hb with z | z
   ·rw [z]; exact .inr (Nat.le_refl _)
   ·exact .inl (List.mem_singleton.mp z)
  have gJ : ZaS (s.heap.push { cls := .type "set_iterator", data := .fields #[rawInt 0, rawInt 0, .ref a, rawInt es.size, rawInt ep] }) s.heap.objs.size (.int 0 0) 0 a ks.length ep := by
   unfold ZaS
   rw [Heap.get?_push_size _ rfl, S.len]
   rfl
  by_cases hb : byT w = true
  ·exact q _ _ s.drawn _ [s.heap.objs.size, a] _ (Jb _ es) (ZjB hh hb (o := o) (t := t) (Nat.ne_of_lt ha) S.len) ⟨gJ, V.keep fun o e => Heap.get?_push_of_some _ e⟩ fpk (Nat.le_refl _) fun b u e => Heap.get?_push_of_some _ e
  ·have hb' : byT w = false := by simpa using hb
   have led : t.led = true := by rw [S.led, hb']; rfl
   have h1 : ks.length ≤ 1 := by
    rcases Nat.lt_or_ge 1 ks.length with z | z
    ·have hpf := S.plain (fun e => by rw [e] at z; simp at z)
     exact absurd (by rw [hb', hpf, S.len]; simp; omega) c
    ·exact z
   refine q _ _ s.drawn es [s.heap.objs.size, a] _ (List.Perm.refl _) (ZjC hh hb' (o := o) (t := t) (ep := ep) (Nat.ne_of_lt ha) S.len h1 led S.fits) ⟨⟨0, gJ, fun _ => rfl, fun z => ?_⟩, V.keep fun o e => Heap.get?_push_of_some _ e⟩ fpk (Nat.le_refl _) fun b u e => Heap.get?_push_of_some _ e
   have : es.size = 0 := by rw [S.len]; exact z.symm
   exact Array.getElem?_eq_none (by omega)
end
theorem Zev : ∀ {ks xs : List Str}, ks.Nodup → (∀ x ∈ ks, x ∈ xs) → xs.length = ks.length → xs.Perm ks
 | [], xs, _, _, hl => by rw [List.length_eq_zero_iff.mp hl]
 | k :: ks, xs, nd, hs, hl => by
  have nd' := List.nodup_cons.mp nd
  have hk := hs k (List.mem_cons_self ..)
  have p := List.perm_cons_erase hk
  refine p.trans (List.Perm.cons k (Zev nd'.2 (fun x hx => ?_) ?_))
  ·have hne : x ≠ k := fun e => nd'.1 (e ▸ hx)
   exact (List.mem_erase_of_ne hne).mpr (hs x (List.mem_cons_of_mem _ hx))
  ·rw [List.length_erase_of_mem hk, hl]
   rfl
section
variable {prog : Program} {w : World} {A : Around} {E : Value → Shared → Prop} {s : Shared}
theorem Zf9 {r : Addr} {Q : Bool → Shared → Prop} (hT : s.TypeIs (.ref r) "set") (q : Q false s) : wpAny (model prog w) A (Builtin.List.listLengthHint (.ref r)) Q E s := by
 unfold Builtin.List.listLengthHint
 refine wpAny_bind (wpAny_specialOf hT PySem.F.slot_set_len.lookup ?_)
 generalize hid : ("set.__len__" : String) = nm
 wp_delta
 rw [show splitId nm = some ("set", "__len__") from by subst hid; decide +kernel]
 subst hid
 refine wpAny_bind (wpAny_isInstance (T := "set") (b := true) hT (by rw [isSubtype_type]; kernel_rfl) ?_)
 refine wpAny_ite_split (fun z => absurd z (by decide)) fun _ => wpAny_ite_split (fun _ => ?_) fun z => absurd (by decide +kernel) z
 exact wpAny_bind (wpAny_typeOf hT (wpAny_pure q))
theorem Zdj {R : Result → Shared → Prop} {a S : Addr} {ks : List Str} {o : Obj} {es : Array (Int × Value)} {ep : Nat} {t : SetTable} {c₀ : Nat} {res : Value} (hh : A.handled = none) (T : StT prog w s.heap a ks o es ep t) (hz : ks.length ≤ 1000) (hSa : S ≠ a) (hS : s.heap.get? S = some { cls := .type "list", data := .seq #[] c₀ })
  (q : ∀ h1 tk d acc c (ord : Array (Int × Value)), ord.toList.Perm es.toList → (∀ b u, b ≠ S → s.heap.get? b = some u → h1.get? b = some u) → h1.get? S = some { cls := .type "list", dict := none, data := .seq acc c, slots := #[] } → ItemsOf (ZgJ ord) acc ks.length → R (.ok (.ret res)) { s with heap := h1, toks := tk, drawn := d }) :
  wpAny (model prog w) A.in1 (Builtin.List.listExtendWith (.ref S) (.ref a) res) (fun fin s' => match fin with | .done f => R (.ok f) s' | .again c' => c'.quiet = true ∧ codeAny (model prog w) A c' R s') (fun e s' => R (.error e) s') s := by
 have hT : s.TypeIs (.ref a) "set" := ⟨o, T.ob, T.ex.1⟩
 have hSl : S < s.heap.objs.size := Heap.lt_size hS
 unfold Builtin.List.listExtendWith
 refine wpAny_bind (wpAny_typeOf (T := "set") hT ?_)
 have h1 : Builtin.List.listSameRef (.ref S) (.ref a) = false := by simp [Builtin.List.listSameRef, hSa]
 have n1 : (Value.type "set" == Value.type "list") = false := by decide
 have n2 : (Value.type "set" == Value.type "tuple") = false := by decide
 simp only [h1, n1, n2, Bool.or_false, Bool.false_eq_true, if_false]
 refine wpAny_bind (Zf7 (A' := A.in1) hh T hz fun J g d ord fp St hp W st hfp hJ kk => ?_)
 have gS := kk _ _ hS
 have nf : S ∉ fp := fun z => by
  rcases hfp S z with y | y
  ·exact hSa y
  ·exact absurd hSl (Nat.not_lt.mpr y)
 have key : ∀ (h : Heap) (c₁ tk : Nat), St 0 h → (∀ b u, b ≠ S → s.heap.get? b = some u → h.get? b = some u) → h.get? S = some { cls := .type "list", data := .seq #[] c₁ } → codeAny (model prog w) A (.builtin "list.extend.loop" ⟨[.ref S, .ref J, res], []⟩) R { s with heap := h, toks := tk, drawn := d } := by
  intro h c₁ tk hst hk hS₁
  refine codeAny_extend_loopS W.toS (YG hz) S nf res ks.length 0 _ #[] c₁ rfl (Nat.zero_le _) hst hS₁ (ItemsOf.nil _) fun s2 acc c mv hS2 hacc => ?_
  rw [Moved.eq_with mv]
  refine q s2.heap s2.toks d acc c ord hp (fun b u hb e => mv.heap b u (fun z => ?_) (hk b u hb e)) hS2 hacc
  rcases List.mem_cons.mp z with y | y
  ·exact hb y
  ·exact absurd (Heap.lt_size e) (by rw [List.mem_singleton.mp y]; exact Nat.not_lt.mpr hJ)
 refine wpAny_bind (wpAny_holding (Zf9 (s := { s with heap := g, drawn := d }) ⟨o, kk _ _ T.ob, T.ex.1⟩ ?_))
 refine wpAny_ite_split (fun _ => ?_) (fun _ => wpAny_pure ⟨plainId_quiet PySem.F.plain_extend_loop _, key _ c₀ _ st (fun b u _ e => kk b u e) gS⟩)
 refine wpAny_bind (wpAny_rule (wpAny_bind ?_))
 refine (show wpAny _ _ (updateSeq S (·.push .none) >>= fun _ => updateSeq S (·.pop)) _ _ _ from wpAny_bind (wpAny_updateSeq gS rfl ?_))
 have g2 := Heap.get?_update_self (Obj.mapSeq (·.push Value.none)) gS rfl
 refine wpAny_updateSeq (hz := by seq_fits) g2 rfl ?_
 have g3 := Heap.get?_update_self (Obj.mapSeq (·.pop)) g2 rfl
 refine wpAny_pure ⟨plainId_quiet PySem.F.plain_extend_loop _, key _ _ _ (W.frame 0 _ _ st fun b hb u e => ?_) (fun b u hb e => ?_) g3⟩
 ·have ne : b ≠ S := fun z => nf (z ▸ hb)
  exact (Heap.get?_update_other _ _ (Ne.symm ne)).trans ((Heap.get?_update_other _ _ (Ne.symm ne)).trans e)
 ·exact (Heap.get?_update_other _ _ (Ne.symm hb)).trans ((Heap.get?_update_other _ _ (Ne.symm hb)).trans (kk _ _ e))
theorem Zcb {R : List Value → Shared → Prop} {a : Addr} {ks : List Str} {o : Obj} {es : Array (Int × Value)} {ep : Nat} {t : SetTable} (hh : A.handled = none) (T : StT prog w s.heap a ks o es ep t) (hz : ks.length ≤ 1000)
  (q : ∀ h1 tk d (acc : Array Value) (ord : Array (Int × Value)), ord.toList.Perm es.toList → (∀ b u, s.heap.get? b = some u → h1.get? b = some u) → ItemsOf (ZgJ ord) acc ks.length → R acc.toList { s with heap := h1, toks := tk, drawn := d }) :
  wpAny (model prog w) A (collect (.ref a)) R E s := by
 have ha : a < s.heap.objs.size := Heap.lt_size T.ob
 unfold collect
 refine wpAny_bind (wpAny_runValue (codeAny_builtin entry_proto_collect' ?_))
 rw [Around.under_plainId PySem.F.plain_proto_collect _]
 refine (show wpAny _ A.in1 (newList [] >>= fun l => again (.builtin "list.__iadd__" ⟨[l, .ref a], []⟩)) _ _ s from wpAny_bind (wpAny_newObj_type (wpAny_pure ⟨plainId_quiet PySem.F.plain_list_iadd _, codeAny_builtin entry_list_iadd' ?_⟩)))
 rw [Around.under_plainId PySem.F.plain_list_iadd _]
 have gS : (s.heap.push { cls := .type "list", data := .seq ([] : List Value).toArray }).get? s.heap.objs.size = some { cls := .type "list", data := .seq #[] } := Heap.get?_push_size _ rfl
 show wpAny _ A.in1 (Builtin.List.listExtendWith (.ref s.heap.objs.size) (.ref a) (.ref s.heap.objs.size)) _ _ _
 have T1 : StT prog w (s.heap.push { cls := .type "list", data := .seq ([] : List Value).toArray }) a ks o es ep t := { T with ob := Heap.get?_push_of_some _ T.ob }
 have key := Zdj (A := A) (s := { s with heap := s.heap.push { cls := .type "list", data := .seq ([] : List Value).toArray } })
  (R := fun (z : Result) (s' : Shared) => ∃ (g : Heap) (tk : Nat) (d : Drawn) (acc : Array Value) (c : Nat) (ord : Array (Int × Value)), z = .ok (.ret (.ref s.heap.objs.size)) ∧ s' = { s with heap := g, toks := tk, drawn := d } ∧ ord.toList.Perm es.toList ∧
   (∀ b u, s.heap.get? b = some u → g.get? b = some u) ∧ g.get? s.heap.objs.size = some { cls := .type "list", dict := none, data := .seq acc c, slots := #[] } ∧ ItemsOf (ZgJ ord) acc ks.length)
  (S := s.heap.objs.size) (res := .ref s.heap.objs.size) (c₀ := 0) hh T1 hz (Nat.ne_of_gt ha) gS (fun g tk d acc c ord hp kk gS2 hacc => ⟨g, tk, d, acc, c, ord, rfl, rfl, hp, fun b u e => kk b u (Nat.ne_of_lt (Heap.lt_size e)) (Heap.get?_push_of_some _ e), gS2, hacc⟩)
 refine wpAny_mono key (fun fin s' x => ?_) fun e s' x => ?_
 ·cases fin with
  | done f =>
   obtain ⟨g, tk, d, acc, c, ord, e, rfl, hp, kk, gS2, hacc⟩ := x
   cases e
   exact (show wpAny _ A (load s.heap.objs.size >>= _) _ _ _ from wpAny_bind (wpAny_load gS2 (wpAny_pure (q g tk d acc ord hp kk hacc))))
  | again c1 =>
   refine ⟨x.1, codeAny_mono x.2 fun z s2 y => ?_⟩
   obtain ⟨g, tk, d, acc, c, ord, rfl, rfl, hp, kk, gS2, hacc⟩ := y
   exact (show wpAny _ A (load s.heap.objs.size >>= _) _ _ _ from wpAny_bind (wpAny_load gS2 (wpAny_pure (q g tk d acc ord hp kk hacc))))
 ·obtain ⟨_, _, _, _, _, _, z, _⟩ := x
  cases z
theorem ZdQ {h : Heap} {a : Addr} {ks : List Str} {o : Obj} {es : Array (Int × Value)} {ep : Nat} {t : SetTable} (T : StT prog w h a ks o es ep t) {ord : Array (Int × Value)} (hp : ord.toList.Perm es.toList) {acc : Array Value} (hacc : ItemsOf (ZgJ ord) acc ks.length) :
  ∃ xs : List Str, xs.Perm ks ∧ StrsAre acc.toList xs := by
 have hol : ord.toList.length = ks.length := by rw [hp.length_eq, Array.length_toList, T.len]
 have el : ∀ e ∈ ord.toList, ∃ x tk, e.2 = .str x tk ∧ x ∈ ks := fun e he => by
  have hm := hp.mem_iff.mp he
  obtain ⟨⟨k, hk, _⟩, _⟩ := T.el e hm
  obtain ⟨x, ek, hx⟩ := (T.mem k).mpr ⟨e, hm, hk⟩
  subst ek
  rcases keyIs_shape (show Jk (Sum.inr x) e.2 = true from hk) with ⟨j, t, e4, _⟩ | ⟨z, t, e4, e5⟩
  ·cases e4
  ·injection e4 with e4
   exact ⟨x, t, by rw [e5, e4], hx⟩
 have key : ∀ (l : List (Int × Value)), (∀ e ∈ l, ∃ x tk, e.2 = .str x tk ∧ x ∈ ks) → ∃ xs : List Str, StrsAre (l.map (·.2)) xs ∧ (∀ x ∈ xs, x ∈ ks) ∧ xs.length = l.length ∧ ∀ x, (∃ e ∈ l, Jk (Sum.inr x) e.2 = true) → x ∈ xs := by
  intro l
  induction l with
  | nil => exact fun _ => ⟨[], .nil, (fun x hx => by cases hx), rfl, (fun x ⟨e, he, _⟩ => by cases he)⟩
  | cons e l ih =>
   intro hl
   obtain ⟨xs, h1, h2, h3, h4⟩ := ih fun e he => hl e (List.mem_cons_of_mem _ he)
   obtain ⟨x, tk, ex, hx⟩ := hl e (List.mem_cons_self ..)
   refine ⟨x :: xs, ?_, fun y hy => ?_, by simp [h3], fun y ⟨e', he', hk⟩ => ?_⟩
   ·rw [List.map_cons, ex]
    exact .cons x tk h1
   ·rcases List.mem_cons.mp hy with z | z
    ·rw [z]; exact hx
    ·exact h2 y z
   ·rcases List.mem_cons.mp he' with z | z
    ·subst z
     rw [ex] at hk
     rcases keyIs_shape hk with ⟨j, t, e4, _⟩ | ⟨z, t, e4, e5⟩
     ·cases e4
     ·injection e4 with e4
      injection e5 with e5 _
      rw [e4, ← e5]
      exact List.mem_cons_self ..
    ·exact List.mem_cons_of_mem _ (h4 y ⟨e', z, hk⟩)
 obtain ⟨xs, h1, h2, h3, h4⟩ := key ord.toList el
 have hsub : ∀ x ∈ ks, x ∈ xs := fun x hx => by
  obtain ⟨e, he, hk⟩ := (T.mem (Sum.inr x)).mp ⟨x, rfl, hx⟩
  exact h4 x ⟨e, hp.mem_iff.mpr he, hk⟩
 refine ⟨xs, ?_, ?_⟩
 ·exact Zev T.nd hsub (by omega)
 ·have : acc.toList = ord.toList.map (·.2) := by
   apply List.ext_getElem?
   intro i
   by_cases hi : i < acc.toList.length
   ·obtain ⟨e, e1, e2⟩ := hacc.2 i acc.toList[i] (by rw [← Array.getElem?_toList]; exact List.getElem?_eq_getElem hi)
    rw [List.getElem?_eq_getElem hi, List.getElem?_map, Array.getElem?_toList, e1, e2]
    rfl
   ·have hl := hacc.1
    rw [← Array.length_toList] at hl
    rw [List.getElem?_eq_none (by omega), List.getElem?_eq_none (by rw [List.length_map]; omega)]
  rw [this]
  exact h1
end
section
variable {X : Cx} {pins : List (Addr × Obj)} {σ : St} {H : Hp} {s : Shared}
theorem Inv.drw (I : Inv X pins σ H s) (d : Drawn) : Inv X pins σ H { s with drawn := d } := by
 refine I.step (h' := s.heap) (t' := s.toks) (g' := s.gens) (d' := d) (ch := []) (fun b hb => by cases hb) (fun b u _ _ _ e _ => e) (fun b u _ _ _ e _ => ⟨u.slots, e⟩) (fun b u _ e n => n) (fun b u _ e => ⟨u, e⟩) (fun b xs e => e) (fun b u xs e => e) (fun b ps e => ⟨#[], by rw [e]; simp⟩) (fun m hm => hm) I.hok I.bare
end
def stO (X : Cx) (p : Addr) (ks : List Str) : HO := .ext fun h => SetT X.prog X.w h p ks
theorem Zfa {X : Cx} (hc : X.calm = true) : CallR X (.type "set") (fun xs H Q => ∃ (a : Addr) (ss : List Str), xs = [.ref a] ∧ SqL X.K H a (ss.map V.str) ∧ ss.length ≤ 1000 ∧
  ∀ (p : Addr) (ks : List Str), H p = none → ks.Nodup → (∀ x, x ∈ ks ↔ x ∈ ss) → ks.length ≤ ss.length → Q (.ref p) (upd H p (stO X p ks))) := by
 intro pins s σ H xs us Q I r h
 obtain ⟨a, ss, rfl, hq, h1k, q⟩ := h
 obtain ⟨u, rfl, ru⟩ := Xt r
 cases ru
 obtain ⟨its, rv, pl, hz⟩ := I.list hq
 have hl := rv.length
 rw [List.length_map] at hl
 refine Ze9 (I.ok.hd hc) pl.isList (by simpa using Xv rv) (by rw [List.size_toArray]; show its.length + 1 < 4096; omega) fun h1 tk hS kk => ?_
 have ez : its.toArray.size = ss.length := by rw [List.size_toArray, hl]
 rw [ez] at hS
 have hn : H s.heap.objs.size = none := I.hok.fresh (Nat.le_refl _)
 obtain ⟨o, es, ep, t, T⟩ := id hS
 refine ⟨.ref s.heap.objs.size, _, I.laid (t' := tk) (o := stO X s.heap.objs.size _) kk (Nat.le_refl _) ⟨hS, ⟨o, T.ob⟩, fun g1 g2 z k => z.keep k⟩, rfl, q _ _ hn T.nd (fun x => ?_) (Zb1 _ _)⟩
 rw [ZeD]
 constructor
 ·rintro ⟨j, hj, e⟩
  rw [← e, List.getD_eq_getElem?_getD, List.getElem?_eq_getElem hj]
  exact List.getElem_mem hj
 ·intro hx
  obtain ⟨j, hj, e⟩ := List.getElem_of_mem hx
  exact ⟨j, hj, by rw [List.getD_eq_getElem?_getD, List.getElem?_eq_getElem hj]; exact e⟩
theorem JI {X : Cx} (hc : X.calm = true) : CallR X (.builtin "sorted") (fun xs H Q => ∃ (p : Addr) (ks : List Str), xs = [.ref p] ∧ H p = some (stO X p ks) ∧ ks.length ≤ 1000 ∧
  ∀ (q : Addr) (ss : List Str), H q = none → ss.Perm ks → (ss.map fun x => x.cps.toList).Pairwise (· < ·) → Q (.ref q) (upd H q (.lst (ss.map V.str)))) := by
 intro pins s σ H xs us Q I r h
 obtain ⟨p, ks, rfl, hp, h1k, q⟩ := h
 obtain ⟨u, rfl, ru⟩ := Xt r
 cases ru
 obtain ⟨⟨o, es, ep, t, T⟩, _, _⟩ := (show SetT X.prog X.w s.heap p ks ∧ _ from I.hok p _ hp)
 refine Calls.call_function_entry kind_sorted plain_sorted entry_sorted (args_sorted1 _) ?_
 unfold Builtin.«sorted»
 refine wpAny_bind (m := checkCount "sorted" 1 1 _) (wpAny_pure (wpAny_bind (Zcb (A := X.A.in1) (I.ok.hd hc) T h1k fun h1 tk d acc ord hpm kk hacc => ?_)))
 obtain ⟨ys, hys, hS⟩ := ZdQ T hpm hacc
 have hl := Tim.strs_len hS
 have hyl := hys.length_eq
 generalize acc.toList = vs at hS hl
 have SA : Tim.SortAs X.prog X.w h1 vs (Tim.ltS ys) oneType' := Tim.sa_strs hS
 refine wpAny_bind (wpAny_newList ?_ (YG (by omega)))
 have hB : (h1.push { cls := .type "list", data := .seq vs.toArray }).get? h1.objs.size = some (seqObj "list" vs.toArray 0) := Heap.get?_push_size _ rfl
 have k1 : ∀ {h6 : Heap}, (∀ b o, b ≠ h1.objs.size → (h1.push { cls := .type "list", data := .seq vs.toArray }).get? b = some o → h6.get? b = some o) → ∀ b o, h1.get? b = some o → h6.get? b = some o := fun k b o e => k b o (Nat.ne_of_lt (Heap.lt_size e)) (Heap.get?_push_of_some _ e)
 refine wpAny_bind (wpAny_holding (wpAny_call_entry slot_list_sort ⟨_, hB, rfl⟩ entry_list_sort ?_ (args_list_sort _)))
 refine Tim.list_sortW (s := { s with heap := h1.push { cls := .type "list", data := .seq vs.toArray }, toks := tk, drawn := d }) hB (YG (by omega)) SA.wo SA.same (fun h6 Q k h2 q => SA.kd _ _ _ _ (k1 k) h2 q) (fun h6 tk' i j x y C k e1 e2 q => SA.ask _ _ i j x y C (k1 k) e1 e2 fun tk2 => q tk2)
  fun h3 tk3 c pm hpm3 hs3 hkeep hD => ⟨_, rfl, wpAny_pure ⟨_, rfl, ?_⟩⟩
 have hp' : Srt.Pm ys.length pm := by rw [← hl]; exact hpm3
 have hN : s.heap.get? h1.objs.size = none := by
  cases e : s.heap.get? h1.objs.size with
  | none => rfl
  | some u => exact absurd (Heap.lt_size (kk _ _ e)) (Nat.lt_irrefl _)
 have hmem : ∀ i ∈ pm.toList, i < ys.length := fun i hi => by
  have : i ∈ pm := by simpa using hi
  have := hp'.perm.mem_iff.mp this
  simpa using this
 have vv : ∀ l : List Nat, (∀ i ∈ l, i < ys.length) → Vals ((l.map fun i => ys.getD i "").map V.str) (l.map fun i => vs.getD i Value.none) := by
  intro l
  induction l with
  | nil => intro _; exact .nil
  | cons i l ih =>
   intro hh
   have hi : i < vs.length := by have := hh i (List.mem_cons_self ..); omega
   obtain ⟨t, e, _⟩ := Tim.strs_at hS i _ (List.getElem?_eq_getElem hi)
   refine .cons ?_ (ih fun j hj => hh j (List.mem_cons_of_mem _ hj))
   show RelV (V.str (ys.getD i "")) (vs.getD i Value.none)
   rw [List.getD_eq_getElem?_getD (l := vs), List.getElem?_eq_getElem hi]
   exact ⟨t, e⟩
 obtain ⟨hn, I2⟩ := ZbP (tk := tk3) (vs := (pm.toList.map fun i => ys.getD i "").map V.str) (I.drw d) (fun b u e => k1 hkeep b u (kk b u e)) hN (by rw [List.length_map, List.length_map, Array.length_toList, hp'.size]; exact YG (by omega)) ⟨_, c, vv pm.toList hmem, hD⟩
 refine ⟨.ref h1.objs.size, _, I2, rfl, q _ _ hn ((XA ys pm hp').trans hys) ?_⟩
 have nd : ys.Nodup := hys.nodup_iff.mpr T.nd
 have hup := Zhs (n := ys.length) rfl nd hp' (by rw [← hl]; exact hs3)
 rw [List.map_map, List.pairwise_map, List.pairwise_iff_getElem]
 intro i j hi hj hij
 have hz2 : pm.toList.length = ys.length := by rw [Array.length_toList, hp'.size]
 have hu := hup i j hij (by omega)
 unfold ltX at hu
 rw [decide_eq_true_eq, Zc4 hp' hi, Zc4 hp' hj] at hu
 exact hu
end L2
namespace L2
open PySem PySem.Spec PyProof.Rows
def Itk (d : Addr) (o : Obj) (kvs : List (Key × V)) : It :=
 ⟨fun i H => H d = some (.frz o (.dK kvs)) ∧ i < kvs.length, fun i H x H' => H' = H ∧ ∃ p, kvs[i]? = some p ∧ x = kV p.1, fun i H => H d = some (.frz o (.dK kvs)) ∧ kvs.length ≤ i⟩
theorem Zdu {P : Program} {w : World} {K : PySem.W.Frag} {tg : Expr} (d it : Addr) (o : Obj) (kvs : List (Key × V)) {es : Array DictEntry} {ep : Nat} (hod : o.data = .dict es ep) :
  Zg3 P w K tg (Itk d o kvs) [it] it (fun i h => h.IsKeyIter it d i kvs.length ep) where
 mem := by simp
 obj := fun i h he c hc => by
  have hc := List.mem_singleton.mp hc
  subst hc
  obtain ⟨ob, g1, g2, g3⟩ := he
  exact ⟨ob, g1, fun v z => by rw [g3] at z; cases z⟩
 keep := fun i h h' he kk => he.at fun ob e => kk it (by simp) ob e
 item := by
  intro X hP hw hK hc i pins s σ H E I hf he hg
  subst hP hw hK
  obtain ⟨hd, hi⟩ := hg
  obtain ⟨vs, kv, da, lo⟩ := ZgW I hd hod
  obtain ⟨p, hp⟩ : ∃ p, kvs[i]? = some p := ⟨_, List.getElem?_eq_getElem hi⟩
  obtain ⟨q, hq, e1, e2⟩ := Zi3 kv hp
  obtain ⟨f0, f1, f2, f3, f4, f5⟩ := hf it (by simp)
  have he' : s.heap.IsKeyIter it d i vs.length ep := by rw [← kv.length]; exact he
  refine wpAny_pyNext_dict_item (k := q.1) he' da hq fun key h1 hkey hit1 sb => ?_
  have I1 : Inv X pins σ H { s with heap := h1 } := I.turned (t' := s.toks) (fun b u hb e => (sb.2 b hb).trans e) f0 f1 f3 f4 f5
  refine ⟨key, rfl, letGo_keyiter hit1 ⟨kV p.1, H, I1, by rw [e1]; exact Zhq hkey, ⟨rfl, p, hp, rfl⟩, by rw [kv.length]; exact hit1, fun b hb => (hf b hb).1⟩⟩
 done := by
  intro X hP hw hK hc i pins s σ H E I hf he hg
  subst hP hw hK
  obtain ⟨hd, hi⟩ := hg
  obtain ⟨vs, kv, da, lo⟩ := ZgW I hd hod
  obtain ⟨f0, f1, f2, f3, f4, f5⟩ := hf it (by simp)
  have he' : s.heap.IsKeyIter it d i vs.length ep := by rw [← kv.length]; exact he
  exact wpAny_pyNext_dict_end (I.ok.hd hc) he' da (List.getElem?_eq_none (by rw [← kv.length]; exact hi)) fun h' eb => ⟨rfl, I.turned (t' := s.toks) (fun b u hb e => eb b u hb e) f0 f1 f3 f4 f5⟩
 self := fun A i s Q E he h => wpAny_pyIter_keyiter he h
def Zj7 (td : TE) : TI := fun σ H R => td σ H fun x H1 => ∃ d o kvs, x = .ref d ∧ H1 d = some (.frz o (.dK kvs)) ∧ R (Itk d o kvs) H1
theorem Zht {X : Cx} {tg ob : Expr} {td : TE} (ho : PE X ob td) : PI X tg ob (Zj7 td) := by
 intro pins s σ H R I h
 refine thn (ho pins s σ H _ I h) fun v s1 ⟨x, H1, I1, r1, d, o, kvs, ex, hd, q1⟩ => ?_
 subst ex
 obtain rfl : v = Value.ref d := r1
 obtain ⟨g1, z, lo, vs, kv, dd⟩ := I1.hok d _ hd
 obtain ⟨ep, da⟩ := dd.dictAt
 refine wpAny_pyIter_dict lo da ?_
 obtain ⟨o', es, g2, _, g3, _⟩ := id da
 rw [g1] at g2
 cases g2
 refine ⟨_, [_], _, Itk d o kvs, H1, rfl, I1.kept (t' := s1.toks) fun b u e => Heap.get?_push_of_some _ e, Zdu d s1.heap.objs.size o kvs g3, ?_, fun b hb => ?_, q1⟩
 ·rw [kv.length]
  exact ⟨_, Heap.get?_push_size _ rfl, rfl, rfl⟩
 ·rw [List.mem_singleton.mp hb]
  exact I1.fpOk (Nat.le_refl _) (I1.hok.fresh (Nat.le_refl _))
theorem ZhU {d : Addr} {o : Obj} {kvs : List (Key × V)} {H1 : Hp} (hd : H1 d = some (.frz o (.dK kvs))) : ∀ H, Same H1 H → (∀ i, i < kvs.length → (Itk d o kvs).go i H ∧ ∀ x H', (Itk d o kvs).yld i H x H' → H' = H ∧ x = (kvs.map fun p => kV p.1).getD i .non) ∧ (Itk d o kvs).stop kvs.length H := fun H s => by
 refine ⟨fun i hi => ⟨⟨s _ _ hd, hi⟩, fun x H' y => ?_⟩, ⟨s _ _ hd, Nat.le_refl _⟩⟩
 obtain ⟨e, p, hp, ex⟩ := y
 refine ⟨e, ?_⟩
 rw [ex, List.getD_eq_getElem?_getD, List.getElem?_map, hp]
 rfl
theorem Zb4 {k : Nat} {mp : List Nat} {σ : St} {g : TG} {tc : TT} {te : TE} {J : It} {H1 : Hp} {Q : VK} (n : Nat) (xs : Nat → V) (t : Nat → Bool) (R : Nat → V → Hp → Prop) (hn : n ≤ sizeLine)
  (hR : ∀ i v H H', TSame H H' → R i v H → R i v H')
  (hJ : ∀ H, Same H1 H → (∀ i, i < n → J.go i H ∧ ∀ x H', J.yld i H x H' → H' = H ∧ x = xs i) ∧ J.stop n H)
  (step : ∀ i H (Qt : VK) (Qf : Hp → Prop), i < n → Same H1 H → (t i = true → ∀ v H6, Same H H6 → R i v H6 → Qt v H6) → (t i = false → ∀ H6, Same H H6 → Qf H6) → g (xs i) (lcS k mp σ) H fun σ4 H4 => tc σ4 H4 fun b H5 => if b = true then te σ4 H5 Qt else Qf H5)
  (done : ∀ D vs H', vs.length = ((List.range n).filter t).length → (∀ (j i : Nat) (v : V), ((List.range n).filter t)[j]? = some i → vs[j]? = some v → R i v H') → Same H1 H' → H1 D = none → H' D = some (.lst vs) → Q (.ref D) H') : Zbf k mp σ g tc te J H1 Q := by
 intro D hD
 refine ⟨fun i m acc H => m = n - i ∧ i ≤ n ∧ acc.length = ((List.range i).filter t).length ∧ Same H1 H ∧ H D = some (.lst acc) ∧ ∀ (j q : Nat) (v : V), ((List.range i).filter t)[j]? = some q → acc[j]? = some v → R q v H,
  ⟨n, by simp, Nat.zero_le _, rfl, Zb hD, Zd, fun j q v e _ => by simp at e⟩, ?_⟩
 rintro i m acc H ⟨rfl, hi, hl, hs, hDa, hr⟩
 obtain ⟨j1, j2⟩ := hJ H hs
 by_cases hlt : i < n
 ·refine .inr ⟨(j1 i hlt).1, fun x H3 y => ?_⟩
  obtain ⟨e1, e2⟩ := (j1 i hlt).2 x H3 y
  subst e1 e2
  refine step i H3 _ _ hlt hs (fun ht v H6 s6 r6 => ⟨s6 _ _ hDa, ?_, n - (i + 1), by omega, rfl, hlt, ?_, fun b o e => ?_, Zd, fun j q u e1 e2 => ?_⟩) (fun ht H6 s6 => ⟨n - (i + 1), by omega, rfl, hlt, ?_, hs.trans s6, s6 _ _ hDa, fun j q u e1 e2 => ?_⟩)
  ·have := List.length_filter_le t (List.range i)
   rw [List.length_range] at this
   omega
  ·rw [List.range_succ, List.filter_append, List.length_append, List.length_append, hl]
   simp [ht]
  ·rw [Zg (Zj e hD)]
   exact s6 _ _ (hs b o e)
  ·have ts : TSame H6 (upd H6 D (.lst (acc ++ [v]))) := Yz (s6 _ _ hDa)
   rw [List.range_succ, List.filter_append] at e1
   rcases Nat.lt_trichotomy j acc.length with h | h | h
   ·rw [List.getElem?_append_left h] at e2
    rw [List.getElem?_append_left (by omega)] at e1
    exact hR _ _ _ _ (s6.tup.trans ts) (hr j q u e1 e2)
   ·subst h
    rw [List.getElem?_append_right (Nat.le_refl _), Nat.sub_self] at e2
    rw [List.getElem?_append_right (by omega), hl, Nat.sub_self] at e1
    simp [ht] at e1 e2
    subst e1 e2
    exact hR _ _ _ _ ts r6
   ·rw [List.getElem?_eq_none (by rw [List.length_append, List.length_singleton]; omega)] at e2
    cases e2
  ·rw [List.range_succ, List.filter_append, List.length_append, hl]
   simp [ht]
  ·rw [List.range_succ, List.filter_append] at e1
   have hj : j < acc.length := (List.getElem?_eq_some_iff.mp e2).1
   rw [List.getElem?_append_left (by omega)] at e1
   exact hR _ _ _ _ s6.tup (hr j q u e1 e2)
 ·have e : i = n := by omega
  subst e
  exact .inl ⟨j2, done D acc H hl hr hs hD hDa⟩
section
variable {prog : Program} {w : World} {A : Around} {E : Value → Shared → Prop} {s : Shared}
theorem Zet {J t : Addr} {i : Nat} {its : Array Value} {x : Value} {Q : Value → Shared → Prop} (hJ : s.heap.IsTupleIter J t i) (ht : s.heap.IsTuple t its) (hx : its[i]? = some x)
  (q : ∀ h1, h1.IsTupleIter J t (i + 1) → Heap.SameBut J s.heap h1 → Q x { s with heap := h1 }) : wpAny (model prog w) A (Builtin.SmallTypes.nextOf (.ref J)) Q E s := by
 obtain ⟨oj, gj, cj, dj⟩ := id hJ
 obtain ⟨ot, gt, _, nt, dt⟩ := ht
 unfold Builtin.SmallTypes.nextOf
 refine wpAny_bind (wpAny_callSpecial?_slot (name := Str.ofString "__next__") hJ.typeIs F.slot_tuple_iterator_next (wpAny_call_entry F.slot_tuple_iterator_next hJ.typeIs F.entry_tuple_iterator_next ?_ (F.args_tuple_iterator_next_1 _)))
 show wpAny _ _ (field (.ref J) 0 >>= _) _ _ s
 refine wpAny_bind (wpAny_field gj dj (x := .ref t) rfl ?_)
 dsimp only
 rw [if_neg (show ¬ ((Value.ref t == Value.none) = true) from fun z => Bool.false_ne_true z)]
 refine wpAny_bind (wpAny_field gj dj (x := .int i 0) rfl ?_)
 dsimp only
 refine wpAny_bind (wpAny_seqItems gt dt ?_)
 simp only [Int.toNat_natCast, hx]
 refine wpAny_bind (wpAny_setField gj dj (by simp) (wpAny_pure ⟨x, rfl, wpAny_pure (q _ ⟨_, Heap.get?_update_self _ gj (Obj.isFreed_of_fields (Obj.data_mapFields dj _)), (Obj.cls_mapFields ..).trans cj, ?_⟩ (Heap.SameBut.update ..))⟩))
 rw [Obj.data_mapFields dj]
 simp [rawInt]
theorem ZiM {J t : Addr} {i : Nat} {its : Array Value} {Q : Value → Shared → Prop} (hh : A.handled = none) (hJ : s.heap.IsTupleIter J t i) (ht : s.heap.IsTuple t its) (hx : its[i]? = none)
  (q : ∀ h1 e, Heap.ExtBut J s.heap h1 → (∃ o, h1.get? e = some o ∧ o.cls = .type "StopIteration") → E (.ref e) { s with heap := h1 }) : wpAny (model prog w) A (Builtin.SmallTypes.nextOf (.ref J)) Q E s := by
 obtain ⟨oj, gj, cj, dj⟩ := id hJ
 obtain ⟨ot, gt, _, nt, dt⟩ := ht
 unfold Builtin.SmallTypes.nextOf
 refine wpAny_bind (wpAny_callSpecial?_slot (name := Str.ofString "__next__") hJ.typeIs F.slot_tuple_iterator_next (wpAny_call_entry F.slot_tuple_iterator_next hJ.typeIs F.entry_tuple_iterator_next ?_ (F.args_tuple_iterator_next_1 _)))
 show wpAny _ _ (field (.ref J) 0 >>= _) _ _ s
 refine wpAny_bind (wpAny_field gj dj (x := .ref t) rfl ?_)
 dsimp only
 rw [if_neg (show ¬ ((Value.ref t == Value.none) = true) from fun z => Bool.false_ne_true z)]
 refine wpAny_bind (wpAny_field gj dj (x := .int i 0) rfl ?_)
 dsimp only
 refine wpAny_bind (wpAny_seqItems gt dt ?_)
 simp only [Int.toNat_natCast, hx]
 refine wpAny_bind (wpAny_rule (wpAny_bind (wpAny_setField gj dj (by simp) ?_)))
 show wpAny _ _ (newExc (.type "StopIteration") [] >>= _) _ _ _
 refine wpAny_bind ?_
 simp only [newExc, newTuple]
 refine wpAny_bind (wpAny_newObj_type (wpAny_bind (m := firstArgMember _ _) (wpAny_of_eq (a := Value.none) (by first | rfl | (simp only [firstArgMember]; rfl)) (wpAny_newObj_type ?_ (by size_fits)))) (by size_fits))
 simp only [raiseNew]
 refine wpAny_bind (wpAny_handled ?_)
 first | rw [show A.in1.handled = none from hh] | rw [hh]
 exact wpAny_bind (wpAny_pure (wpAny_throw (q _ _ (((Heap.SameBut.update ..).extBut.push _).push _) ⟨_, Heap.get?_push_size _ rfl, rfl⟩)))
theorem Zid {z TI TO i1 i2 l1 l2 : Addr} {n1 n2 : Nat} {xs ys : Array Value} {x y u v : Value} {Q : Value → Shared → Prop} (D : ZipApart z TI TO i1 i2 l1 l2) (zz : IsZip s.heap z TI TO .none) (pI : IsPair s.heap TI (.ref i1) (.ref i2)) (pO : IsPair s.heap TO u v)
  (j1 : s.heap.IsTupleIter i1 l1 n1) (j2 : s.heap.IsTupleIter i2 l2 n2) (t1 : s.heap.IsTuple l1 xs) (t2 : s.heap.IsTuple l2 ys) (ex : xs[n1]? = some x) (ey : ys[n2]? = some y)
  (q : ∀ g, IsZip g z TI TO (rawInt s.heap.objs.size) → IsPair g TO x y → g.IsTupleIter i1 l1 (n1 + 1) → g.IsTupleIter i2 l2 (n2 + 1) → IsPair g s.heap.objs.size x y → (∀ c o, c ≠ z → c ≠ TO → c ≠ i1 → c ≠ i2 → s.heap.get? c = some o → g.get? c = some o) → Q (.ref s.heap.objs.size) { s with heap := g }) :
  wpAny (model prog w) A (Builtin.«zip.__next__» ⟨[.ref z], []⟩) (fun fin s' => ∃ v, fin = .done (.ret v) ∧ Q v s') E s := by
 show wpAny _ _ (field (.ref z) 2 >>= _) _ _ _
 refine wpAny_bind (wpAny_field zz rfl (x := .bool false) rfl (show wpAny _ _ (field (.ref z) 3 >>= _) _ _ _ from wpAny_bind (wpAny_field zz rfl (x := .ref TI) rfl (wpAny_bind (wpAny_seqItems pI rfl ?_)))))
 refine (show wpAny _ _ (Builtin.SmallTypes.ownedTupleIsFree (.ref z) >>= _) _ _ _ from wpAny_bind ?_)
 unfold Builtin.SmallTypes.ownedTupleIsFree
 refine wpAny_bind (wpAny_field zz rfl (x := .none) rfl (wpAny_pure ?_))
 simp only [if_true]
 refine wpAny_bind (wpAny_rule (wpAny_bind (wpAny_field zz rfl (x := .ref TO) rfl (wpAny_bind (wpAny_setField_rec zz (by simp) fun g1 z1 m1 => wpAny_bind ?_)))))
 replace z1 : IsZip g1 z TI TO .ellipsis := z1
 simp only [List.zipIdx_cons, List.zipIdx_nil, List.forIn_cons, List.forIn_nil]
 refine wpAny_bind (wpAny_bind (wpAny_onRaise (show wpAny _ _ (Builtin.SmallTypes.nextOf (.ref i1) >>= _) _ _ _ from wpAny_bind (Zet (j1.extBut m1.extBut D.i1z) (t1.extBut m1.extBut D.l1z) ex fun g2 j12 m2 => wpAny_pure ?_))))
 have o2 : IsPair g2 TO u v := m2.extBut _ _ D.TOi1 (m1.extBut _ _ D.TOz pO)
 refine wpAny_bind (wpAny_seqItems o2 rfl (wpAny_bind (wpAny_updateSeq_pair o2 fun g3 o3 m3 => wpAny_bind (wpAny_letGo (wpAny_pure ?_)))))
 replace o3 : IsPair g3 TO x v := o3
 refine wpAny_bind (wpAny_bind (wpAny_onRaise (show wpAny _ _ (Builtin.SmallTypes.nextOf (.ref i2) >>= _) _ _ _ from wpAny_bind (Zet (((j2.extBut m1.extBut D.i2z).extBut m2.extBut D.i12.symm).extBut m3.extBut D.TOi2.symm) (((t2.extBut m1.extBut D.l2z).extBut m2.extBut D.l2i1).extBut m3.extBut D.l2TO) ey fun g4 j24 m4 => wpAny_pure ?_))))
 have o4 : IsPair g4 TO x v := m4.extBut _ _ D.TOi2 o3
 refine wpAny_bind (wpAny_seqItems o4 rfl (wpAny_bind (wpAny_updateSeq_pair o4 fun g5 o5 m5 => wpAny_bind (wpAny_letGo (wpAny_pure (wpAny_pure ?_))))))
 replace o5 : IsPair g5 TO x y := o5
 refine wpAny_bind (wpAny_seqItems o5 rfl (wpAny_bind (wpAny_newTuple ?_)))
 have sz : g5.objs.size = s.heap.objs.size := by rw [m5.1, m4.1, m3.1, m2.1, m1.1]
 have z5 : IsZip g5 z TI TO .ellipsis := m5.extBut _ _ D.TOz.symm (m4.extBut _ _ D.i2z.symm (m3.extBut _ _ D.TOz.symm (m2.extBut _ _ D.i1z.symm z1)))
 have k5 : ∀ c o, c ≠ z → c ≠ TO → c ≠ i1 → c ≠ i2 → s.heap.get? c = some o → g5.get? c = some o := fun c o a1 a2 a3 a4 e => m5.extBut _ _ a2 (m4.extBut _ _ a4 (m3.extBut _ _ a2 (m2.extBut _ _ a3 (m1.extBut _ _ a1 e))))
 have j15 : g5.IsTupleIter i1 l1 (n1 + 1) := ((j12.extBut m3.extBut D.TOi1.symm).extBut m4.extBut D.i12).extBut m5.extBut D.TOi1.symm
 have j25 : g5.IsTupleIter i2 l2 (n2 + 1) := j24.extBut m5.extBut D.TOi2.symm
 have zl : z < g5.objs.size := Heap.lt_size z5
 refine (show wpAny _ _ (Builtin.SmallTypes.ownedTupleHandOut (.ref z) (.ref g5.objs.size) >>= _) _ _ _ from wpAny_bind ?_)
 unfold Builtin.SmallTypes.ownedTupleHandOut
 have z6 : IsZip (g5.push { cls := .type "tuple", data := .seq #[x, y] }) z TI TO .ellipsis := Heap.get?_push_of_some _ z5
 refine wpAny_bind (wpAny_setField_rec z6 (by simp) fun g7 z7 m7 => ?_)
 replace z7 : IsZip g7 z TI TO (rawInt g5.objs.size) := z7
 refine wpAny_setField_rec z7 (by simp) fun g8 z8 m8 => ?_
 replace z8 : IsZip g8 z TI TO (rawInt g5.objs.size) := z8
 have up : ∀ c o, c ≠ z → g5.get? c = some o → g8.get? c = some o := fun c o a1 e => m8.extBut _ _ a1 (m7.extBut _ _ a1 (Heap.get?_push_of_some _ e))
 have p8 : IsPair g8 g5.objs.size x y := m8.extBut _ _ (Nat.ne_of_gt zl) (m7.extBut _ _ (Nat.ne_of_gt zl) (Heap.get?_push_size _ rfl))
 rw [sz] at z8 p8
 refine wpAny_pure ⟨.ref g5.objs.size, rfl, ?_⟩
 rw [sz]
 exact q g8 z8 (up _ _ D.TOz o5) (j15.at fun o e => up _ o D.i1z e) (j25.at fun o e => up _ o D.i2z e) p8 fun c o a1 a2 a3 a4 e => up c o a1 (k5 c o a1 a2 a3 a4 e)
theorem ZjA {z TI TO i1 i2 l1 l2 : Addr} {n1 n2 : Nat} {xs ys : Array Value} {u v : Value} {Q : PySem.Fin → Shared → Prop} (hh : A.handled = none) (D : ZipApart z TI TO i1 i2 l1 l2) (zz : IsZip s.heap z TI TO .none) (pI : IsPair s.heap TI (.ref i1) (.ref i2))
  (j1 : s.heap.IsTupleIter i1 l1 n1) (t1 : s.heap.IsTuple l1 xs) (ex : xs[n1]? = none)
  (q : ∀ g e, (∀ c o, c ≠ z → c ≠ i1 → s.heap.get? c = some o → g.get? c = some o) → (∃ o, g.get? e = some o ∧ o.cls = .type "StopIteration") → E (.ref e) { s with heap := g }) :
  wpAny (model prog w) A (Builtin.«zip.__next__» ⟨[.ref z], []⟩) Q E s := by
 show wpAny _ _ (field (.ref z) 2 >>= _) _ _ _
 refine wpAny_bind (wpAny_field zz rfl (x := .bool false) rfl (show wpAny _ _ (field (.ref z) 3 >>= _) _ _ _ from wpAny_bind (wpAny_field zz rfl (x := .ref TI) rfl (wpAny_bind (wpAny_seqItems pI rfl ?_)))))
 refine (show wpAny _ _ (Builtin.SmallTypes.ownedTupleIsFree (.ref z) >>= _) _ _ _ from wpAny_bind ?_)
 unfold Builtin.SmallTypes.ownedTupleIsFree
 refine wpAny_bind (wpAny_field zz rfl (x := .none) rfl (wpAny_pure ?_))
 simp only [if_true]
 refine wpAny_bind (wpAny_rule (wpAny_bind (wpAny_field zz rfl (x := .ref TO) rfl (wpAny_bind (wpAny_setField_rec zz (by simp) fun g1 z1 m1 => wpAny_bind ?_)))))
 replace z1 : IsZip g1 z TI TO .ellipsis := z1
 simp only [List.zipIdx_cons, List.zipIdx_nil, List.forIn_cons, List.forIn_nil]
 refine wpAny_bind (wpAny_bind (wpAny_onRaise (show wpAny _ _ (Builtin.SmallTypes.nextOf (.ref i1) >>= _) _ _ _ from wpAny_bind (ZiM hh (j1.extBut m1.extBut D.i1z) (t1.extBut m1.extBut D.l1z) ex fun g2 e m2 ⟨oe, ge, ce⟩ => ?_))))
 have z2 : IsZip g2 z TI TO .ellipsis := m2 _ _ D.i1z.symm z1
 have ez : e ≠ z := fun x => by subst x; rw [z2] at ge; cases ge; simp at ce
 exact wpAny_setField_rec z2 (by simp) fun g3 _ m3 => q g3 e (fun c o a1 a3 x => m3.extBut _ _ a1 (m2 _ _ a3 (m1.extBut _ _ a1 x))) ⟨oe, m3.extBut _ _ ez ge, ce⟩
theorem Zhr {z TI TO i1 i2 l1 l2 : Addr} {n1 n2 : Nat} {xs ys : Array Value} {x y u v : Value} {Q : Option Value → Shared → Prop} (D : ZipApart z TI TO i1 i2 l1 l2) (zz : IsZip s.heap z TI TO .none) (pI : IsPair s.heap TI (.ref i1) (.ref i2)) (pO : IsPair s.heap TO u v)
  (j1 : s.heap.IsTupleIter i1 l1 n1) (j2 : s.heap.IsTupleIter i2 l2 n2) (t1 : s.heap.IsTuple l1 xs) (t2 : s.heap.IsTuple l2 ys) (ex : xs[n1]? = some x) (ey : ys[n2]? = some y)
  (q : ∀ g, IsZip g z TI TO (rawInt s.heap.objs.size) → IsPair g TO x y → g.IsTupleIter i1 l1 (n1 + 1) → g.IsTupleIter i2 l2 (n2 + 1) → IsPair g s.heap.objs.size x y → (∀ c o, c ≠ z → c ≠ TO → c ≠ i1 → c ≠ i2 → s.heap.get? c = some o → g.get? c = some o) → Q (some (.ref s.heap.objs.size)) { s with heap := g }) :
  wpAny (model prog w) A (pyNext (.ref z)) Q E s := by
 unfold pyNext
 exact wpAny_bind (wpAny_attempt (wpAny_callSpecial?_slot (name := Str.ofString "__next__") ⟨_, zz, rfl⟩ F.slot_zip_next (wpAny_call_entry F.slot_zip_next ⟨_, zz, rfl⟩ F.entry_zip_next (Zid D zz pI pO j1 j2 t1 t2 ex ey fun g a1 a2 a3 a4 a5 a6 => wpAny_pure (q g a1 a2 a3 a4 a5 a6)) (F.args_zip_next_1 _))))
theorem Ziv {z TI TO i1 i2 l1 l2 : Addr} {n1 : Nat} {xs : Array Value} {Q : Option Value → Shared → Prop} (hh : A.handled = none) (D : ZipApart z TI TO i1 i2 l1 l2) (zz : IsZip s.heap z TI TO .none) (pI : IsPair s.heap TI (.ref i1) (.ref i2))
  (j1 : s.heap.IsTupleIter i1 l1 n1) (t1 : s.heap.IsTuple l1 xs) (ex : xs[n1]? = none) (q : ∀ g, (∀ c o, c ≠ z → c ≠ i1 → s.heap.get? c = some o → g.get? c = some o) → Q none { s with heap := g }) : wpAny (model prog w) A (pyNext (.ref z)) Q E s := by
 unfold pyNext
 refine wpAny_bind (wpAny_attempt (wpAny_callSpecial?_slot (name := Str.ofString "__next__") ⟨_, zz, rfl⟩ F.slot_zip_next (wpAny_call_entry F.slot_zip_next ⟨_, zz, rfl⟩ F.entry_zip_next (ZjA (u := .none) (v := .none) (n2 := 0) (ys := #[]) hh D zz pI j1 t1 ex fun g e k ⟨oe, ge, ce⟩ => ?_) (F.args_zip_next_1 _))))
 exact wpAny_bind (wpAny_isInstance (T := "StopIteration") (b := true) ⟨oe, ge, ce⟩ isSubtype_stop (wpAny_pure (q _ k)))
end
theorem Inv.laidM {X : Cx} {pins : List (Addr × Obj)} {σ : St} {H : Hp} {s : Shared} {h' : Heap} {a : Addr} {ch : List Addr} {o : HO} {t' : Nat} (I : Inv X pins σ H s) (k : ∀ b u, b ∉ ch → s.heap.get? b = some u → h'.get? b = some u) (hf : ∀ b ∈ ch, Zcg X pins H b)
  (hp : s.heap.objs.size ≤ a) (new : ObjOk X.prog X.w (upd H a o) h' a o) : Inv X pins σ (upd H a o) { s with heap := h', toks := t' } := by
 have hn : H a = none := I.hok.fresh hp
 have nit : ∀ b u, H b = some u → b ∉ ch := fun b u e z => by
  rw [(hf b z).1] at e
  cases e
 refine I.step (g' := s.gens) (d' := s.drawn) (ch := ch) (fun b hb => ?_) (fun b u _ _ hc e _ => k b u hc e) (fun b u _ _ hc e _ => ⟨u.slots, k b u hc e⟩) (fun b u _ e n => ?_) (fun b u hc e => ⟨u, k b u hc e⟩) (fun b xs e => ?_) (fun b u xs e => ?_) (fun b ps e => ⟨#[], ?_⟩) (fun m hm => ?_) (fun b u e => ?_) I.bare
 ·obtain ⟨f0, f1, f2, f3, f4, f5⟩ := hf b hb
  exact ⟨f3, f1, f4, f5⟩
 ·rw [Zg (Nat.ne_of_lt (Nat.lt_of_lt_of_le (Heap.lt_size e) hp))]
  exact n
 ·rw [Zg (Zj e hn)]; exact e
 ·rw [Zg (Zj e hn)]; exact e
 ·rw [Zg (Zj e hn), e]; simp
 ·obtain ⟨o, es, ep, ho, r⟩ := hm
  exact ⟨o, es, ep, k _ o (fun z => (hf _ z).2.1 rfl) ho, r⟩
 ·by_cases hb : b = a
  ·subst hb
   rw [Zd] at e
   cases e
   exact new
  ·rw [Zg hb] at e
   refine (I.hok b u e).stay (fun c v hc q => k c v ?_ q) (fun c q => by rw [Zg (Zj q hn)]; exact q) fun c xs q => by rw [Zg (Zj q hn)]; exact q
   rcases hc with z | z
   ·rw [z]; exact nit b u e
   ·exact nit c _ z
theorem Inv.turnedM {X : Cx} {pins : List (Addr × Obj)} {σ : St} {H : Hp} {s : Shared} {h' : Heap} {ch : List Addr} {t' : Nat} (I : Inv X pins σ H s) (k : ∀ b u, b ∉ ch → s.heap.get? b = some u → h'.get? b = some u) (hf : ∀ b ∈ ch, Zcg X pins H b) : Inv X pins σ H { s with heap := h', toks := t' } := by
 have nit : ∀ b u, H b = some u → b ∉ ch := fun b u e z => by
  rw [(hf b z).1] at e
  cases e
 refine I.step (g' := s.gens) (d' := s.drawn) (ch := ch) (fun b hb => ?_) (fun b u _ _ hc e _ => k b u hc e) (fun b u _ _ hc e _ => ⟨u.slots, k b u hc e⟩) (fun b u _ e n => n) (fun b u hc e => ⟨u, k b u hc e⟩) (fun b xs e => e) (fun b u xs e => e) (fun b ps e => ⟨#[], by rw [e]; simp⟩) (fun m hm => ?_) (fun b u e => ?_) I.bare
 ·obtain ⟨f0, f1, f2, f3, f4, f5⟩ := hf b hb
  exact ⟨f3, f1, f4, f5⟩
 ·obtain ⟨o, es, ep, ho, r⟩ := hm
  exact ⟨o, es, ep, k _ o (fun z => (hf _ z).2.1 rfl) ho, r⟩
 ·refine (I.hok b u e).stay (fun c v hc q => k c v ?_ q) (fun c q => q) fun c xs q => q
  rcases hc with z | z
  ·rw [z]; exact nit b u e
  ·exact nit c _ z
def Itz (a b : Addr) : It :=
 ⟨fun i H => ∃ xs x ys y, H a = some (.tup xs) ∧ xs[i]? = some x ∧ H b = some (.tup ys) ∧ ys[i]? = some y, fun i H v H' => ∃ t x y, H t = none ∧ v = .ref t ∧ H' = upd H t (.tup [x, y]) ∧ (∀ xs, H a = some (.tup xs) → xs[i]? = some x) ∧ ∀ ys, H b = some (.tup ys) → ys[i]? = some y,
  fun i H => ∃ xs, H a = some (.tup xs) ∧ xs.length ≤ i⟩
theorem apart {n : Nat} {a b : Addr} (ha : a ∉ [n + 4, n + 3, n, n + 1]) (hb : b ∉ [n + 4, n + 3, n, n + 1]) : ZipApart (n + 4) (n + 2) (n + 3) n (n + 1) a b := by
 simp only [List.mem_cons, List.not_mem_nil, or_false, not_or] at ha hb
 refine ⟨?_, ?_, ?_, ?_, ?_, ?_, ?_, ?_, ?_, ?_, ha.1, ha.2.1, ha.2.2.1, ha.2.2.2, hb.1, hb.2.1, hb.2.2.1, hb.2.2.2⟩ <;> (intro z; have z : (_ : Nat) = _ := z; omega)
def zSt (a b : Addr) (n : Nat) (i : Nat) (h : Heap) : Prop := IsZip h (n + 4) (n + 2) (n + 3) .none ∧ IsPair h (n + 2) (.ref n) (.ref (n + 1)) ∧ (∃ u v, IsPair h (n + 3) u v) ∧ h.IsTupleIter n a i ∧ h.IsTupleIter (n + 1) b i
theorem Zfq {P : Program} {w : World} {K : PySem.W.Frag} {elts : List Expr} {k : Nat} {pos : Pos} (a b : Addr) (n : Nat) : Zg3 P w K (.Tuple elts k pos) (Itz a b) [n + 4, n + 2, n + 3, n, n + 1] (n + 4) (zSt a b n) where
 mem := by simp
 obj := fun i h ⟨s1, s2, ⟨u, v, s3⟩, ⟨o4, e4, c4, d4⟩, ⟨o5, e5, c5, d5⟩⟩ c hc => by
  have hc : c = n + 4 ∨ c = n + 2 ∨ c = n + 3 ∨ c = n ∨ c = n + 1 := by simpa using hc
  rcases hc with z | z | z | z | z
  ·subst z; exact ⟨_, s1, fun v z => by have z' : Data.fields _ = Data.cell v := z; cases z'⟩
  ·subst z; exact ⟨_, s2, fun v z => by have z' : Data.seq _ _ = Data.cell v := z; cases z'⟩
  ·subst z; exact ⟨_, s3, fun v z => by have z' : Data.seq _ _ = Data.cell v := z; cases z'⟩
  ·subst z; exact ⟨o4, e4, fun v z => by rw [d4] at z; cases z⟩
  ·subst z; exact ⟨o5, e5, fun v z => by rw [d5] at z; cases z⟩
 keep := fun i h h' ⟨s1, s2, ⟨u, v, s3⟩, s4, s5⟩ kk => ⟨kk _ (by simp) _ s1, kk _ (by simp) _ s2, ⟨u, v, kk _ (by simp) _ s3⟩, s4.at fun o e => kk n (by simp) o e, s5.at fun o e => kk (n + 1) (by simp) o e⟩
 item := by
  intro X hP hw hK hc i pins s σ H E I hf ⟨s1, s2, ⟨u, v, s3⟩, s4, s5⟩ hg
  subst hP hw hK
  obtain ⟨xs, x, ys, y, ha, hx, hb, hy⟩ := hg
  obtain ⟨_, its, rv, p1, _⟩ := (show ObjOk X.prog X.w H s.heap a (.tup xs) from I.hok a _ ha)
  obtain ⟨_, jts, rw', p2, _⟩ := (show ObjOk X.prog X.w H s.heap b (.tup ys) from I.hok b _ hb)
  obtain ⟨x', hx', rx⟩ := rv.get hx
  obtain ⟨y', hy', ry⟩ := rw'.get hy
  have nin : ∀ c o, H c = some o → c ∉ [n + 4, n + 2, n + 3, n, n + 1] := fun c o e z => by rw [(hf c z).1] at e; cases e
  have sub : ∀ c, c ∉ [n + 4, n + 2, n + 3, n, n + 1] → c ∉ [n + 4, n + 3, n, n + 1] := fun c h z => h (by simp at z ⊢; rcases z with z | z | z | z <;> simp [z])
  refine Zhr (apart (sub a (nin a _ ha)) (sub b (nin b _ hb))) s1 s2 s3 s4 s5 (show s.heap.IsTuple a its.toArray from p1) (show s.heap.IsTuple b jts.toArray from p2) (x := x') (y := y') (by simpa using hx') (by simpa using hy') fun g z1 o1 j1 j2 t1 kk => ?_
  refine ⟨_, rfl, wpAny_letOwnedTupleGo_zip z1 fun g2 z2 sb => ?_⟩
  have k2 : ∀ c o, c ≠ n + 4 → g.get? c = some o → g2.get? c = some o := fun c o hc e => (sb.2 c hc).trans e
  have nz : s.heap.objs.size ≠ n + 4 := Nat.ne_of_gt (Heap.lt_size s1)
  have t2 := k2 _ _ nz t1
  have lt3 : n + 3 < s.heap.objs.size := Heap.lt_size s3
  have d1 : n + 3 ≠ n + 4 := by omega
  have d2 : n ≠ n + 4 := by omega
  have d3 : n + 1 ≠ n + 4 := by omega
  have e1 : n + 2 ≠ n + 4 := by omega
  have e2 : n + 2 ≠ n + 3 := by omega
  have e3 : n + 2 ≠ n := by omega
  have e4 : n + 2 ≠ n + 1 := by omega
  refine ⟨.ref s.heap.objs.size, _, Inv.laidM (s := s) (a := s.heap.objs.size) (t' := s.toks) (o := .tup [x, y]) (ch := [n + 4, n + 2, n + 3, n, n + 1]) I (fun c o hc e => ?_) (fun c hc => hf c hc) (Nat.le_refl _) ?_, rfl, ⟨_, x, y, I.hok.fresh (Nat.le_refl _), rfl, rfl, fun xs' h' => ?_, fun ys' h' => ?_⟩, ⟨z2, k2 _ _ e1 (kk _ _ e1 e2 e3 e4 s2), ⟨x', y', k2 _ _ d1 o1⟩, j1.at fun o e => k2 _ o d2 e, j2.at fun o e => k2 _ o d3 e⟩, fun c hc => ?_⟩
  ·simp only [List.mem_cons, List.not_mem_nil, or_false, not_or] at hc
   exact k2 c o hc.1 (kk c o hc.1 hc.2.2.1 hc.2.2.2.1 hc.2.2.2.2 e)
  ·exact ⟨(show 2 ≤ sizeLine by rw [sizeLine_eq]; decide), [x', y'], .cons rx (.cons ry .nil), ⟨_, t2, rfl, _, rfl⟩, fun o q => by rw [t2] at q; cases q; rfl⟩
  ·rw [ha] at h'; cases h'; exact hx
  ·rw [hb] at h'; cases h'; exact hy
  ·rw [Zg]
   ·exact (hf c hc).1
   ·have hc' : c = n + 4 ∨ c = n + 2 ∨ c = n + 3 ∨ c = n ∨ c = n + 1 := by simpa using hc
    have lt4 : n + 4 < s.heap.objs.size := Heap.lt_size s1
    exact Nat.ne_of_lt (show (c : Nat) < s.heap.objs.size by rcases hc' with z | z | z | z | z <;> (rw [z]; first | omega | exact Nat.lt_of_le_of_lt (by omega) lt4))
 done := by
  intro X hP hw hK hc i pins s σ H E I hf ⟨s1, s2, ⟨u, v, s3⟩, s4, s5⟩ hg
  subst hP hw hK
  obtain ⟨xs, ha, hx⟩ := hg
  obtain ⟨_, its, rv, p1, _⟩ := (show ObjOk X.prog X.w H s.heap a (.tup xs) from I.hok a _ ha)
  have nin : a ∉ [n + 4, n + 2, n + 3, n, n + 1] := fun z => by rw [(hf a z).1] at ha; cases ha
  have sub : a ∉ [n + 4, n + 3, n, n + 1] := fun z => nin (by simp at z ⊢; rcases z with z | z | z | z <;> simp [z])
  have hl := rv.length
  exact Ziv (I.ok.hd hc) (apart sub sub) s1 s2 s4 (show s.heap.IsTuple a its.toArray from p1) (by simp; omega) fun g kk => ⟨rfl, Inv.turnedM (t' := s.toks) (ch := [n + 4, n + 2, n + 3, n, n + 1]) I (fun c o hc e => kk c o (fun z => hc (by simp [z])) (fun z => hc (by simp [z])) e) hf⟩
 self := fun _ _ _ _ _ ⟨s1, _⟩ h => wpAny_pyIter_zip s1 h
abbrev tz1 (h : Heap) (p : Addr) : Heap := h.push { cls := .type "tuple_iterator", data := .fields #[.ref p, .int 0 0] }
abbrev tz2 (h : Heap) (p r : Addr) : Heap := (tz1 h p).push { cls := .type "tuple_iterator", data := .fields #[.ref r, .int 0 0] }
abbrev tz3 (h : Heap) (p r : Addr) : Heap := (tz2 h p r).push { cls := .type "tuple", data := .seq #[.ref h.objs.size, .ref (tz1 h p).objs.size] }
abbrev tz4 (h : Heap) (p r : Addr) : Heap := (tz3 h p r).push { cls := .type "tuple", data := .seq #[.none, .none] }
abbrev tz5 (h : Heap) (p r : Addr) : Heap := (tz4 h p r).push { cls := .type "zip", data := .fields #[.none, .bool false, .bool false, .ref (tz2 h p r).objs.size, .ref (tz3 h p r).objs.size] }
theorem Zdc (p r : Addr) (xs ys : Array Value) : Meets (Builtin.«zip.__new__» ⟨[.type "zip", .ref p, .ref r], []⟩) (fun _ R s => s.heap.IsTuple p xs ∧ s.heap.IsTuple r ys ∧ R (.ok (.ret (.ref (tz4 s.heap p r).objs.size))) { s with heap := tz5 s.heap p r }) :=
 .of_wp fun prog w A R s h => by
  obtain ⟨hp, gg, dd, tk, os⟩ := s; obtain ⟨t1, t2, h⟩ := h
  have hsub := sub_zip
  have T1 : Heap.IsTuple (Shared.heap ⟨hp, gg, dd, tk, os⟩) p xs := t1
  have T2 : Heap.IsTuple (Shared.heap ⟨hp.push { cls := .type "tuple_iterator", data := .fields #[.ref p, .int 0 0] }, gg, dd, tk, os⟩) r ys := t2.push _
  wp_walk using wpAny_pyIter_tuple T1, wpAny_pyIter_tuple T2
  exact ⟨_, rfl, h⟩
theorem Ze8 {prog : Program} {w : World} {A : Around} {E : Value → Shared → Prop} {s : Shared} {p r : Addr} {xs ys : Array Value} {Q : Value → Shared → Prop} (t1 : s.heap.IsTuple p xs) (t2 : s.heap.IsTuple r ys)
  (q : ∀ g, zSt p r s.heap.objs.size 0 g → (∀ c o, s.heap.get? c = some o → g.get? c = some o) → Q (.ref (s.heap.objs.size + 4)) { s with heap := g }) : wpAny (model prog w) A (call (.type "zip") [.ref p, .ref r]) Q E s := by
 refine callType_new F.called_zip (by decide) (F.typeCall_zip_2 _ _) (F.newCall_zip_2 _ _) (fun obj => F.args_object_init_3 obj _ _) F.entry_zip_new (Zdc p r xs ys) ⟨t1, t2, ?_⟩
 have y1 : (tz1 s.heap p).objs.size = s.heap.objs.size + 1 := Heap.size_push ..
 have y2 : (tz2 s.heap p r).objs.size = s.heap.objs.size + 2 := by rw [Heap.size_push, y1]
 have y3 : (tz3 s.heap p r).objs.size = s.heap.objs.size + 3 := by rw [Heap.size_push, y2]
 have y4 : (tz4 s.heap p r).objs.size = s.heap.objs.size + 4 := by rw [Heap.size_push, y3]
 have f5 : (tz5 s.heap p r).get? (tz4 s.heap p r).objs.size = some _ := Heap.get?_push_size _ rfl
 have f4 : (tz5 s.heap p r).get? (tz3 s.heap p r).objs.size = some _ := Heap.get?_push_of_some _ (Heap.get?_push_size _ rfl)
 have f3 : (tz5 s.heap p r).get? (tz2 s.heap p r).objs.size = some _ := Heap.get?_push_of_some _ (Heap.get?_push_of_some _ (Heap.get?_push_size _ rfl))
 have f2 : (tz5 s.heap p r).get? (tz1 s.heap p).objs.size = some _ := Heap.get?_push_of_some _ (Heap.get?_push_of_some _ (Heap.get?_push_of_some _ (Heap.get?_push_size _ rfl)))
 have f1 : (tz5 s.heap p r).get? s.heap.objs.size = some _ := Heap.get?_push_of_some _ (Heap.get?_push_of_some _ (Heap.get?_push_of_some _ (Heap.get?_push_of_some _ (Heap.get?_push_size _ rfl))))
 show _ ∧ _
 rw [y2, y3, y4] at f5
 rw [y1, y2] at f3
 rw [y3] at f4
 rw [y1] at f2
 rw [y4]
 exact ⟨⟨_, f5, rfl⟩, q _ ⟨f5, f3, ⟨_, _, f4⟩, ⟨_, f1, rfl, rfl⟩, ⟨_, f2, rfl, rfl⟩⟩ fun c o e => Heap.get?_push_of_some _ (Heap.get?_push_of_some _ (Heap.get?_push_of_some _ (Heap.get?_push_of_some _ (Heap.get?_push_of_some _ e))))⟩
theorem Zkf : bootBuiltins "zip" = some (.type "zip") := by decide +kernel
def ZkU (ta : TA) : TI := fun σ H R => ta σ H fun vs H1 => ∃ a b xs ys, vs = [.ref a, .ref b] ∧ H1 a = some (.tup xs) ∧ H1 b = some (.tup ys) ∧ R (Itz a b) H1
theorem Ziw {X : Cx} {elts : List Expr} {kt : Nat} {tpos : Pos} {l : Expr} {rs : List Expr} {ta : TA} {p pos : Pos} (hg : Gl X "zip") (hm : X.mg "zip" = none) (ha : PA X (l :: rs) ta) (hs : starEach (l :: rs) X.env = (false, eval l X.env) :: starEach rs X.env := by rfl) (hpl : (backTo pos (starEach rs X.env)).any (·.1) = false := by rfl) :
  PI X (.Tuple elts kt tpos) (.Call (.Name "zip" p) (l :: rs) [] pos) (ZkU ta) := by
 intro pins s σ H R I h
 refine Call_ (Y8 I hg hm Zkf (PyProof.Rows.callWith_type1 (thn (ha pos pins s σ H _ I h) fun us s1 ⟨vs, H1, I1, r1, q1⟩ => ?_) hs hpl))
 obtain ⟨a, b, xs, ys, e, h1, h2, q⟩ := q1
 subst e
 obtain ⟨u, u', rfl, ru, ru'⟩ := Zfo r1
 cases ru
 cases ru'
 obtain ⟨_, its, rv, p1, _⟩ := (show ObjOk X.prog X.w H1 s1.heap a (.tup xs) from I1.hok a _ h1)
 obtain ⟨_, jts, rw', p2, _⟩ := (show ObjOk X.prog X.w H1 s1.heap b (.tup ys) from I1.hok b _ h2)
 refine Ze8 (show s1.heap.IsTuple a its.toArray from p1) (show s1.heap.IsTuple b jts.toArray from p2) fun g st kk => ?_
 refine wpAny_pyIter_zip st.1 ?_
 refine ⟨s1.heap.objs.size + 4, [s1.heap.objs.size + 4, s1.heap.objs.size + 2, s1.heap.objs.size + 3, s1.heap.objs.size, s1.heap.objs.size + 1], _, _, H1, rfl, I1.kept (t' := s1.toks) fun c o e => kk c o e, Zfq a b s1.heap.objs.size, st, fun c hc => ?_, q⟩
 have hc' : c = s1.heap.objs.size + 4 ∨ c = s1.heap.objs.size + 2 ∨ c = s1.heap.objs.size + 3 ∨ c = s1.heap.objs.size ∨ c = s1.heap.objs.size + 1 := by simpa using hc
 have hle : s1.heap.objs.size ≤ c := by rcases hc' with z | z | z | z | z <;> (rw [z]; first | exact Nat.le_refl _ | exact Nat.le_add_right _ _)
 exact I1.fpOk hle (I1.hok.fresh hle)
theorem Zh0 {a b : Addr} {xs ys : List V} {g : TG} {tb : TS} {D : Zfi} {σ : St} {H : Hp} (Pv : Nat → St → Hp → Prop) (hxy : ys.length = xs.length) (h0 : Pv 0 σ H) (hl : ∀ i σ H, i ≤ xs.length → Pv i σ H → H a = some (.tup xs) ∧ H b = some (.tup ys))
  (hs : ∀ i x y σ H t, xs[i]? = some x → ys[i]? = some y → H t = none → Pv i σ H → g (.ref t) σ (upd H t (.tup [x, y])) fun σ2 H2 => tb { D with nx := Pv (i + 1), ct := Pv (i + 1), bk := D.nx } σ2 H2) (hd : ∀ σ H, Pv xs.length σ H → D.nx σ H) :
  ∃ W : Nat → Nat → St → Hp → Prop, (∃ m, W 0 m σ H) ∧ ∀ i m σ H, W i m σ H →
   ((Itz a b).stop i H ∧ D.nx σ H) ∨ ((Itz a b).go i H ∧ ∃ N : St → Hp → Prop, (∀ σ' H', N σ' H' → ∃ m', m' < m ∧ W (i + 1) m' σ' H') ∧ ∀ x H', (Itz a b).yld i H x H' → g x σ H' fun σ2 H2 => tb { D with nx := N, ct := N, bk := D.nx } σ2 H2) := by
 refine ⟨fun i m σ H => m = xs.length - i ∧ i ≤ xs.length ∧ Pv i σ H, ⟨xs.length, by simp, Nat.zero_le _, h0⟩, ?_⟩
 rintro i m σ H ⟨rfl, hi, p⟩
 obtain ⟨qa, qb⟩ := hl i σ H hi p
 by_cases hlt : i < xs.length
 ·refine .inr ⟨⟨xs, xs[i], ys, ys[i], qa, by simp [hlt], qb, by simp [hxy, hlt]⟩, Pv (i + 1), fun σ' H' p' => ⟨xs.length - (i + 1), by omega, rfl, hlt, p'⟩, fun x H' y => ?_⟩
  obtain ⟨t, x, y, ht, rfl, rfl, hx, hy⟩ := y
  exact hs i x y σ H t (hx xs qa) (hy ys qb) ht p
 ·have e : i = xs.length := by omega
  subst e
  exact .inl ⟨⟨xs, qa, Nat.le_refl _⟩, hd σ H p⟩
def SeqAt' (H : Hp) (a : Addr) (ys : List V) : Prop := H a = some (.lst ys) ∨ H a = some (.tup ys)
theorem SeqAt'.same {H H' : Hp} {a : Addr} {ys : List V} (s : Same H H') (h : SeqAt' H a ys) : SeqAt' H' a ys := h.imp (s _ _) (s _ _)
theorem ZeF {K : PySem.W.Frag} {H : Hp} {a : Addr} {ys : List V} (h : SeqAt' H a ys) : Zia K (.ref a) H ys.length := h.elim (fun h => .inl ⟨_, SqL.of h, rfl⟩) fun h => .inr ⟨_, SqT.of h, rfl⟩
theorem Jl {X : Cx} (K : PySem.W.Frag) (h : X.K = K := by rfl) : IxR X (rIx K) := by subst h; exact Zjf
theorem Za3 {K : PySem.W.Frag} {H : Hp} {a : Addr} {ys : List V} {i : Int} {v : V} {Q : VK} (h : SeqAt' H a ys) (e : atI ys i = some v) (q : Q v H) : rIx K (.ref a) (.int i) H Q :=
 h.elim (fun h => .inl ⟨a, ys, i, v, rfl, rfl, SqL.of h, e, q⟩) fun h => .inr (.inl ⟨a, ys, i, v, rfl, rfl, SqT.of h, e, q⟩)
end L2
namespace Sh
open PySem L2 PyProof.Rows
end Sh
namespace Sh
open PySem L2 PyProof.Rows
seal L2.PE L2.PS L2.PSs L2.PT L2.PW L2.PA L2.PI L2.PG L2.PGs L2.PO L2.PC L2.PCs L2.OpR L2.UnR L2.CallR L2.MtR L2.IxR L2.SlR
theorem XY (g : Str → V) (y : Str) : ∀ ks : List Str, Y5 (ks.map fun x => ((Sum.inr x : Key), g x)) (Sum.inr y) = if y ∈ ks then some (g y) else none
 | [] => rfl
 | x :: ks => by
  have ih := XY g y ks
  by_cases e : x = y
  ·subst e
   rw [List.map_cons, XL rfl, if_pos List.mem_cons_self]
  ·rw [List.map_cons, XM (fun q => e (Sum.inr.inj q)), ih]
   have : (y ∈ x :: ks) ↔ y ∈ ks := by
    rw [List.mem_cons]
    exact ⟨fun h => h.elim (fun q => absurd q.symm e) id, .inr⟩
   simp only [this]
theorem JN (g : Str → V) (y : Str) (v : V) (ks : List Str) (h : y ∈ ks) : Xz (ks.map fun x => ((Sum.inr x : Key), g x)) (Sum.inr y) v = ks.map fun x => ((Sum.inr x : Key), if x = y then v else g x) := by
 unfold Xz
 rw [XN, XY, if_pos h]
 simp only [Option.isSome_some, if_true, List.map_map]
 apply List.map_congr_left
 intro x _
 by_cases e : x = y
 ·subst e
  simp
 ·have : ¬ (Sum.inr x : Key) = Sum.inr y := fun q => e (Sum.inr.inj q)
  simp [this, e]
end Sh
namespace Sh
open PySem L2 PyProof.Rows
end Sh
namespace Sh
open PySem L2 PyProof.Rows
seal L2.PE L2.PS L2.PSs L2.PT L2.PW L2.PA L2.PI L2.PG L2.PGs L2.PO L2.PC L2.PCs L2.OpR L2.UnR L2.CallR L2.MtR L2.IxR L2.SlR
theorem JL : ∀ {l m : List (List Nat)}, l.Pairwise (· < ·) → m.Pairwise (· < ·) → (∀ x, x ∈ l ↔ x ∈ m) → l = m
 | [], [], _, _, _ => rfl
 | [], y :: m, _, _, h => absurd ((h y).mpr List.mem_cons_self) (by simp)
 | x :: l, [], _, _, h => absurd ((h x).mp List.mem_cons_self) (by simp)
 | x :: l, y :: m, hl, hm, h => by
  have h1 := List.pairwise_cons.mp hl
  have h2 := List.pairwise_cons.mp hm
  have e : x = y := by
   rcases List.mem_cons.mp ((h x).mp List.mem_cons_self) with z | z
   ·exact z
   ·rcases List.mem_cons.mp ((h y).mpr List.mem_cons_self) with z2 | z2
    ·exact z2.symm
    ·exact absurd (List.lt_trans (h1.1 y z2) (h2.1 x z)) (List.lt_irrefl _)
  subst e
  have ih := JL h1.2 h2.2 fun z => by
   constructor
   ·intro hz
    rcases List.mem_cons.mp ((h z).mp (List.mem_cons_of_mem _ hz)) with q | q
    ·subst q
     exact absurd (h1.1 z hz) (List.lt_irrefl _)
    ·exact q
   ·intro hz
    rcases List.mem_cons.mp ((h z).mpr (List.mem_cons_of_mem _ hz)) with q | q
    ·subst q
     exact absurd (h2.1 z hz) (List.lt_irrefl _)
    ·exact q
  rw [ih]
def gD (ks : List Str) (g : Str → Int) : List (Key × V) := ks.map fun x => ((Sum.inr x : Key), V.int (g x))
theorem Yq (ks : List Str) (g : Str → Int) : (gD ks g).length = ks.length := by unfold gD; rw [List.length_map]
theorem ZcL (ks : List Str) (g : Str → Int) (y : Str) : Y5 (gD ks g) (Sum.inr y) = if y ∈ ks then some (.int (g y)) else none := XY (fun x => V.int (g x)) y ks
theorem XU {ks : List Str} {g g' : Str → Int} (h : ∀ x ∈ ks, g x = g' x) : gD ks g = gD ks g' := by
 unfold gD
 exact List.map_congr_left fun x m => by rw [h x m]
theorem Jr (ks : List Str) (g : Str → Int) (y : Str) (n : Int) : Xz (gD ks g) (Sum.inr y) (.int n) = gD (if y ∈ ks then ks else ks ++ [y]) fun x => if x = y then n else g x := by
 by_cases m : y ∈ ks
 ·rw [if_pos m]
  unfold gD
  rw [JN _ _ _ _ m]
  apply List.map_congr_left
  intro x _
  dsimp only
  by_cases e : x = y
  ·rw [if_pos e, if_pos e]
  ·rw [if_neg e, if_neg e]
 ·rw [if_neg m, Zas _ (by rw [ZcL, if_neg m])]
  unfold gD
  rw [List.map_append, List.map_singleton]
  dsimp only
  rw [if_pos rfl]
  congr 1
  apply List.map_congr_left
  intro x hx
  have ne : ¬ x = y := by
   intro e
   rw [e] at hx
   exact m hx
  rw [if_neg ne]
theorem ZhY (ks : List Str) (g : Str → Int) (y : Str) : Zbp (gD ks g) (Sum.inr y) = gD (ks.filter fun x => decide (x ≠ y)) g := by
 unfold Zbp gD
 induction ks with
 | nil => rfl
 | cons x ks ih =>
  rw [List.map_cons, List.filter_cons, List.filter_cons, ih]
  by_cases e : x = y
  ·subst e
   simp
  ·have h1 : decide ((Sum.inr x : Key) ≠ Sum.inr y) = true := decide_eq_true fun q => e (by injection q)
   have h2 : decide (x ≠ y) = true := decide_eq_true e
   rw [if_pos h1, if_pos h2, List.map_cons]
end Sh
namespace L2
open PySem PySem.Spec PyProof.Rows PySem.W
def Zic (hi : Int) (n : Nat) : It := ⟨fun i _ => i < n, fun i H x H' => H' = H ∧ x = .int (hi - i), fun i _ => n ≤ i⟩
theorem ZbD {P : Program} {w : World} {K : PySem.W.Frag} {tg : Expr} (it : Addr) (hi : Int) (n : Nat) : Zg3 P w K tg (Zic hi n) [it] it (fun i h => IsRangeIter h it (hi + (i : Nat) * (-1)) ((n : Int) - (i : Nat)) (-1)) where
 mem := by simp
 obj := fun i h st b hb => by
  have e : b = it := by simpa using hb
  subst e
  exact ⟨_, st, fun v z => by
   have z' : Data.fields _ = Data.cell v := z
   cases z'⟩
 keep := fun i h h' st k => k it (by simp) _ st
 item := by
  intro X hP hw hK hc i pins s σ H E I hf st hg
  subst hP hw hK
  obtain ⟨f0, f1, f2, f3, f4, f5⟩ := hf it (by simp)
  have W := Walks.range (prog := X.prog) (w := X.w) (I.ok.hd hc) it hi (-1) n
  refine W.item i s _ _ hg st fun v h' tk hv st' kk => ?_
  obtain ⟨t, rfl⟩ := hv
  have I1 : Inv X pins σ H { s with heap := h', toks := tk } := I.turned (fun b o hb e => kk b o (by simpa using hb) e) f0 f1 f3 f4 f5
  refine ⟨_, rfl, Zge (s := { s with heap := h', toks := tk }) (n := "range_iterator") st' rfl rfl (by decide) ⟨.int (hi - i), H, I1, ⟨t, ?_⟩, ⟨rfl, rfl⟩, st', fun b hb => (hf b hb).1⟩⟩
  rw [show hi + (i : Int) * (-1) = hi - i by omega]
 done := by
  intro X hP hw hK hc i pins s σ H E I hf st hg
  subst hP hw hK
  obtain ⟨f0, f1, f2, f3, f4, f5⟩ := hf it (by simp)
  exact wpAny_pyNext_range_end (I.ok.hd hc) st (by have : n ≤ i := hg; omega) fun h' eb => ⟨rfl, I.turned (t' := s.toks) (fun b o hb e => eb b o hb e) f0 f1 f3 f4 f5⟩
 self := fun _ _ _ _ _ st h => wpAny_pyIter_rangeiter st h
section
variable {X : Cx} {tg : Expr}
theorem Zd4 {pins : List (Addr × Obj)} {σ : St} {H : Hp} {s : Shared} {R : It → Hp → Prop} {E : Value → Shared → Prop} {lo hi : Int} {t u v : Tok} {tk : Nat} (I : Inv X pins σ H s) (h1 : -(2 ^ 62) ≤ lo) (h2 : lo < 2 ^ 62) (h3 : -(2 ^ 62) ≤ hi) (h4 : hi < 2 ^ 62)
  (q : R (Zic lo (lo - hi).toNat) H) : wpAny (model X.prog X.w) X.A (pyIter (.ref s.heap.objs.size)) (PIE X pins σ tg R) E { s with heap := s.heap.push { cls := .type "range", data := .fields #[.int lo t, .int hi u, .int (-1) v] }, toks := tk } := by
 refine wpAny_pyIter_range (IsRange.new ..) (small_down h1 h2 h3 h4) ?_
 have I1 : Inv X pins σ H { s with heap := s.heap.push { cls := .type "range", data := .fields #[.int lo t, .int hi u, .int (-1) v] }, toks := tk } := I.kept fun b o e => Heap.get?_push_of_some _ e
 refine ⟨(s.heap.push { cls := .type "range", data := .fields #[.int lo t, .int hi u, .int (-1) v] }).objs.size, [(s.heap.push { cls := .type "range", data := .fields #[.int lo t, .int hi u, .int (-1) v] }).objs.size], _, _, H, rfl,
  I1.kept (t' := tk) fun b o e => Heap.get?_push_of_some _ e, ZbD _ lo (lo - hi).toNat, ?_, fun b hb => ?_, q⟩
 ·have e1 : lo + ((0 : Nat) : Int) * (-1) = lo := by simp
  have e2 : (((lo - hi).toNat : Nat) : Int) - ((0 : Nat) : Int) = Builtin.Range.rangeSize lo hi (-1) := by rw [rangeSize_downNat]; omega
  show IsRangeIter _ _ (lo + ((0 : Nat) : Int) * (-1)) ((((lo - hi).toNat : Nat) : Int) - ((0 : Nat) : Int)) (-1)
  rw [e1, e2]
  exact Heap.get?_push_size _ rfl
 ·have e : b = (s.heap.push { cls := .type "range", data := .fields #[.int lo t, .int hi u, .int (-1) v] }).objs.size := by simpa using hb
  subst e
  exact I1.fpOk (Nat.le_refl _) (I1.hok.fresh (Nat.le_refl _))
def Zj4 (ta : TA) : TI := fun σ H R => ta σ H fun vs H1 => ∃ i j : Int, vs = [.int i, .int j, .int (-1)] ∧ (-(2 ^ 62) ≤ i ∧ i < 2 ^ 62 ∧ -(2 ^ 62) ≤ j ∧ j < 2 ^ 62) ∧ R (Zic i (i - j).toNat) H1
theorem Zec {a : Expr} {rs : List Expr} {ta : TA} {p pos : Pos} (hg : Gl X "range") (hm : X.mg "range" = none) (ha : PA X (a :: rs) ta) (hs : starEach (a :: rs) X.env = (false, eval a X.env) :: starEach rs X.env := by rfl) (hpl : (backTo pos (starEach rs X.env)).any (·.1) = false := by rfl) : PI X tg (.Call (.Name "range" p) (a :: rs) [] pos) (Zj4 ta) := by
 intro pins s σ H R I h
 refine Call_ (Y8 I hg hm boot_range (PyProof.Rows.callWith_type1 (thn (ha pos pins s σ H _ I h) fun us s1 ⟨vs, H1, I1, r1, q1⟩ => ?_) hs hpl))
 obtain ⟨i, j, e, ⟨q1, q2, q3, q4⟩, q⟩ := q1
 subst e
 cases r1 with
 | cons r rr =>
  cases rr with
  | cons r' rr =>
   cases rr with
   | cons r'' rr =>
    cases rr
    obtain ⟨t, rfl⟩ := r
    obtain ⟨t', rfl⟩ := r'
    obtain ⟨t'', rfl⟩ := r''
    exact call_range_3 (by decide) (Zd4 I1 q1 q2 q3 q4 q) (.inl (PyProof.noPylong_of_log2 (by decide +kernel)))
theorem Zdg {lo : Int} {n : Nat} {g : TG} {tb : TS} {D : Zfi} {σ : St} {H : Hp} (Pv : Nat → St → Hp → Prop) (h0 : Pv 0 σ H)
  (hs : ∀ i σ H, i < n → Pv i σ H → g (.int (lo - i)) σ H fun σ2 H2 => tb { D with nx := Pv (i + 1), ct := Pv (i + 1), bk := D.nx } σ2 H2) (hd : ∀ σ H, Pv n σ H → D.nx σ H) :
  ∃ W : Nat → Nat → St → Hp → Prop, (∃ m, W 0 m σ H) ∧ ∀ i m σ H, W i m σ H →
   ((Zic lo n).stop i H ∧ D.nx σ H) ∨ ((Zic lo n).go i H ∧ ∃ N : St → Hp → Prop, (∀ σ' H', N σ' H' → ∃ m', m' < m ∧ W (i + 1) m' σ' H') ∧ ∀ x H', (Zic lo n).yld i H x H' → g x σ H' fun σ2 H2 => tb { D with nx := N, ct := N, bk := D.nx } σ2 H2) := by
 refine ⟨fun i m σ H => m = n - i ∧ i ≤ n ∧ Pv i σ H, ⟨n, by simp, Nat.zero_le _, h0⟩, ?_⟩
 rintro i m σ H ⟨rfl, hi, p⟩
 by_cases hlt : i < n
 ·refine .inr ⟨hlt, Pv (i + 1), fun σ' H' p' => ⟨n - (i + 1), by omega, rfl, hlt, p'⟩, fun x H' y => ?_⟩
  obtain ⟨e, y⟩ := y
  subst e y
  exact hs i σ _ hlt p
 ·have e : i = n := by omega
  subst e
  exact .inl ⟨Nat.le_refl _, hd σ H p⟩
theorem Vals.rev {xs : List V} {us : List Value} (r : Vals xs us) : Vals xs.reverse us.reverse := by
 induction r with
 | nil => exact .nil
 | cons h t ih =>
  rw [List.reverse_cons, List.reverse_cons]
  exact Vals.append ih (.cons h .nil)
def ZkA (K : PySem.W.Frag) (te ts : TE) : TE := fun σ H Q => te σ H fun x H1 => ts σ H1 fun y H2 => ∃ a xs, x = .ref a ∧ SqL K H2 a xs ∧ y = .int (-1) ∧ ∀ p, H2 p = none → Q (.ref p) (upd H2 p (.lst xs.reverse))
theorem ZiA {e st : Expr} {te ts : TE} {p2 pos : Pos} (he : PE X e te) (hs : PE X st ts) : PE X (.Subscript e (.Slice none none (some st) p2) pos) (ZkA X.K te ts) := by
 intro pins s σ H Q I h
 refine Subscript_ (thn (he pins s σ H _ I h) fun v s1 ⟨x, H1, I1, r1, q1⟩ => ?_)
 refine wpAny_Slice ?_
 rw [evalPart_none]
 refine wpAny_pure (wpAny_pure ?_)
 rw [evalPart_some]
 refine thn (hs pins s1 σ H1 _ I1 q1) fun vs s3 ⟨y, H3, I3, ry, q3⟩ => ?_
 obtain ⟨a, xs, rfl, hx, rfl, q⟩ := q3
 obtain ⟨t, rfl⟩ := ry
 cases r1
 have I4 : Inv X pins σ H3 { s3 with heap := s3.heap.push { cls := .type "slice", data := .fields #[.none, .none, .int (-1) t] } } := I3.kept (t' := s3.toks) fun b ob q => Heap.get?_push_of_some _ q
 obtain ⟨its, r, ht, hz⟩ := I4.list hx
 have hlen := r.length
 refine tail_any (ops := [.ref a, .ref s3.heap.objs.size]) ht.isList.typeIs slot_list_getitem.lookup ?_ (by with_unfolding_all rfl)
 refine wpAny_getItem_list_slice ht.isList (Heap.IsSliceOf.new ..) .none .none (.int (-1) t) (by decide) ?_ (by rw [List.size_toArray] <;> omega)
 rw [krv_pick]
 have hv := r.rev
 refine ⟨.ref _, _, I4.laid (t' := s3.toks) (o := .lst xs.reverse) (fun b ob q => Heap.get?_push_of_some _ q) (Nat.le_refl _) ?_, rfl, q _ (I4.hok.fresh (Nat.le_refl _))⟩
 exact ⟨by rw [List.length_reverse]; omega, _, 0, hv, Heap.get?_push_size _ rfl⟩
end
end L2
namespace Tim
open PySem PySem.W PyProof.Rows
section
variable {prog : Program} {w : World} {A : Around} {E : Value → Shared → Prop} {s : Shared}
end
end Tim
namespace L2
open PySem PySem.Spec PyProof.Rows PySem.W
end L2
namespace L2
open PySem PySem.Spec PyProof.Rows
def Zkl (_ j : Int) : Prop := j ≠ 0 ∧ j.natAbs < 2 ^ 4000
theorem ZfN {X : Cx} : OpR X (binaryOp .FloorDiv) (rI Zkl fun i j => .int (i.fdiv j)) := opI fun _ j _ _ _ _ _ hc q => floordiv_int hc.1 q (.inl (PyProof.noPylong_of_log2 (by
 have h0 : j.natAbs ≠ 0 := fun z => hc.1 (by omega)
 have := (Nat.log2_lt h0).mpr hc.2
 omega)))
end L2
namespace PySem
namespace F
theorem lri_no_len : typeLookup (.type "list_reverseiterator") "__len__" = pure none := by rw [typeLookup_type, builtinLookup_eq_fast]; kernel_rfl
theorem slot_lri_hint : Slot "list_reverseiterator" "__length_hint__" "list_reverseiterator.__length_hint__" :=
 .of (owner := "list_reverseiterator") (n := "__length_hint__") (by rw [typeLookup_type, builtinLookup_eq_fast]; kernel_rfl) (by decide +kernel) (by decide +kernel) (by decide +kernel)
  (by first | exact .inl (by decide +kernel) | exact .inr (by decide +kernel)) (by rw [isSubtype_type]; kernel_rfl)
theorem sub_lri_lri : isSubtype (.type "list_reverseiterator") (.type "list_reverseiterator") = pure true := by rw [isSubtype_type]; kernel_rfl
end F
section
variable {prog : Program} {w : World} {A : Around} {E : Value → Shared → Prop} {s : Shared}
theorem Zf1 {it l : Addr} {items : Array Value} {Q : Bool → Shared → Prop} (hit : s.heap.IsRevIter it l ((items.size : Int) - 1)) (hl : s.heap.IsList l items) (hx : items.size ≤ sizeLine)
  (h : ∀ b tk, Q b { s with toks := tk }) : wpAny (model prog w) A (Builtin.List.listLengthHint (.ref it)) Q E s := by
 have hs : sizeLine = 16777216 := sizeLine_eq
 unfold Builtin.List.listLengthHint
 refine wpAny_bind (wpAny_specialOf hit.typeIs F.lri_no_len ?_)
 show wpAny _ _ (specialOf (Value.ref it) (Str.ofString "__length_hint__") >>= _) _ _ _
 refine wpAny_bind (wpAny_specialOf hit.typeIs F.slot_lri_hint.lookup ?_)
 have hsp : splitId "list_reverseiterator.__length_hint__" = some ("list_reverseiterator", "__length_hint__") := by decide +kernel
 try dsimp only
 rw [hsp]
 try dsimp only
 refine wpAny_bind (wpAny_isInstance hit.typeIs F.sub_lri_lri ?_)
 rw [if_neg (by decide)]
 rw [if_pos (by decide +kernel)]
 rw [if_neg (show ¬ ((Value.builtin "list_reverseiterator.__length_hint__" == Value.builtin "range_iterator.__length_hint__") = true) by decide +kernel)]
 exact wpAny_pure (h _ s.toks)
section
variable {R : Result → Shared → Prop}
theorem Zdl (hh : A.handled = none) {I l : Addr} {items : Array Value} (hx : items.size ≤ sizeLine) (S : Addr) (c₀ : Nat) (hit : s.heap.IsRevIter I l ((items.size : Int) - 1)) (hl : s.heap.IsList l items) (hlI : l ≠ I) (hSI : S ≠ I) (hSl : S ≠ l)
  (hS : s.heap.get? S = some { cls := .type "list", data := .seq #[] c₀ })
  (hR : ∀ h' tk acc' c', (∀ b o, b ≠ S → b ≠ I → s.heap.get? b = some o → h'.get? b = some o) → h'.get? S = some { cls := .type "list", dict := none, data := .seq acc' c', slots := #[] } →
   ItemsOf (fun i v => items[items.size - 1 - i]? = some v) acc' items.size → R (.ok (.ret .none)) { s with heap := h', toks := tk }) :
  wpAny (model prog w) A.in1 (Builtin.List.listExtendWith (.ref S) (.ref I) .none)
   (fun fin s' => match fin with | .done f => R (.ok f) s' | .again c' => c'.quiet = true ∧ codeAny (model prog w) A c' R s') (fun e s' => R (.error e) s') s := by
 have hSf : S ∉ [I, l] := fun hm => by
  rcases List.mem_cons.mp hm with e | hm
  ·exact hSI e
  ·exact hSl (List.mem_singleton.mp hm)
 unfold Builtin.List.listExtendWith
 refine wpAny_bind (wpAny_typeOf hit.typeIs ?_)
 have h1 : Builtin.List.listSameRef (.ref S) (.ref I) = false := by simp [Builtin.List.listSameRef, hSI]
 have h2 : (Value.type "list_reverseiterator" == Value.type "list") = false := by decide
 have h3 : (Value.type "list_reverseiterator" == Value.type "tuple") = false := by decide
 simp only [h1, h2, h3, Bool.or_false, Bool.false_eq_true, if_false]
 refine wpAny_bind (wpAny_pyIter_revIter hit ?_)
 refine wpAny_bind (wpAny_holding (Zf1 hit hl hx fun b tk => ?_))
 have W := (Walks.listRev (prog := prog) (w := w) (A := A.in1) hh I l hlI items).toS
 have st0 : ∀ h' : Heap, (∀ b o, b ≠ S → s.heap.get? b = some o → h'.get? b = some o) → (0 ≤ items.size ∧ h'.IsRevIter I l ((items.size : Int) - 1 - ((0 : Nat) : Int)) ∧ h'.IsList l items) := fun h' hk => ⟨Nat.zero_le _, by
  have := hit.at (h' := h') fun o e => hk I o (Ne.symm hSI) e
  have e : (items.size : Int) - 1 - ((0 : Nat) : Int) = (items.size : Int) - 1 := by omega
  rw [e]
  exact this, hl.at fun o e => hk l o (Ne.symm hSl) e⟩
 have fin : ∀ (h₁ : Heap) (c₁ : Nat), (∀ b o, b ≠ S → s.heap.get? b = some o → h₁.get? b = some o) → h₁.get? S = some { cls := .type "list", data := .seq #[] c₁ } →
   codeAny (model prog w) A (.builtin "list.extend.loop" ⟨[.ref S, .ref I, .none], []⟩) R { s with heap := h₁, toks := tk } := fun h₁ c₁ hk hS₁ => by
  refine codeAny_extend_loopS W hx _ hSf _ items.size 0 _ _ _ rfl (Nat.zero_le _) (st0 h₁ hk) hS₁ (ItemsOf.nil _) fun s' acc' c' hm hS' hacc => ?_
  rw [Moved.eq_with hm]
  refine hR s'.heap s'.toks acc' c' (fun b ob hb hbI e => hm.heap b ob (fun hmem => ?_) (hk b ob hb e)) hS' hacc
  rcases List.mem_cons.mp hmem with e' | hmem
  ·exact hb e'
  ·exact hbI (List.mem_singleton.mp hmem)
 split
 ·refine wpAny_bind (wpAny_rule ?_)
  refine wpAny_bind ?_
  show wpAny _ A.in1 (updateSeq S (·.push .none) >>= fun _ => updateSeq S (·.pop)) _ _ _
  refine wpAny_bind (wpAny_updateSeq hS rfl ?_)
  have hS₂ := Heap.get?_update_self (Obj.mapSeq (·.push Value.none)) hS rfl
  refine wpAny_updateSeq (hz := by seq_fits) hS₂ rfl ?_
  have hS₃ := Heap.get?_update_self (Obj.mapSeq (·.pop)) hS₂ rfl
  exact wpAny_pure ⟨plainId_quiet F.plain_extend_loop _, fin _ _ (fun b o hb e => (Heap.get?_update_other _ _ (Ne.symm hb)).trans ((Heap.get?_update_other _ _ (Ne.symm hb)).trans e)) hS₃⟩
 ·exact wpAny_pure ⟨plainId_quiet F.plain_extend_loop _, fin _ _ (fun b o hb e => e) hS⟩
theorem ZaC (hh : A.handled = none) {I l : Addr} {items : Array Value} (hx : items.size ≤ sizeLine) (S : Addr) (hit : s.heap.IsRevIter I l ((items.size : Int) - 1)) (hl : s.heap.IsList l items) (hlI : l ≠ I) (hSI : S ≠ I) (hSl : S ≠ l)
  (hS : s.heap.get? S = some { cls := .type "list", data := .seq #[] })
  (hR : ∀ h' tk acc' c', (∀ b o, b ≠ S → b ≠ I → s.heap.get? b = some o → h'.get? b = some o) → h'.get? S = some { cls := .type "list", dict := none, data := .seq acc' c', slots := #[] } →
   ItemsOf (fun i v => items[items.size - 1 - i]? = some v) acc' items.size → R (.ok (.ret .none)) { s with heap := h', toks := tk }) :
  wpAny (model prog w) A.in1 (Builtin.«list.__init__» ⟨[.ref S, .ref I], []⟩)
   (fun fin s' => match fin with | .done f => R (.ok f) s' | .again c' => c'.quiet = true ∧ codeAny (model prog w) A c' R s') (fun e s' => R (.error e) s') s := by
 show wpAny _ A.in1 (do let old ← Builtin.List.listItems (.ref S); Builtin.List.listUpdate (.ref S) (fun _ => #[]); letGo old.toList.reverse; Builtin.List.listExtendWith (.ref S) (.ref I) .none) _ _ s
 refine wpAny_bind ?_
 unfold Builtin.List.listItems
 refine wpAny_bind (wpAny_seqItems hS rfl (wpAny_pure ?_))
 show wpAny _ A.in1 (updateSeq S (fun _ => #[]) >>= fun _ => letGo (#[] : Array Value).toList.reverse >>= fun _ => Builtin.List.listExtendWith (.ref S) (.ref I) .none) _ _ s
 refine wpAny_bind (wpAny_updateSeq hS rfl ?_)
 have hS₂ := Heap.get?_update_self (Obj.mapSeq (fun _ => (#[] : Array Value))) hS rfl
 have oth : ∀ b o, b ≠ S → s.heap.get? b = some o → (s.heap.update S (Obj.mapSeq (fun _ => (#[] : Array Value)))).get? b = some o :=
  fun b o hb e => (Heap.get?_update_other _ _ (Ne.symm hb)).trans e
 refine wpAny_bind (wpAny_letGo ?_)
 refine Zdl hh hx S _ (hit.at fun o e => oth I o (Ne.symm hSI) e) (hl.at fun o e => oth l o (Ne.symm hSl) e) hlI hSI hSl hS₂ fun h' tk acc' c' hk hS' hacc => ?_
 exact hR h' tk acc' c' (fun b o hb hbI e => hk b o hb hbI (oth b o hb e)) hS' hacc
end
theorem ZaP (hh : A.handled = none) {I l : Addr} {items : Array Value} {Q : Value → Shared → Prop} (hx : items.size ≤ sizeLine) (hit : s.heap.IsRevIter I l ((items.size : Int) - 1)) (hl : s.heap.IsList l items) (hlI : l ≠ I)
  (hQ : ∀ h' tk acc' c', (∀ b o, b ≠ I → s.heap.get? b = some o → h'.get? b = some o) → h'.get? s.heap.objs.size = some { cls := .type "list", dict := none, data := .seq acc' c', slots := #[] } →
   ItemsOf (fun i v => items[items.size - 1 - i]? = some v) acc' items.size → Q (.ref s.heap.objs.size) { s with heap := h', toks := tk }) :
  wpAny (model prog w) A (call (.type "list") [.ref I]) Q E s := by
 have hSI : s.heap.objs.size ≠ I := fun e => by
  obtain ⟨o, ho, _⟩ := hit
  exact Nat.lt_irrefl _ (e ▸ Heap.lt_size ho)
 have hSl : s.heap.objs.size ≠ l := fun e => by
  obtain ⟨o, ho, _⟩ := hl
  exact Nat.lt_irrefl _ (e ▸ Heap.lt_size ho)
 refine callType_codes (Q₁ := fun obj s₁ => obj = .ref s.heap.objs.size ∧ s₁ = { s with heap := s.heap.push { cls := .type "list", data := .seq #[] } }) F.called_list (F.typeCall_list_1 _) F.entry_list_init
  (code_list_new _ ⟨rfl, rfl⟩) fun obj s₁ h₁ => ?_
 obtain ⟨rfl, rfl⟩ := h₁
 have hS : (s.heap.push { cls := .type "list", data := .seq #[] }).get? s.heap.objs.size = some { cls := .type "list", data := .seq #[] } := Heap.get?_push_size _ rfl
 refine ⟨⟨_, hS, rfl⟩, F.args_list_init_2 _ _, ZaC (A := A.in1) hh hx _ (hit.at fun o e => Heap.get?_push_of_some _ e) (hl.at fun o e => Heap.get?_push_of_some _ e) hlI hSI hSl hS fun h' tk acc' c' hk hS' hacc => ?_⟩
 exact ⟨rfl, hQ h' tk acc' c' (fun b o hbI e => hk b o (Nat.ne_of_lt (Heap.lt_size e)) hbI (Heap.get?_push_of_some _ e)) hS' hacc⟩
end
end PySem
namespace L2
open PySem PySem.Spec PyProof.Rows
def ZkF (K : PySem.W.Frag) (te : TE) : TE := fun σ H Q => te σ H fun x H1 => ∃ a xs, x = .ref a ∧ SqL K H1 a xs ∧ ∀ p, H1 p = none → Q (.ref p) (upd H1 p (.lst xs.reverse))
theorem ZbM {X : Cx} {e : Expr} {te : TE} {p1 p2 pos1 pos2 : Pos} (hc : X.calm = true) (hgl : Gl X "list") (hml : X.mg "list" = none) (hgr : Gl X "reversed") (hmr : X.mg "reversed" = none) (he : PE X e te)
  (hs1 : starEach [.Call (.Name "reversed" p2) [e] [] pos2] X.env = [(false, eval (.Call (.Name "reversed" p2) [e] [] pos2) X.env)] := by rfl) (hs2 : starEach [e] X.env = [(false, eval e X.env)] := by rfl) :
  PE X (.Call (.Name "list" p1) [.Call (.Name "reversed" p2) [e] [] pos2] [] pos1) (ZkF X.K te) := by
 intro pins s σ H Q I h
 refine wpAny_Call_Name_kw (Y8 I hgl hml Zfd ?_ (by decide) (by decide))
 refine PyProof.Rows.callWith_type1 ?_ hs1 rfl
 rw [hs1]
 refine Calls.spliced_cons ?_
 refine wpAny_Call_Name_kw (Y8 I hgr hmr J9 ?_ (by decide) (by decide))
 refine PyProof.Rows.callWith_type1 ?_ hs2 rfl
 rw [hs2]
 refine Calls.spliced_cons (thn (he pins s σ H _ I h) fun u s1 ⟨x, H1, I1, r1, q1⟩ => Calls.spliced_nil ?_)
 obtain ⟨a, xs, rfl, hx, q⟩ := q1
 cases r1
 obtain ⟨its, rv, pl, hz⟩ := I1.list hx
 have hl := rv.length
 have hlt : a < s1.heap.objs.size := by
  obtain ⟨o, n, e, _⟩ := pl
  exact Heap.lt_size e
 refine call_reversed_list pl.isList ?_
 refine Calls.spliced_nil ?_
 refine ZaP (items := its.toArray) (l := a) (I := s1.heap.objs.size) (I.ok.hd hc) (by rw [List.size_toArray]; omega) ⟨_, Heap.get?_push_size _ rfl, rfl, rfl⟩ (pl.isList.push _) (Nat.ne_of_lt hlt) fun h' tk acc c hk hS hacc => ?_
 have hsz : (s1.heap.push (revObj a ((its.toArray.size : Int) - 1))).objs.size = s1.heap.objs.size + 1 := Heap.size_push ..
 dsimp only at hS hk ⊢
 rw [hsz] at hS ⊢
 have hf : H1 (s1.heap.objs.size + 1) = none := I1.hok.fresh (Nat.le_succ _)
 refine ⟨.ref (s1.heap.objs.size + 1), _, I1.laid (h' := h') (t' := tk) (a := s1.heap.objs.size + 1) (o := .lst xs.reverse) (fun b u e => hk b u (Nat.ne_of_lt (Heap.lt_size e)) (Heap.get?_push_of_some _ e)) (Nat.le_succ _) ?_, rfl, q _ hf⟩
 refine ⟨by rw [List.length_reverse]; exact hz, acc.toList, c, ?_, by rw [hS, Array.toArray_toList]⟩
 have es : its.toArray.size = its.length := List.size_toArray ..
 have hal : acc.toList.length = xs.length := by rw [Array.length_toList]; exact hacc.1.trans (es.trans hl.symm)
 refine Zdr _ _ (by rw [List.length_reverse, hal]) fun i w u e1 e2 => ?_
 have hi : i < xs.length := by
  have := (List.getElem?_eq_some_iff.mp e1).1
  rw [List.length_reverse] at this
  exact this
 have h3 := hacc.2 i u (by rw [← Array.getElem?_toList]; exact e2)
 rw [List.getElem?_reverse hi] at e1
 obtain ⟨u', hu, ru⟩ := rv.get e1
 rw [es, ← hl] at h3
 have h4 : its[xs.length - 1 - i]? = some u := by simpa using h3
 rw [hu] at h4
 cases h4
 exact ru
end L2
namespace Sh
open PySem L2 PyProof.Rows
abbrev Ts := List (Str × Str)
def dl (a b : Str) : Int := if a = b then 1 else 0
theorem ZaK (a : Str) : dl a a = 1 := if_pos rfl
theorem Zjm (a b : Str) : 0 ≤ dl a b := by unfold dl; split <;> omega
def frm (ts : Ts) (i : Nat) : Str := (ts.getD i ("", "")).1
def tow (ts : Ts) (i : Nat) : Str := (ts.getD i ("", "")).2
def bal (ts : Ts) (X : List Nat) (p : Str) : Int := (X.map fun i => dl (frm ts i) p - dl (tow ts i) p).sum
theorem Jx (ts : Ts) (p : Str) : bal ts [] p = 0 := rfl
theorem ZY (ts : Ts) (i : Nat) (X : List Nat) (p : Str) : bal ts (i :: X) p = dl (frm ts i) p - dl (tow ts i) p + bal ts X p := by
 unfold bal
 rw [List.map_cons, List.sum_cons]
theorem Y4 (ts : Ts) (X Y : List Nat) (p : Str) : bal ts (X ++ Y) p = bal ts X p + bal ts Y p := by
 unfold bal
 rw [List.map_append, List.sum_append]
theorem XW {ts : Ts} {X Y : List Nat} (h : X.Perm Y) (p : Str) : bal ts X p = bal ts Y p := by
 induction h with
 | nil => rfl
 | cons x _ ih => rw [ZY, ZY, ih]
 | swap x y l => rw [ZY, ZY, ZY, ZY]; omega
 | trans _ _ a b => exact a.trans b
inductive Ch (ts : Ts) : Str → List Nat → Str → Prop where
 | nil (u : Str) : Ch ts u [] u
 | cons {i : Nat} {X : List Nat} {u v : Str} (e : frm ts i = u) (h : Ch ts (tow ts i) X v) : Ch ts u (i :: X) v
theorem Ch.bal {ts : Ts} {u v : Str} {X : List Nat} (h : Ch ts u X v) (p : Str) : bal ts X p = dl u p - dl v p := by
 induction h with
 | nil u => rw [Jx]; omega
 | cons e h ih => rw [ZY, ih, e]; omega
theorem Ch.snoc {ts : Ts} {u v : Str} {X : List Nat} {i : Nat} (h : Ch ts u X v) (e : frm ts i = v) : Ch ts u (X ++ [i]) (tow ts i) := by
 induction h with
 | nil u => exact .cons e (.nil _)
 | cons e' h ih => exact .cons e' (ih e)
theorem Ch.pop {ts : Ts} {u v : Str} {i : Nat} : ∀ {X : List Nat}, Ch ts u (X ++ [i]) v → Ch ts u X (frm ts i) ∧ v = tow ts i
 | [], h => by
  cases h with
  | cons e h =>
   cases h
   exact ⟨e ▸ .nil _, rfl⟩
 | j :: X, h => by
  cases h with
  | cons e h =>
   obtain ⟨a, b⟩ := Ch.pop (X := X) h
   exact ⟨.cons e a, b⟩
def Zjx (ts : Ts) (P y : Str) : Prop := ∃ i, i < ts.length ∧ ((frm ts i = P ∧ tow ts i = y) ∨ (tow ts i = P ∧ frm ts i = y))
inductive RchT (ts : Ts) (a : Str) : Str → Prop where
 | here : RchT ts a a
 | step {P y : Str} (h : RchT ts a P) (k : Zjx ts P y) : RchT ts a y
theorem RchT.closed {ts : Ts} {a : Str} {F : Str → Prop} (ha : F a) (hc : ∀ P, F P → ∀ y, Zjx ts P y → F y) {y : Str} (h : RchT ts a y) : F y := by
 induction h with
 | here => exact ha
 | step _ k ih => exact hc _ ih _ k
def Deg (ts : Ts) (b f : Str) : Prop := ∀ p, bal ts (List.range ts.length) p = dl b p - dl f p
def Zg4 (ts : Ts) (b : Str) : Prop := (∃ f, Deg ts b f) ∧ ∀ i, i < ts.length → RchT ts b (frm ts i)
def Eul (ts : Ts) (b : Str) (X : List Nat) : Prop := X.Perm (List.range ts.length) ∧ ∃ v, Ch ts b X v
theorem Y0 {X Y : List Nat} (h1 : X.Nodup) (h2 : Y.Nodup) (h : ∀ x, x ∈ X ↔ x ∈ Y) : X.Perm Y := by
 rw [List.perm_iff_count]
 intro a
 rw [h1.count, h2.count]
 by_cases c : a ∈ X
 ·rw [if_pos c, if_pos ((h a).mp c)]
 ·rw [if_neg c, if_neg (fun z => c ((h a).mpr z))]
theorem Zew {F : List Nat} : ∀ {ks : List Nat}, F.Nodup → (∀ x ∈ F, x ∈ ks) → F.length ≤ ks.length := by
 induction F with
 | nil => exact fun _ _ => Nat.zero_le _
 | cons x F ih =>
  intro ks h1 h2
  have nd' := List.nodup_cons.mp h1
  have hx := h2 x (List.mem_cons_self ..)
  have := ih (ks := ks.erase x) nd'.2 fun y hy => (List.mem_erase_of_ne (fun (q : y = x) => nd'.1 (q ▸ hy))).mpr (h2 y (List.mem_cons_of_mem _ hy))
  rw [List.length_erase_of_mem hx] at this
  have hpos : 0 < ks.length := List.length_pos_of_mem hx
  rw [List.length_cons]
  omega
theorem ZhC {F ks : List Nat} (h1 : F.Nodup) (h2 : ∀ x ∈ F, x ∈ ks) (he : F.length = ks.length) : ∀ x ∈ ks, x ∈ F := by
 intro x hx
 apply Classical.byContradiction
 intro hn
 have := Zew (ks := ks.erase x) h1 fun y hy => (List.mem_erase_of_ne (fun (q : y = x) => hn (q ▸ hy))).mpr (h2 y hy)
 rw [List.length_erase_of_mem hx] at this
 have hpos : 0 < ks.length := List.length_pos_of_mem hx
 omega
structure WI (ts : Ts) (b pt : Str) (r : Str → List Nat) (G B : List Nat) : Prop where
 nd : (G ++ B).Nodup
 lt : ∀ i ∈ G ++ B, i < ts.length
 rnd : ∀ p, (r p).Nodup
 row : ∀ p i, i ∈ r p ↔ i < ts.length ∧ frm ts i = p ∧ i ∉ G ++ B
 chG : Ch ts b G pt
 chB : ∀ f, Deg ts b f → ∃ w, Ch ts w B.reverse f
 stk : ∀ i ∈ B, r (tow ts i) = []
theorem WI.start {ts : Ts} {b : Str} {r : Str → List Nat} (h1 : ∀ p, (r p).Nodup) (h2 : ∀ p i, i ∈ r p ↔ i < ts.length ∧ frm ts i = p) : WI ts b b r [] [] where
 nd := List.nodup_nil
 lt := fun i hi => by cases hi
 rnd := h1
 row := fun p i => by rw [h2]; simp
 chG := .nil _
 chB := fun f _ => ⟨f, .nil _⟩
 stk := fun i hi => by cases hi
def Zfj (r : Str → List Nat) (p : Str) (X : List Nat) : Str → List Nat := fun q => if q = p then X else r q
theorem WI.push {ts : Ts} {b pt : Str} {r : Str → List Nat} {G B X : List Nat} {i : Nat} (h : WI ts b pt r G B) (e : r pt = X ++ [i]) : WI ts b (tow ts i) (Zfj r pt X) (G ++ [i]) B := by
 have hi := (h.row pt i).mp (by rw [e]; simp)
 have hrn := h.rnd pt
 rw [e] at hrn
 have hiX : i ∉ X := fun z => (List.nodup_append.mp hrn).2.2 i z i (by simp) rfl
 have mm : ∀ j, j ∈ (G ++ [i]) ++ B ↔ j ∈ G ++ B ∨ j = i := fun j => by
  simp only [List.mem_append, List.mem_singleton]
  constructor
  ·rintro ((z | z) | z)
   ·exact .inl (.inl z)
   ·exact .inr z
   ·exact .inl (.inr z)
  ·rintro ((z | z) | z)
   ·exact .inl (.inl z)
   ·exact .inr z
   ·exact .inl (.inr z)
 refine ⟨?_, fun j hj => ?_, fun p => ?_, fun p j => ?_, h.chG.snoc hi.2.1, h.chB, fun j hj => ?_⟩
 ·have pp : ((G ++ [i]) ++ B).Perm (i :: (G ++ B)) := by
   rw [List.append_assoc, List.singleton_append]
   exact List.perm_middle
  exact pp.nodup_iff.mpr (List.nodup_cons.mpr ⟨hi.2.2, h.nd⟩)
 ·rcases (mm j).mp hj with z | z
  ·exact h.lt j z
  ·rw [z]; exact hi.1
 ·unfold Zfj
  split
  ·exact (List.nodup_append.mp hrn).1
  ·exact h.rnd p
 ·rw [mm]
  unfold Zfj
  by_cases c : p = pt
  ·rw [if_pos c]
   have hr := h.row pt j
   rw [e, List.mem_append, List.mem_singleton] at hr
   subst c
   constructor
   ·intro z
    obtain ⟨a1, a2, a3⟩ := hr.mp (.inl z)
    exact ⟨a1, a2, fun q => q.elim a3 fun w => hiX (w ▸ z)⟩
   ·rintro ⟨a1, a2, a3⟩
    rcases hr.mpr ⟨a1, a2, fun q => a3 (.inl q)⟩ with z | z
    ·exact z
    ·exact absurd (.inr z) a3
  ·rw [if_neg c, h.row]
   constructor
   ·rintro ⟨a1, a2, a3⟩
    refine ⟨a1, a2, fun q => q.elim a3 fun w => c ?_⟩
    rw [← a2, w, hi.2.1]
   ·rintro ⟨a1, a2, a3⟩
    exact ⟨a1, a2, fun q => a3 (.inl q)⟩
 ·unfold Zfj
  have hs := h.stk j hj
  rw [if_neg (fun c => by rw [c, e] at hs; simp at hs)]
  exact hs
theorem WI.stuck {ts : Ts} {b pt w f : Str} {r : Str → List Nat} {G B : List Nat} (h : WI ts b pt r G B) (e : r pt = []) (d : Deg ts b f) (c : Ch ts w B.reverse f) : pt = w := by
 have hp : (List.range ts.length).Perm ((G ++ B) ++ (List.range ts.length).filter fun i => decide (i ∉ G ++ B)) := by
  refine Y0 List.nodup_range (List.nodup_append.mpr ⟨h.nd, List.nodup_range.filter _, fun a ha b' hb z => ?_⟩) fun x => ?_
  ·subst z
   have := (List.mem_filter.mp hb).2
   simp only [decide_eq_true_eq] at this
   exact this ha
  ·rw [List.mem_append, List.mem_filter, List.mem_range]
   constructor
   ·intro hx
    by_cases cc : x ∈ G ++ B
    ·exact .inl cc
    ·exact .inr ⟨hx, decide_eq_true cc⟩
   ·rintro (z | z)
    ·exact h.lt x z
    ·exact z.1
 have h1 := d pt
 rw [XW hp, Y4, Y4, h.chG.bal, ← XW (List.reverse_perm B), c.bal] at h1
 have h2 : ∀ L : List Nat, (∀ i ∈ L, frm ts i ≠ pt) → bal ts L pt ≤ 0 := by
  intro L
  induction L with
  | nil => intro _; rw [Jx]; omega
  | cons i L ih =>
   intro hL
   have a := ih fun j hj => hL j (List.mem_cons_of_mem _ hj)
   have b' : dl (frm ts i) pt = 0 := if_neg (hL i (List.mem_cons_self ..))
   have c' := Zjm (tow ts i) pt
   rw [ZY]
   omega
 have h3 := h2 ((List.range ts.length).filter fun i => decide (i ∉ G ++ B)) fun i hi z => by
  obtain ⟨a1, a2⟩ := List.mem_filter.mp hi
  have := (h.row pt i).mpr ⟨List.mem_range.mp a1, z, by simpa using a2⟩
  rw [e] at this
  cases this
 rw [ZaK] at h1
 apply Classical.byContradiction
 intro hn
 have h4 : dl w pt = 0 := if_neg (fun z => hn z.symm)
 omega
theorem WI.pop {ts : Ts} {b pt : Str} {r : Str → List Nat} {X B : List Nat} {i : Nat} (h : WI ts b pt r (X ++ [i]) B) (e : r pt = []) : WI ts b (frm ts i) r X (B ++ [i]) := by
 obtain ⟨c1, c2⟩ := h.chG.pop
 have pp : (X ++ (B ++ [i])).Perm ((X ++ [i]) ++ B) := by
  rw [List.append_assoc]
  exact List.perm_append_comm.append_left _ |>.trans (List.Perm.refl _)
 refine ⟨pp.nodup_iff.mpr h.nd, fun j hj => h.lt j (pp.mem_iff.mp hj), h.rnd, fun p j => by rw [h.row, pp.mem_iff], c1, fun f d => ?_, fun j hj => ?_⟩
 ·obtain ⟨w, c⟩ := h.chB f d
  have := h.stuck e d c
  rw [List.reverse_append, List.reverse_singleton, List.singleton_append]
  refine ⟨frm ts i, .cons rfl ?_⟩
  rw [← c2, this]
  exact c
 ·rcases List.mem_append.mp hj with z | z
  ·exact h.stk j z
  ·rw [List.mem_singleton.mp z, ← c2]
   exact e
theorem WI.done {ts : Ts} {b pt : Str} {r : Str → List Nat} {B : List Nat} (h : WI ts b pt r [] B) (e : r pt = []) (g : Zg4 ts b) : Eul ts b B.reverse := by
 obtain ⟨⟨f, d⟩, hr⟩ := g
 have hpt : b = pt := by cases h.chG; rfl
 subst hpt
 obtain ⟨w, c⟩ := h.chB f d
 have ew := h.stuck e d c
 subst ew
 have hnd := h.nd
 have hlt := h.lt
 rw [List.nil_append] at hnd hlt
 refine ⟨?_, f, c⟩
 -- whoever is met has nothing left
 let M : Str → Prop := fun p => p = b ∨ ∃ i ∈ B, tow ts i = p
 have hM : ∀ p, M p → r p = [] := fun p hp => by
  rcases hp with z | ⟨i, hi, z⟩
  ·rw [z]; exact e
  ·rw [← z]; exact h.stk i hi
 have hp : (List.range ts.length).Perm (B ++ (List.range ts.length).filter fun i => decide (i ∉ B)) := by
  refine Y0 List.nodup_range (List.nodup_append.mpr ⟨hnd, List.nodup_range.filter _, fun a ha b' hb z => ?_⟩) fun x => ?_
  ·subst z
   have := (List.mem_filter.mp hb).2
   simp only [decide_eq_true_eq] at this
   exact this ha
  ·rw [List.mem_append, List.mem_filter, List.mem_range]
   constructor
   ·intro hx
    by_cases cc : x ∈ B
    ·exact .inl cc
    ·exact .inr ⟨hx, decide_eq_true cc⟩
   ·rintro (z | z)
    ·exact hlt x z
    ·exact z.1
 have hz : ∀ p, bal ts ((List.range ts.length).filter fun i => decide (i ∉ B)) p = 0 := fun p => by
  have h1 := d p
  rw [XW hp, Y4, ← XW (List.reverse_perm B), c.bal] at h1
  omega
 have key : ∀ p, M p → ∀ i, i < ts.length → (frm ts i = p ∨ tow ts i = p) → i ∈ B := fun p hp i hi ht => by
  apply Classical.byContradiction
  intro hn
  have hne : ∀ j, j < ts.length → j ∉ B → frm ts j ≠ p := fun j hj hjn z => by
   have := (h.row p j).mpr ⟨hj, z, by simpa using hjn⟩
   rw [hM p hp] at this
   cases this
  rcases ht with z | z
  ·exact hne i hi hn z
  ·have h2 : ∀ L : List Nat, (∀ j ∈ L, frm ts j ≠ p) → bal ts L p ≤ 0 ∧ (i ∈ L → bal ts L p < 0) := by
    intro L
    induction L with
    | nil => intro _; exact ⟨by rw [Jx]; omega, fun q => by cases q⟩
    | cons j L ih =>
     intro hL
     obtain ⟨a1, a2⟩ := ih fun k hk => hL k (List.mem_cons_of_mem _ hk)
     have b' : dl (frm ts j) p = 0 := if_neg (hL j (List.mem_cons_self ..))
     have c' := Zjm (tow ts j) p
     rw [ZY]
     refine ⟨by omega, fun q => ?_⟩
     rcases List.mem_cons.mp q with q | q
     ·subst q
      have : dl (tow ts i) p = 1 := if_pos z
      omega
     ·have := a2 q
      omega
   have h3 := (h2 ((List.range ts.length).filter fun i => decide (i ∉ B)) fun j hj => by
    obtain ⟨a1, a2⟩ := List.mem_filter.mp hj
    exact hne j (List.mem_range.mp a1) (by simpa using a2)).2 (List.mem_filter.mpr ⟨List.mem_range.mpr hi, decide_eq_true hn⟩)
   rw [hz] at h3
   omega
 have hfr : ∀ u X v, Ch ts u X v → M u → (∀ j ∈ X, j ∈ B) → ∀ j ∈ X, M (frm ts j) := by
  intro u X v hc
  induction hc with
  | nil u => intro _ _ j hj; cases hj
  | @cons k X u v e' _ ih =>
   intro hu hX j hj
   rcases List.mem_cons.mp hj with z | z
   ·rw [z, e']; exact hu
   ·exact ih (.inr ⟨k, hX k (List.mem_cons_self ..), rfl⟩) (fun l hl => hX l (List.mem_cons_of_mem _ hl)) j z
 have hcl : ∀ P, M P → ∀ y, Zjx ts P y → M y := fun P hP y ⟨i, hi, q⟩ => by
  rcases q with ⟨q1, q2⟩ | ⟨q1, q2⟩
  ·exact .inr ⟨i, key P hP i hi (.inl q1), q2⟩
  ·have := key P hP i hi (.inr q1)
   rw [← q2]
   exact hfr _ _ _ c (.inl rfl) (fun j hj => List.mem_reverse.mp hj) i (List.mem_reverse.mpr this)
 refine Y0 ((List.reverse_perm B).nodup_iff.mpr hnd) List.nodup_range fun x => ?_
 rw [List.mem_reverse, List.mem_range]
 refine ⟨hlt x, fun hx => ?_⟩
 exact key _ (RchT.closed (F := M) (.inl rfl) hcl (hr x hx)) x hx (.inl rfl)
theorem WI.eul {ts : Ts} {b pt v : Str} {r : Str → List Nat} {B : List Nat} (h : WI ts b pt r [] B) (hl : B.length = ts.length) (c : Ch ts b B.reverse v) : Eul ts b B.reverse := by
 have hnd := h.nd
 have hlt := h.lt
 rw [List.nil_append] at hnd hlt
 refine ⟨?_, v, c⟩
 have hsub : ∀ x ∈ B, x ∈ List.range ts.length := fun x hx => List.mem_range.mpr (hlt x hx)
 refine (List.reverse_perm B).trans (Y0 hnd List.nodup_range fun x => ⟨hsub x, ZhC hnd hsub (by rw [List.length_range, hl]) x⟩)
def Zdp (ts : Ts) (p : Str) : List Nat := ((List.range ts.length).filter fun i => decide (frm ts i = p)).reverse
theorem Zhn (ts : Ts) (p : Str) : (Zdp ts p).Nodup := (List.reverse_perm _).nodup_iff.mpr (List.nodup_range.filter _)
theorem ZfG (ts : Ts) (p : Str) (i : Nat) : i ∈ Zdp ts p ↔ i < ts.length ∧ frm ts i = p := by
 unfold Zdp
 rw [List.mem_reverse, List.mem_filter, List.mem_range, decide_eq_true_eq]
def wlk (ts : Ts) : Nat → (Str → List Nat) → Str → List Nat → List Nat → List Nat
 | 0, _, _, _, B => B
 | n + 1, r, pt, G, B => match (r pt).getLast? with
  | some i => wlk ts n (Zfj r pt (r pt).dropLast) (tow ts i) (G ++ [i]) B
  | none => match G.getLast? with
   | some i => wlk ts n r (frm ts i) G.dropLast (B ++ [i])
   | none => B
theorem Zdq {ts : Ts} {n : Nat} {r : Str → List Nat} {pt : Str} {G B X : List Nat} {i : Nat} (e : r pt = X ++ [i]) : wlk ts (n + 1) r pt G B = wlk ts n (Zfj r pt X) (tow ts i) (G ++ [i]) B := by
 rw [wlk, e]
 simp
theorem Zfm {ts : Ts} {n : Nat} {r : Str → List Nat} {pt : Str} {X B : List Nat} {i : Nat} (e : r pt = []) : wlk ts (n + 1) r pt (X ++ [i]) B = wlk ts n r (frm ts i) X (B ++ [i]) := by
 rw [wlk, e]
 simp
theorem Zfn {ts : Ts} {n : Nat} {r : Str → List Nat} {pt : Str} {B : List Nat} (e : r pt = []) : wlk ts n r pt [] B = B := by
 cases n with
 | zero => rfl
 | succ n => rw [wlk, e]; rfl
def wayX (ts : Ts) (b : Str) : List Nat := (wlk ts (2 * ts.length) (Zdp ts) b [] []).reverse
theorem WI.len {ts : Ts} {b pt : Str} {r : Str → List Nat} {G B : List Nat} (h : WI ts b pt r G B) : G.length + B.length ≤ ts.length := by
 have := Zew (ks := List.range ts.length) h.nd fun x hx => List.mem_range.mpr (h.lt x hx)
 rw [List.length_append, List.length_range] at this
 exact this
theorem WI.in_len {ts : Ts} {b pt : Str} {r : Str → List Nat} {G B : List Nat} (h : WI ts b pt r G B) (p : Str) : (r p).length ≤ ts.length := by
 have := Zew (ks := List.range ts.length) (h.rnd p) fun x hx => List.mem_range.mpr ((h.row p x).mp hx).1
 rw [List.length_range] at this
 exact this
def X3 (ks : List Str) (f : Str → Int) : Int := (ks.map f).sum
theorem ZN (k : Str) (ks : List Str) (f : Str → Int) : X3 (k :: ks) f = f k + X3 ks f := by
 unfold X3
 rw [List.map_cons, List.sum_cons]
theorem Zfr (ks : List Str) (f g : Str → Int) : X3 ks (fun p => f p + g p) = X3 ks f + X3 ks g := by
 induction ks with
 | nil => rfl
 | cons k ks ih => rw [ZN, ZN, ZN, ih]; omega
theorem Zac (ks : List Str) (f g : Str → Int) : X3 ks (fun p => f p - g p) = X3 ks f - X3 ks g := by
 induction ks with
 | nil => rfl
 | cons k ks ih => rw [ZN, ZN, ZN, ih]; omega
theorem Zad {ks : List Str} {f g : Str → Int} (h : ∀ p ∈ ks, f p ≤ g p) : X3 ks f ≤ X3 ks g := by
 induction ks with
 | nil => exact Int.le_refl _
 | cons k ks ih =>
  rw [ZN, ZN]
  have h1 := h k (List.mem_cons_self ..)
  have h2 := ih fun p hp => h p (List.mem_cons_of_mem _ hp)
  omega
theorem YK (ks : List Str) : X3 ks (fun _ => 0) = 0 := by
 induction ks with
 | nil => rfl
 | cons k ks ih => rw [ZN, ih]; omega
theorem YW {ks : List Str} {f : Str → Int} (h : ∀ p ∈ ks, 0 ≤ f p) {p : Str} (hp : p ∈ ks) : f p ≤ X3 ks f := by
 induction ks with
 | nil => cases hp
 | cons k ks ih =>
  rw [ZN]
  have h0 := h k (List.mem_cons_self ..)
  have h1 : 0 ≤ X3 ks f := by
   have := Zad (ks := ks) (f := fun _ => 0) (g := f) fun p hp => h p (List.mem_cons_of_mem _ hp)
   rw [YK] at this
   exact this
  rcases List.mem_cons.mp hp with z | z
  ·rw [z]; omega
  ·have := ih (fun p hp => h p (List.mem_cons_of_mem _ hp)) z
   omega
theorem ZaY {ks : List Str} {f : Str → Int} (h : ∀ p ∈ ks, 0 ≤ f p) {p q : Str} (hp : p ∈ ks) (hq : q ∈ ks) (hne : p ≠ q) : f p + f q ≤ X3 ks f := by
 induction ks with
 | nil => cases hp
 | cons k ks ih =>
  rw [ZN]
  have hk : ∀ p ∈ ks, 0 ≤ f p := fun p hp => h p (List.mem_cons_of_mem _ hp)
  have h0 := h k (List.mem_cons_self ..)
  rcases List.mem_cons.mp hp with z | z
  ·rcases List.mem_cons.mp hq with y | y
   ·exact absurd (z.trans y.symm) hne
   ·have := YW hk y
    rw [z]; omega
  ·rcases List.mem_cons.mp hq with y | y
   ·have := YW hk z
    rw [y]; omega
   ·have := ih hk z y
    omega
theorem JW {a p : Str} (h : p ≠ a) : dl a p = 0 := if_neg fun e => h e.symm
theorem ZbF {ks : List Str} (nd : ks.Nodup) {a : Str} (h : a ∈ ks) : X3 ks (dl a) = 1 := by
 induction ks with
 | nil => cases h
 | cons k ks ih =>
  have nd' := List.nodup_cons.mp nd
  rw [ZN]
  rcases List.mem_cons.mp h with z | z
  ·subst z
   have : X3 ks (dl a) = 0 := by
    have e : ∀ p ∈ ks, dl a p = 0 := fun p hp => JW fun e => nd'.1 (e ▸ hp)
    have h1 := Zad (f := dl a) (g := fun _ => 0) fun p hp => by rw [e p hp]; exact Int.le_refl _
    have h2 := Zad (f := fun _ => 0) (g := dl a) fun p hp => by rw [e p hp]; exact Int.le_refl _
    rw [YK] at h1 h2
    omega
   rw [this, ZaK]
   omega
  ·rw [ih nd'.2 z, JW (fun e : k = a => nd'.1 (e ▸ z))]
   omega
abbrev moT (ts : Ts) (p : Str) : Int := bal ts (List.range ts.length) p
theorem Zdy {ts : Ts} {ks : List Str} (nd : ks.Nodup) : ∀ X : List Nat, (∀ i ∈ X, frm ts i ∈ ks ∧ tow ts i ∈ ks) → X3 ks (bal ts X) = 0
 | [], _ => YK ks
 | i :: X, h => by
  obtain ⟨h1, h2⟩ := h i (List.mem_cons_self ..)
  have ih := Zdy nd X fun j hj => h j (List.mem_cons_of_mem _ hj)
  have e : bal ts (i :: X) = fun p => (dl (frm ts i) p - dl (tow ts i) p) + bal ts X p := funext fun p => ZY ts i X p
  rw [e, Zfr, Zac, ZbF nd h1, ZbF nd h2, ih]
  rfl
theorem Zfc {ts : Ts} {p : Str} : ∀ X : List Nat, (∀ i ∈ X, frm ts i ≠ p ∧ tow ts i ≠ p) → bal ts X p = 0
 | [], _ => rfl
 | i :: X, h => by
  obtain ⟨h1, h2⟩ := h i (List.mem_cons_self ..)
  rw [ZY, Zfc X fun j hj => h j (List.mem_cons_of_mem _ hj)]
  unfold dl
  rw [if_neg h1, if_neg h2]
  rfl
def Zat (x : Int) : Int := if x > 0 then x else 0
theorem ZiJ {ks : List Str} (nd : ks.Nodup) {g : Str → Int} (h0 : ∀ p ∈ ks, 0 ≤ g p) (h1 : X3 ks g = 1) : ∃ f ∈ ks, ∀ p ∈ ks, g p = dl f p := by
 have : ∃ f ∈ ks, 1 ≤ g f := by
  apply Classical.byContradiction
  intro hn
  have hz : ∀ p ∈ ks, g p ≤ 0 := fun p hp => by
   apply Classical.byContradiction
   intro c
   exact hn ⟨p, hp, by omega⟩
  have := Zad (f := g) (g := fun _ => 0) hz
  rw [YK] at this
  omega
 obtain ⟨f, hf, hg⟩ := this
 refine ⟨f, hf, fun p hp => ?_⟩
 by_cases c : p = f
 ·subst c
  have := YW h0 hp
  rw [ZaK]
  omega
 ·have := ZaY h0 hp hf c
  have := h0 p hp
  rw [JW c]
  omega
structure Kp (ts : Ts) (ks : List Str) : Prop where
 nd : ks.Nodup
 mem : ∀ p, p ∈ ks ↔ ∃ i, i < ts.length ∧ (frm ts i = p ∨ tow ts i = p)
theorem Kp.out {ts : Ts} {ks : List Str} (h : Kp ts ks) {p : Str} (hp : p ∉ ks) : moT ts p = 0 :=
 Zfc _ fun i hi => ⟨fun e => hp ((h.mem p).mpr ⟨i, List.mem_range.mp hi, .inl e⟩), fun e => hp ((h.mem p).mpr ⟨i, List.mem_range.mp hi, .inr e⟩)⟩
theorem Kp.total {ts : Ts} {ks : List Str} (h : Kp ts ks) : X3 ks (moT ts) = 0 :=
 Zdy h.nd _ fun i hi => ⟨(h.mem _).mpr ⟨i, List.mem_range.mp hi, .inl rfl⟩, (h.mem _).mpr ⟨i, List.mem_range.mp hi, .inr rfl⟩⟩
theorem ZhX {ts : Ts} {b : Str} {ks : List Str} {M : Int} (h : Kp ts ks) (hb : b ∈ ks) (hs : X3 ks (fun p => Zat (moT ts p)) ≤ 1) (hM : M ∈ ks.map (moT ts)) (hle : ∀ x ∈ ks.map (moT ts), x ≤ M) (h1 : M = 1 → moT ts b = 1) (hr : ∀ p ∈ ks, RchT ts b p) : Zg4 ts b := by
 have hpos : ∀ p ∈ ks, 0 ≤ Zat (moT ts p) := fun p _ => by unfold Zat; split <;> omega
 have hle' : ∀ p ∈ ks, moT ts p ≤ M := fun p hp => hle _ (List.mem_map_of_mem hp)
 have tot := h.total
 refine ⟨?_, fun i hi => hr _ ((h.mem _).mpr ⟨i, hi, .inl rfl⟩)⟩
 by_cases c : M ≤ 0
 ·refine ⟨b, fun p => ?_⟩
  show moT ts p = _
  rw [Int.sub_self]
  by_cases hp : p ∈ ks
  ·have hn : ∀ q ∈ ks, 0 ≤ (fun q => 0 - moT ts q) q := fun q hq => by have := hle' q hq; show 0 ≤ 0 - moT ts q; omega
   have := YW hn hp
   rw [Zac, YK, tot] at this
   have h2 := hle' p hp
   have h3 : 0 - moT ts p ≤ 0 - 0 := this
   omega
  ·exact h.out hp
 ·obtain ⟨p0, hp0, e0⟩ := List.mem_map.mp hM
  have hM1 : M = 1 := by
   have := YW hpos hp0
   have e : Zat (moT ts p0) = M := by rw [e0]; unfold Zat; rw [if_pos (by omega)]
   have h4 : Zat (moT ts p0) ≤ 1 := Int.le_trans this hs
   rw [e] at h4
   omega
  have hb1 := h1 hM1
  have eb : Zat (moT ts b) = 1 := by rw [hb1]; rfl
  have hoth : ∀ p ∈ ks, p ≠ b → moT ts p ≤ 0 := fun p hp hne => by
   have := ZaY hpos hp hb hne
   have h4 : Zat (moT ts p) + Zat (moT ts b) ≤ 1 := Int.le_trans this hs
   rw [eb] at h4
   apply Classical.byContradiction
   intro c2
   have : Zat (moT ts p) = moT ts p := by unfold Zat; rw [if_pos (by omega)]
   omega
  obtain ⟨f, hf, hg⟩ := ZiJ h.nd (g := fun p => dl b p - moT ts p) (fun p hp => by
   show 0 ≤ dl b p - moT ts p
   by_cases c2 : p = b
   ·subst c2
    rw [ZaK, hb1]
    decide
   ·have := hoth p hp c2
    rw [JW c2]
    omega) (by rw [Zac, ZbF h.nd hb, tot]; rfl)
  refine ⟨f, fun p => ?_⟩
  show moT ts p = _
  by_cases hp : p ∈ ks
  ·have : dl b p - moT ts p = dl f p := hg p hp
   omega
  ·rw [h.out hp, JW (fun e : p = b => hp (e ▸ hb)), JW (fun e : p = f => hp (e ▸ hf))]
   rfl
def bg (x : Str) : Str := tx x.cps.toList.dropLast
def en (x : Str) : Str := tx (x.cps.toList.drop 1)
abbrev Es := List (Str × Int)
def ind (p : Prop) [Decidable p] : Int := if p then 1 else 0
def mo1 (e : Str × Int) (P : Str) : Int := e.2 * ind (bg e.1 = P) - e.2 * ind (en e.1 = P)
def mo (es : Es) (P : Str) : Int := (es.map fun e => mo1 e P).sum
theorem ZeB (es : Es) (e : Str × Int) (P : Str) : mo (es ++ [e]) P = mo es P + mo1 e P := by
 unfold mo
 rw [List.map_append, List.sum_append]
 simp
theorem ZbZ (e : Str × Int) (es : Es) (P : Str) : mo (e :: es) P = mo1 e P + mo es P := by
 unfold mo
 rw [List.map_cons, List.sum_cons]
theorem ZeC : ∀ {es : Es} {P : Str}, (∀ e ∈ es, bg e.1 ≠ P ∧ en e.1 ≠ P) → mo es P = 0
 | [], _, _ => rfl
 | e :: es, P, h => by
  rw [ZbZ, ZeC fun x hx => h x (List.mem_cons_of_mem _ hx)]
  obtain ⟨h1, h2⟩ := h e (List.mem_cons_self ..)
  unfold mo1 ind
  rw [if_neg h1, if_neg h2]
  simp
def ups (f : Str → Int) (ss : List Str) : Es := (ss.filter fun x => decide (0 < f x)).map fun x => (x, f x)
def sm (es : Es) : Int := (es.map fun e => e.2).sum
theorem Zfp (f : Str → Int) (x : Str) (ss : List Str) : sm (ups f (x :: ss)) = (if 0 < f x then f x else 0) + sm (ups f ss) := by
 unfold sm ups
 rw [List.filter_cons]
 by_cases c : 0 < f x
 ·rw [if_pos c, if_pos (by simpa using c)]
  simp
 ·rw [if_neg c, if_neg (by simpa using c)]
  simp
theorem Zie {f : Str → Int} {b : Nat} (h : ∀ x, (f x).natAbs ≤ b) (ss : List Str) : ∀ e ∈ ups f ss, 0 < e.2 ∧ e.2 ≤ b := fun e he => by
 unfold ups at he
 obtain ⟨x, hx, rfl⟩ := List.mem_map.mp he
 have h1 := (List.mem_filter.mp hx).2
 have h2 := h x
 simp at h1
 constructor
 ·exact h1
 ·show f x ≤ b
  omega
theorem ZiY : ∀ {es : Es} {b : Nat} (P : Str), (∀ e ∈ es, 0 ≤ e.2 ∧ e.2 ≤ b) → (mo es P).natAbs ≤ b * es.length
 | [], _, _, _ => by simp [mo]
 | e :: es, b, P, h => by
  have ih := ZiY (es := es) P fun x hx => h x (List.mem_cons_of_mem _ hx)
  obtain ⟨h1, h2⟩ := h e (List.mem_cons_self ..)
  rw [ZbZ, List.length_cons, Nat.mul_add]
  have : (mo1 e P).natAbs ≤ b := by
   unfold mo1 ind
   split <;> split <;> omega
  omega
def pcs (z : List Nat) (L : Nat) : List Str := (List.range (z.length - L + 1)).map fun i => tx ((z.drop i).take L)
def Adj (es : Es) (P y : Str) : Prop := ∃ e ∈ es, (bg e.1 = P ∧ en e.1 = y) ∨ (en e.1 = P ∧ bg e.1 = y)
inductive Rch (es : Es) (a : Str) : Str → Prop where
 | here : Rch es a a
 | step {P y : Str} (h : Rch es a P) (k : Adj es P y) : Rch es a y
theorem Rch.closed {es : Es} {a : Str} {F : Str → Prop} (ha : F a) (hc : ∀ P, F P → ∀ y, Adj es P y → F y) {y : Str} (h : Rch es a y) : F y := by
 induction h with
 | here => exact ha
 | step _ k ih => exact hc _ ih _ k
theorem Zgt {es : Es} {e : Str × Int} {P y : Str} : Adj (es ++ [e]) P y ↔ Adj es P y ∨ (bg e.1 = P ∧ en e.1 = y) ∨ (en e.1 = P ∧ bg e.1 = y) := by
 unfold Adj
 constructor
 ·rintro ⟨x, hx, q⟩
  rcases List.mem_append.mp hx with z | z
  ·exact .inl ⟨x, z, q⟩
  ·rw [List.mem_singleton.mp z] at q
   exact .inr q
 ·rintro (⟨x, hx, q⟩ | q)
  ·exact ⟨x, List.mem_append_left _ hx, q⟩
  ·exact ⟨e, by simp, q⟩
def Zv (es : Es) : List Str := es.flatMap fun e => List.replicate e.2.toNat e.1
def tsE (es : Es) : Ts := (Zv es).map fun x => (bg x, en x)
theorem Y3 (e : Str × Int) (es : Es) : Zv (e :: es) = List.replicate e.2.toNat e.1 ++ Zv es := by
 unfold Zv
 rw [List.flatMap_cons]
theorem Zdi (es : Es) (e : Str × Int) : Zv (es ++ [e]) = Zv es ++ List.replicate e.2.toNat e.1 := by
 unfold Zv
 rw [List.flatMap_append]
 simp
theorem Yy {es : Es} (hp : ∀ e ∈ es, 1 ≤ e.2) (x : Str) : x ∈ Zv es ↔ ∃ e ∈ es, e.1 = x := by
 unfold Zv
 rw [List.mem_flatMap]
 constructor
 ·rintro ⟨e, he, h⟩
  exact ⟨e, he, (List.mem_replicate.mp h).2.symm⟩
 ·rintro ⟨e, he, h⟩
  have := hp e he
  exact ⟨e, he, List.mem_replicate.mpr ⟨by omega, h.symm⟩⟩
theorem Yc (es : Es) : (tsE es).length = (Zv es).length := by unfold tsE; rw [List.length_map]
theorem ZeV {es : Es} {i : Nat} (h : i < (Zv es).length) : frm (tsE es) i = bg ((Zv es).getD i "") := by
 unfold frm tsE
 rw [List.getD_eq_getElem?_getD, List.getElem?_map, List.getElem?_eq_getElem h, List.getD_eq_getElem?_getD, List.getElem?_eq_getElem h]
 rfl
theorem Zdv {es : Es} {i : Nat} (h : i < (Zv es).length) : tow (tsE es) i = en ((Zv es).getD i "") := by
 unfold tow tsE
 rw [List.getD_eq_getElem?_getD, List.getElem?_map, List.getElem?_eq_getElem h, List.getD_eq_getElem?_getD, List.getElem?_eq_getElem h]
 rfl
theorem ZaF {l : List Str} {i : Nat} (h : i < l.length) : l.getD i "" ∈ l := by
 rw [List.getD_eq_getElem?_getD, List.getElem?_eq_getElem h]
 exact List.getElem_mem h
theorem ZcA {l : List Str} {x : Str} (h : x ∈ l) : ∃ i, i < l.length ∧ l.getD i "" = x := by
 obtain ⟨i, hi, e⟩ := List.getElem_of_mem h
 refine ⟨i, hi, ?_⟩
 rw [List.getD_eq_getElem?_getD, List.getElem?_eq_getElem hi]
 exact e
theorem ZcP (ts : Ts) (p : Str) : ∀ n, n ≤ ts.length → bal ts (List.range n) p = ((ts.take n).map fun t => dl t.1 p - dl t.2 p).sum
 | 0, _ => by simp [Jx]
 | n + 1, h => by
  rw [List.range_succ, Y4, ZcP ts p n (by omega), ZY, Jx, List.take_succ_eq_append_getElem (by omega), List.map_append, List.sum_append]
  unfold frm tow
  rw [List.getD_eq_getElem?_getD, List.getElem?_eq_getElem (by omega)]
  simp
theorem Zhf (n : Nat) (c : Int) : (List.replicate n c).sum = n * c := by
 induction n with
 | zero => simp
 | succ n ih =>
  rw [List.replicate_succ, List.sum_cons, ih, Int.natCast_add, Int.add_mul]
  omega
theorem ZjZ {es : Es} (h0 : ∀ e ∈ es, 0 ≤ e.2) (p : Str) : moT (tsE es) p = mo es p := by
 unfold moT
 rw [ZcP _ _ _ (Nat.le_refl _), List.take_length]
 induction es with
 | nil => rfl
 | cons e es ih =>
  have h1 := h0 e (List.mem_cons_self ..)
  unfold tsE
  rw [Y3, List.map_append, List.map_append, List.sum_append, List.map_replicate, List.map_replicate, Zhf, ZbZ]
  have := ih fun e he => h0 e (List.mem_cons_of_mem _ he)
  unfold tsE at this
  rw [this]
  unfold mo1 dl ind
  rw [Int.toNat_of_nonneg h1, Int.mul_sub]
theorem Zkh {es : Es} (hp : ∀ e ∈ es, 1 ≤ e.2) (P y : Str) : Zjx (tsE es) P y ↔ Adj es P y := by
 unfold Zjx Adj
 constructor
 ·rintro ⟨i, hi, q⟩
  rw [Yc] at hi
  rw [ZeV hi, Zdv hi] at q
  obtain ⟨e, he, h⟩ := (Yy hp _).mp (ZaF hi)
  rw [← h] at q
  exact ⟨e, he, q⟩
 ·rintro ⟨e, he, q⟩
  obtain ⟨i, hi, h⟩ := ZcA ((Yy hp e.1).mpr ⟨e, he, rfl⟩)
  refine ⟨i, by rw [Yc]; exact hi, ?_⟩
  rw [ZeV hi, Zdv hi, h]
  exact q
theorem ZjT {es : Es} (hp : ∀ e ∈ es, 1 ≤ e.2) {a y : Str} (h : Rch es a y) : RchT (tsE es) a y := by
 induction h with
 | here => exact .here
 | step _ k ih => exact .step ih ((Zkh hp _ _).mpr k)
theorem Adj.symm {es : Es} {P y : Str} (h : Adj es P y) : Adj es y P := by
 obtain ⟨e, he, q⟩ := h
 exact ⟨e, he, q.symm.imp (fun z => ⟨z.2, z.1⟩) fun z => ⟨z.2, z.1⟩⟩
theorem Rch.trans {es : Es} {a b c : Str} (h : Rch es a b) (k : Rch es b c) : Rch es a c := by
 induction k with
 | here => exact h
 | step _ j ih => exact .step ih j
theorem Rch.symm {es : Es} {a b : Str} (h : Rch es a b) : Rch es b a := by
 induction h with
 | here => exact .here
 | step _ k ih => exact Rch.trans (.step .here k.symm) ih
theorem ZgE (f : Str → Int) : ∀ ss : List Str, sm (ups f ss) = X3 ss fun p => Zat (f p)
 | [] => rfl
 | x :: ss => by
  rw [Zfp, ZN, ZgE f ss]
  rfl
theorem ZeS : ∀ l : List Int, l ≠ [] → ∃ M ∈ l, ∀ x ∈ l, x ≤ M
 | [], h => absurd rfl h
 | [x], _ => ⟨x, by simp, fun y hy => by rw [List.mem_singleton.mp hy]; exact Int.le_refl _⟩
 | x :: y :: l, _ => by
  obtain ⟨M, h1, h2⟩ := ZeS (y :: l) (by simp)
  by_cases c : M ≤ x
  ·refine ⟨x, by simp, fun z hz => ?_⟩
   rcases List.mem_cons.mp hz with e | e
   ·rw [e]; exact Int.le_refl _
   ·exact Int.le_trans (h2 z e) c
  ·refine ⟨M, List.mem_cons_of_mem _ h1, fun z hz => ?_⟩
   rcases List.mem_cons.mp hz with e | e
   ·rw [e]; omega
   ·exact h2 z e
def Y6 (e0 : Str × Int) (us : Es) : Str := match us with | [] => bg e0.1 | u :: _ => u.1
theorem Zjh {e0 : Str × Int} {es0 : Es} {ss : List Str} (hp : ∀ e ∈ e0 :: es0, 1 ≤ e.2) (nd : ss.Nodup) (mem : ∀ p, p ∈ ss ↔ ∃ e ∈ e0 :: es0, bg e.1 = p ∨ en e.1 = p)
  (hs : sm (ups (mo (e0 :: es0)) ss) ≤ 1) (hh : ∀ e ∈ e0 :: es0, Rch (e0 :: es0) (bg e0.1) (bg e.1)) : Zg4 (tsE (e0 :: es0)) (Y6 e0 (ups (mo (e0 :: es0)) ss)) := by
 have h0 : ∀ e ∈ e0 :: es0, 0 ≤ e.2 := fun e he => by have := hp e he; omega
 have emo : moT (tsE (e0 :: es0)) = mo (e0 :: es0) := funext fun p => ZjZ h0 p
 have hin : e0 ∈ e0 :: es0 := List.mem_cons_self ..
 generalize e0 :: es0 = es at *
 have hK : Kp (tsE es) ss := ⟨nd, fun p => by
  rw [mem]
  constructor
  ·rintro ⟨e, he, q⟩
   obtain ⟨i, hi, h⟩ := ZcA ((Yy hp e.1).mpr ⟨e, he, rfl⟩)
   refine ⟨i, by rw [Yc]; exact hi, ?_⟩
   rw [ZeV hi, Zdv hi, h]
   exact q
  ·rintro ⟨i, hi, q⟩
   rw [Yc] at hi
   rw [ZeV hi, Zdv hi] at q
   obtain ⟨e, he, h⟩ := (Yy hp _).mp (ZaF hi)
   rw [← h] at q
   exact ⟨e, he, q⟩⟩
 have h0b : bg e0.1 ∈ ss := (mem _).mpr ⟨e0, hin, .inl rfl⟩
 have hall : ∀ p ∈ ss, Rch es (bg e0.1) p := fun p hpp => by
  obtain ⟨e, he, q⟩ := (mem p).mp hpp
  rcases q with q | q
  ·rw [← q]; exact hh e he
  ·exact .step (hh e he) ⟨e, he, .inl ⟨rfl, q⟩⟩
 obtain ⟨M, hM, hMx⟩ := ZeS (ss.map (mo es)) (fun z => by rw [List.map_eq_nil_iff] at z; rw [z] at h0b; cases h0b)
 have hs' : X3 ss (fun p => Zat (moT (tsE es) p)) ≤ 1 := by rw [emo, ← ZgE]; exact hs
 have hst : Y6 e0 (ups (mo es) ss) ∈ ss ∧ (M = 1 → mo es (Y6 e0 (ups (mo es) ss)) = 1) := by
  cases hu : ups (mo es) ss with
  | nil =>
   refine ⟨h0b, fun e => ?_⟩
   obtain ⟨p, hpp, ep⟩ := List.mem_map.mp hM
   have : (p, mo es p) ∈ ups (mo es) ss := List.mem_map.mpr ⟨p, List.mem_filter.mpr ⟨hpp, decide_eq_true (by omega)⟩, rfl⟩
   rw [hu] at this
   cases this
  | cons u us =>
   have hm : u ∈ ups (mo es) ss := by rw [hu]; exact List.mem_cons_self ..
   obtain ⟨p, hpp, ep⟩ := List.mem_map.mp hm
   obtain ⟨h1, h2⟩ := List.mem_filter.mp hpp
   have h3 := of_decide_eq_true h2
   have e1 : Y6 e0 (u :: us) = p := by rw [← ep]; rfl
   rw [e1]
   refine ⟨h1, fun _ => ?_⟩
   have := YW (f := fun p => Zat (moT (tsE es) p)) (fun p _ => by show 0 ≤ Zat _; unfold Zat; split <;> omega) h1
   have h5 : Zat (moT (tsE es) p) = mo es p := by rw [emo]; unfold Zat; rw [if_pos (by omega)]
   have h6 : Zat (moT (tsE es) p) ≤ 1 := Int.le_trans this hs'
   omega
 refine ZhX hK hst.1 hs' (M := M) (by rw [emo]; exact hM) (by rw [emo]; exact hMx) (fun e => by rw [emo]; exact hst.2 e) fun p hpp => ?_
 exact ZjT hp ((hall _ hst.1).symm.trans (hall p hpp))
def lst (x : Str) : Nat := x.cps.toList.getLastD 0
theorem Zg0 {x : Str} (h : 1 ≤ x.length) : x.cps.toList = (bg x).cps.toList ++ [lst x] := by
 unfold bg lst
 rw [ZI]
 rcases List.eq_nil_or_concat x.cps.toList with e | ⟨l, c, e⟩
 ·rw [← Z3, e] at h
  simp at h
 ·rw [List.concat_eq_append] at e
  rw [e]
  simp
def spell (es : Es) (b : Str) (X : List Nat) : List Nat := b.cps.toList ++ X.map fun i => lst ((Zv es).getD i "")
theorem Zfu {es : Es} {L : Nat} (hL : 1 ≤ L) (hlen : ∀ x ∈ Zv es, x.length = L) {u v : Str} {X : List Nat} (c : Ch (tsE es) u X v) : (∀ i ∈ X, i < (Zv es).length) → u.length = L - 1 → ∀ i x, (X.map fun j => (Zv es).getD j "")[i]? = some x → tx (((spell es u X).drop i).take L) = x := by
 induction c with
 | nil u => intro _ _ i x e; simp at e
 | @cons j X u v e c ih =>
  intro hX hu i x hx
  have hj := hX j (List.mem_cons_self ..)
  have hT := hlen _ (ZaF hj)
  rw [ZeV hj] at e
  have hbl := Zg0 (x := (Zv es).getD j "") (by omega)
  rw [e] at hbl
  have hsp : spell es u (j :: X) = ((Zv es).getD j "").cps.toList ++ X.map fun i => lst ((Zv es).getD i "") := by
   unfold spell
   rw [List.map_cons, hbl]
   simp
  have hcl : ((Zv es).getD j "").cps.toList.length = L := by rw [Z3]; exact hT
  cases i with
  | zero =>
   simp at hx
   rw [hsp, List.drop_zero, List.take_left' hcl, tx_eta, ← hx, List.getD_eq_getElem?_getD]
  | succ i =>
   rw [List.map_cons] at hx
   have hx' : (X.map fun j => (Zv es).getD j "")[i]? = some x := by simpa using hx
   have en1 : (tow (tsE es) j).cps.toList = ((Zv es).getD j "").cps.toList.drop 1 := by
    rw [Zdv hj]
    unfold en
    rw [ZI]
   have htl : (tow (tsE es) j).length = L - 1 := by rw [← Z3, en1, List.length_drop, hcl]
   have := ih (fun k hk => hX k (List.mem_cons_of_mem _ hk)) htl i x hx'
   have hd : (spell es u (j :: X)).drop (i + 1) = (spell es (tow (tsE es) j) X).drop i := by
    rw [hsp, Nat.add_comm, ← List.drop_drop]
    congr 1
    unfold spell
    rw [en1, List.drop_append_of_le_length (by omega)]
   rw [hd]
   exact this
theorem ZdD {es : Es} {L : Nat} (hL : 1 ≤ L) (hlen : ∀ x ∈ Zv es, x.length = L) {u : Str} {X : List Nat} (hE : Eul (tsE es) u X) (hu : u.length = L - 1) (hne : 0 < (Zv es).length) : pcs (spell es u X) L = X.map fun j => (Zv es).getD j "" := by
 obtain ⟨hp, v, c⟩ := hE
 have hXl : X.length = (Zv es).length := by rw [hp.length_eq, List.length_range, Yc]
 have hX : ∀ i ∈ X, i < (Zv es).length := fun i hi => by
  have := List.mem_range.mp (hp.mem_iff.mp hi)
  rw [Yc] at this
  exact this
 have hsl : (spell es u X).length = L - 1 + X.length := by
  unfold spell
  rw [List.length_append, List.length_map, Z3, hu]
 apply List.ext_getElem?
 intro i
 unfold pcs
 rw [List.getElem?_map, hsl]
 by_cases hi : i < X.length
 ·rw [List.getElem?_range (by omega), Option.map_some]
  have hx : (X.map fun j => (Zv es).getD j "")[i]? = some ((Zv es).getD X[i] "") := by rw [List.getElem?_map, List.getElem?_eq_getElem hi]; rfl
  rw [hx, Zfu hL hlen c hX hu i _ hx]
 ·rw [List.getElem?_eq_none (by rw [List.length_range]; omega), List.getElem?_eq_none (by rw [List.length_map]; omega)]
  rfl
theorem JF (l : List Str) : (List.range l.length).map (fun i => l.getD i "") = l := by
 apply List.ext_getElem?
 intro i
 rw [List.getElem?_map]
 by_cases hi : i < l.length
 ·rw [List.getElem?_range hi, Option.map_some, List.getD_eq_getElem?_getD, List.getElem?_eq_getElem hi]
  rfl
 ·rw [List.getElem?_eq_none (by rw [List.length_range]; omega), List.getElem?_eq_none (by omega)]
  rfl
theorem ZcX {es : Es} {L : Nat} (hL : 1 ≤ L) (hlen : ∀ x ∈ Zv es, x.length = L) {u : Str} {X : List Nat} (hE : Eul (tsE es) u X) (hu : u.length = L - 1) (hne : 0 < (Zv es).length) : (pcs (spell es u X) L).Perm (Zv es) := by
 rw [ZdD hL hlen hE hu hne]
 have := hE.1.map fun j => (Zv es).getD j ""
 rw [Yc, JF] at this
 exact this
theorem Ze6 : ∀ {es : Es}, (es.map (·.1)).Nodup → (∀ e ∈ es, 0 ≤ e.2) → ∀ e ∈ es, ((Zv es).count e.1 : Int) = e.2
 | [], _, _, e, he => by cases he
 | d :: es, nd, h0, e, he => by
  rw [List.map_cons] at nd
  have nd' := List.nodup_cons.mp nd
  have hd := h0 d (List.mem_cons_self ..)
  rw [Y3, List.count_append, List.count_replicate]
  rcases List.mem_cons.mp he with z | z
  ·subst z
   have : (Zv es).count e.1 = 0 := by
    rw [List.count_eq_zero]
    intro q
    unfold Zv at q
    obtain ⟨e', he', h⟩ := List.mem_flatMap.mp q
    exact nd'.1 (List.mem_map.mpr ⟨e', he', (List.mem_replicate.mp h).2.symm⟩)
   rw [this, if_pos (by simp)]
   omega
  ·have ne : ¬ (d.1 == e.1) = true := fun q => nd'.1 (List.mem_map.mpr ⟨e, z, (by simpa using q : d.1 = e.1).symm⟩)
   rw [if_neg ne]
   have := Ze6 nd'.2 (fun e he => h0 e (List.mem_cons_of_mem _ he)) e z
   omega
end Sh
namespace Sh
open PySem L2 PyProof.Rows
seal L2.PE L2.PS L2.PSs L2.PT L2.PW L2.PA L2.PI L2.PG L2.PGs L2.PO L2.PC L2.PCs L2.OpR L2.UnR L2.CallR L2.MtR L2.IxR L2.SlR
def top (i : Nat) : Stmt := PySem.Challenge.pw_shredjoin_k22_whole_verdicts.main.body.getD i (.Pass ⟨0, 0, 0, 0⟩)
structure Blt (mg : Str → Option Value) : Prop where
 isi : mg "isinstance" = none
 int : mg "int" = none
 bool : mg "bool" = none
 str : mg "str" = none
 tuple : mg "tuple" = none
 list : mg "list" = none
 len : mg "len" = none
 range : mg "range" = none
 all : mg "all" = none
 min : mg "min" = none
 sorted : mg "sorted" = none
 rev : mg "reversed" = none
 zip : mg "zip" = none
 sum : mg "sum" = none
 set : mg "set" = none
 dict : mg "dict" = none
section
variable {P : Program} {w : World} {K : PySem.W.Frag} {mg : Str → Option Value} {base : Heap}
theorem ZM {z : List Nat} (h : z.length ≤ 1000) : (tx z).length ≤ sizeLine := by rw [Zz]; exact YX (by omega)
theorem ZdM {n : Nat} (h : n ≤ 5000) : n < sizeLine := Nat.lt_of_le_of_lt h (by rw [sizeLine_eq]; decide)
end
end Sh
namespace L2
end L2
namespace Sh
open PySem L2 PyProof.Rows
seal L2.PE L2.PS L2.PSs L2.PT L2.PW L2.PA L2.PI L2.PG L2.PGs L2.PO L2.PC L2.PCs L2.OpR L2.UnR L2.CallR L2.MtR L2.IxR L2.SlR
section
variable {P : Program} {w : World} {K : PySem.W.Frag} {mg : Str → Option Value} {base : Heap} {S C A1 A2 A3 A4 A5 A6 A7 A8 : Addr}
def Cd (z : List Nat) : Prop := ∀ c ∈ z, c < 1000
end
theorem ZS {z : List Nat} {n : Int} (h : 0 ≤ n) : Txt.slice (tx z) none (some n) = tx (z.take n.toNat) := by
 apply Z4
 rw [JB h, ZI, ZI]
section
variable {P : Program} {w : World} {K : PySem.W.Frag} {mg : Str → Option Value} {base : Heap}
theorem Zcv (cs : List Nat) (h : cs.length ≤ 1000) : (((cs.map fun c => tx [c]).map fun x => x.length).sum) + (cs.map fun c => tx [c]).length * ("" : Str).length ≤ 16777216 := by
 have e0 : ("" : Str).length = 0 := rfl
 have es : ((cs.map fun c => tx [c]).map fun x => x.length).sum ≤ (cs.map fun c => tx [c]).length * 1 := JJ _ 1 fun y hy => by
  obtain ⟨c, _, rfl⟩ := List.mem_map.mp hy
  rw [Zz]
  exact Nat.le_refl _
 rw [e0, Nat.mul_zero]
 rw [List.length_map] at es
 omega
end
theorem Xe {x : Str} (h : 1 ≤ x.length) : Txt.slice x none (some (-1)) = bg x := by
 apply Z4
 rw [eq_of_beq (slice_closes_to_neg (x := x) (j := -1) (k := -1 + x.length) (by decide) (by omega) rfl)]
 unfold bg
 rw [ZI, List.dropLast_eq_take, Z3]
 simp
 congr 1
 omega
theorem Zag {x : Str} (h : 1 ≤ x.length) : Txt.slice x (some 1) none = en x := by
 apply Z4
 rw [YF (by decide) (by omega)]
 unfold en
 rw [ZI]
 rfl
def PA (H : Hp) (vs : List V) (es : Es) : Prop := vs.length = es.length ∧ ∀ (i : Nat) (e : Str × Int), es[i]? = some e → ∃ b, vs[i]? = some (.ref b) ∧ H b = some (.tup [.str e.1, .int e.2])
theorem PA.same {H H' : Hp} {vs : List V} {es : Es} (h : PA H vs es) (s : TSame H H') : PA H' vs es := ⟨h.1, fun i e q => by
 obtain ⟨b, e1, e2⟩ := h.2 i e q
 exact ⟨b, e1, s _ _ e2⟩⟩
def HeapV (H : Hp) (v : V) (es : Es) : Prop := ∃ q vs, v = .ref q ∧ H q = some (.tup vs) ∧ PA H vs es
theorem HeapV.same {H H' : Hp} {v : V} {es : Es} (h : HeapV H v es) (s : Same H H') : HeapV H' v es := by
 obtain ⟨q, vs, e, e1, e2⟩ := h
 exact ⟨q, vs, e, s _ _ e1, e2.same s.tup⟩
structure Zdo (es : Es) : Prop where
 few : es.length ≤ 301
 many : ∀ e ∈ es, 0 ≤ e.2 ∧ e.2 ≤ 1000
 long : ∀ e ∈ es, 1 ≤ e.1.length ∧ e.1.length ≤ 1000
structure Pts (es : Es) (ks : List Str) : Prop where
 nd : ks.Nodup
 mem : ∀ P, P ∈ ks ↔ ∃ e ∈ es, bg e.1 = P ∨ en e.1 = P
 len : ks.length ≤ 2 * es.length
theorem Pts.nil : Pts [] [] := ⟨List.nodup_nil, fun P => by simp, Nat.le_refl _⟩
def ZV (ks : List Str) (x : Str) : List Str := if x ∈ ks then ks else ks ++ [x]
theorem YV {ks : List Str} {x : Str} (h : ks.Nodup) : (ZV ks x).Nodup := by
 unfold ZV
 split
 ·exact h
 ·rename_i c
  exact List.nodup_append.mpr ⟨h, by simp, fun a ha b hb e => by rw [List.mem_singleton.mp hb] at e; subst e; exact c ha⟩
theorem addK_mem {ks : List Str} {x y : Str} : y ∈ ZV ks x ↔ y ∈ ks ∨ y = x := by
 unfold ZV
 split
 ·rename_i c
  exact ⟨.inl, fun h => h.elim id fun e => e ▸ c⟩
 ·simp
theorem Yk (ks : List Str) (x : Str) : (ZV ks x).length ≤ ks.length + 1 := by
 unfold ZV
 split <;> simp
theorem Pts.step {es : Es} {ks : List Str} (h : Pts es ks) (e : Str × Int) : Pts (es ++ [e]) (ZV (ZV ks (bg e.1)) (en e.1)) where
 nd := YV (YV h.nd)
 mem := fun P => by
  rw [addK_mem, addK_mem, h.mem]
  constructor
  ·rintro ((⟨x, hx, q⟩ | q) | q)
   ·exact ⟨x, List.mem_append_left _ hx, q⟩
   ·exact ⟨e, by simp, .inl q.symm⟩
   ·exact ⟨e, by simp, .inr q.symm⟩
  ·rintro ⟨x, hx, q⟩
   rcases List.mem_append.mp hx with z | z
   ·exact .inl (.inl ⟨x, z, q⟩)
   ·rw [List.mem_singleton.mp z] at q
    rcases q with q | q
    ·exact .inl (.inr q.symm)
    ·exact .inr q.symm
 len := by
  have h1 := Yk (ZV ks (bg e.1)) (en e.1)
  have h2 := Yk ks (bg e.1)
  have := h.len
  rw [List.length_append, List.length_singleton]
  omega
theorem Pts.zero {es : Es} {ks : List Str} (h : Pts es ks) {P : Str} (hP : P ∉ ks) : mo es P = 0 := ZeC fun e he => ⟨fun q => hP ((h.mem P).mpr ⟨e, he, .inl q⟩), fun q => hP ((h.mem P).mpr ⟨e, he, .inr q⟩)⟩
theorem Js {ks : List Str} {g : Str → Int} {y : Str} (h0 : y ∉ ks → g y = 0) : (Y5 (gD ks g) (Sum.inr y : Key)).getD (.int 0) = .int (g y) := by
 rw [ZcL]
 split
 ·rfl
 ·rename_i c
  rw [h0 c]
  rfl
theorem Zh1 {ss : List Str} {p : Str → Bool} : ss.filter p = ((List.range ss.length).filter fun i => p (ss.getD i "")).map fun i => ss.getD i "" := by
 have e : ss = (List.range ss.length).map fun i => ss.getD i "" := by
  apply List.ext_getElem?
  intro i
  rw [List.getElem?_map]
  by_cases hi : i < ss.length
  ·rw [List.getElem?_range hi, Option.map_some, List.getD_eq_getElem?_getD, List.getElem?_eq_getElem hi]
   rfl
  ·rw [List.getElem?_eq_none (by omega), List.getElem?_eq_none (by simp; omega)]
   rfl
 conv => lhs; rw [e]
 rw [List.filter_map]
 rfl
def Zho (x : Str) (n : Int) (v : V) (H : Hp) : Prop := ∃ b, v = .ref b ∧ H b = some (.tup [.str x, .int n])
theorem ZiF {H : Hp} {vs : List V} {ss : List Str} {p : Str → Bool} {f : Str → Int} (hl : vs.length = ((List.range ss.length).filter fun i => p (ss.getD i "")).length)
  (hR : ∀ (j i : Nat) (v : V), ((List.range ss.length).filter fun i => p (ss.getD i ""))[j]? = some i → vs[j]? = some v → Zho (ss.getD i "") (f (ss.getD i "")) v H) : PA H vs ((ss.filter p).map fun x => (x, f x)) := by
 rw [Zh1]
 refine ⟨by rw [List.length_map, List.length_map, hl], fun j e he => ?_⟩
 rw [List.getElem?_map, List.getElem?_map] at he
 cases hj : ((List.range ss.length).filter fun i => p (ss.getD i ""))[j]? with
 | none => rw [hj] at he; cases he
 | some i =>
  rw [hj] at he
  cases he
  have hjv : j < vs.length := by rw [hl]; exact (List.getElem?_eq_some_iff.mp hj).1
  obtain ⟨b, e1, e2⟩ := hR j i vs[j] hj (List.getElem?_eq_getElem hjv)
  exact ⟨b, by rw [List.getElem?_eq_getElem hjv, e1], e2⟩
structure SPts (es : Es) (ss : List Str) : Prop where
 srt : (ss.map fun x => x.cps.toList).Pairwise (· < ·)
 pts : Pts es ss
theorem SPts.of {es : Es} {ks ss : List Str} (h : Pts es ks) (p : ss.Perm ks) (s : (ss.map fun x => x.cps.toList).Pairwise (· < ·)) : SPts es ss :=
 ⟨s, p.nodup_iff.mpr h.nd, fun P => by rw [p.mem_iff, h.mem], by rw [p.length_eq]; exact h.len⟩
section
variable {P : Program} {w : World} {K : PySem.W.Frag} {mg : Str → Option Value} {base : Heap}
theorem ZT {x : Str} (h : x.length ≤ 1000) : x.length ≤ sizeLine := YX (by omega)
abbrev Zan : Stmt := top 1
abbrev ZfV : List Str := ["piece"]
theorem ZdT : Zt ZfV ["piece"] (Zk Zan) := ⟨rfl, rfl, rfl, by decide +kernel, rfl, by decide +kernel, by decide +kernel⟩
def ZbG : Sp := fun vs H Q _ => ∃ x : Str, vs = [.str x] ∧ 1 ≤ x.length ∧ x.length ≤ 1000 ∧ Q (.str (bg x)) H
theorem ZbW (D : HasDef K mg "begin_of" Zan ["piece"]) : FOk P w K mg base 1 "begin_of" ["piece"] ZbG := by
 refine D.ok ZdT (fun vs H Q E h => ?_) (fun f cdv A outer s H vs Q E hr h => ?_)
 ·obtain ⟨x, rfl, _⟩ := h
  rfl
 ·obtain ⟨x, rfl, h1, h2, k⟩ := h
  refine ⟨_, (Zh (Zq (Zu ZQ (pv 0) ZD (ZB (Xj Yn Ze))))), ?_⟩
  refine ⟨_, rfl, _, rfl, _, rfl, _, rfl, ZT h2, ?_⟩
  rw [← Xe h1] at k
  exact k
abbrev Zd2 : Stmt := top 2
abbrev ZiW : List Str := ["piece"]
theorem Zhm : Zt ZiW ["piece"] (Zk Zd2) := ⟨rfl, rfl, rfl, by decide +kernel, rfl, by decide +kernel, by decide +kernel⟩
def ZdL : Sp := fun vs H Q _ => ∃ x : Str, vs = [.str x] ∧ 1 ≤ x.length ∧ x.length ≤ 1000 ∧ Q (.str (en x)) H
theorem Zer (D : HasDef K mg "end_of" Zd2 ["piece"]) : FOk P w K mg base 1 "end_of" ["piece"] ZdL := by
 refine D.ok Zhm (fun vs H Q E h => ?_) (fun f cdv A outer s H vs Q E hr h => ?_)
 ·obtain ⟨x, rfl, _⟩ := h
  rfl
 ·obtain ⟨x, rfl, h1, h2, k⟩ := h
  refine ⟨_, (Zh (Zq (Zu ZQ (pv 0) (ZB Ze) ZD))), ?_⟩
  refine ⟨_, rfl, _, rfl, _, rfl, ZT h2, ?_⟩
  rw [← Zag h1] at k
  exact k
end
theorem ZdN {z : List Nat} {i L : Nat} {a b : Int} (ea : a = i) (eb : b = i + L) (h : i + L ≤ z.length) : Txt.slice (tx z) (some a) (some b) = tx ((z.drop i).take L) := by
 subst ea eb
 apply Z4
 rw [X6 (by omega) (by omega) (by rw [Zz]; omega), ZI, ZI]
 congr 1
 omega
theorem Jf (z : List Nat) (L : Nat) : (pcs z L).length = z.length - L + 1 := by unfold pcs; rw [List.length_map, List.length_range]
theorem ZiE {z : List Nat} {L i : Nat} (h : i < (pcs z L).length) : (pcs z L)[i] = tx ((z.drop i).take L) := by
 have e : (pcs z L)[i]? = some (tx ((z.drop i).take L)) := by
  rw [Jf] at h
  unfold pcs
  rw [List.getElem?_map, List.getElem?_range h]
  rfl
 rw [List.getElem?_eq_getElem h] at e
 exact Option.some.inj e
section
variable {P : Program} {w : World} {K : PySem.W.Frag} {mg : Str → Option Value} {base : Heap}
abbrev ZdV : Stmt := top 26
abbrev ZiP : List Str := ["_law_signs_here", "_law_long", "_law_found", "_law_at", "_law_piece"]
theorem scLTorn : Zt ZiP ["_law_signs_here", "_law_long"] (Zk ZdV) := ⟨rfl, rfl, rfl, by decide +kernel, rfl, by decide +kernel, by decide +kernel⟩
structure Zjz (ws ks : List Str) : Prop where
 nd : ks.Nodup
 mem : ∀ x, x ∈ ks ↔ x ∈ ws
 len : ks.length ≤ ws.length
def cnt (ws : List Str) (x : Str) : Int := (ws.count x : Int)
def ZdE : Sp := fun vs H Q _ => ∃ (z : List Nat) (L : Nat), vs = [.str (tx z), .int L] ∧ 1 ≤ L ∧ L ≤ z.length ∧ z.length ≤ 700 ∧ ∀ d H' ks, H d = none → Same H H' → H' d = some (.dK (gD ks (cnt (pcs z L)))) → Zjz (pcs z L) ks → Q (.ref d) H'
theorem Zel (D : HasDef K mg "_law_torn" ZdV ["_law_signs_here", "_law_long"]) (B : Blt mg) : FOk P w K mg base 1 "_law_torn" ["_law_signs_here", "_law_long"] ZdE := by
 refine D.ok scLTorn (fun vs H Q E h => ?_) (fun f cdv A outer s H vs Q E hr h => ?_)
 ·obtain ⟨z, L, rfl, _⟩ := h
  rfl
 ·obtain ⟨z, L, rfl, h1, h2, h63, k⟩ := h
  have hu := ZaE hr
  refine ⟨_, (Zc (Zm (i := 2) scLTorn.nd rfl (.inl rfl) YZ)
   (Zc (Yo PassesOwn.never rfl (YN rfl B.range (Za (Zn ZP (Zn XI (Zi Zo rfl B.len ZR (Za (pv 0) Zf)) (pv 1)) Ze) Zf)) (ZL (i := 3) scLTorn.nd rfl (.inl rfl))
    (Zc (Zm (i := 4) scLTorn.nd rfl (.inl rfl) (Zu ZQ (pv 0) (ZB (pv 3)) (ZB (Zn ZP (pv 3) (pv 1)))))
   (Zh (Ys hu (pv 2) (pv 4) (Zn ZP (Yh hu (pv 2) (pv 4) Ze ⟨rfl, rfl, rfl, rfl⟩) Ze) rfl))))
   (Zh (Zq (pv 2))))), ?_⟩
  refine fun d hd => ⟨_, rfl, .str (tx z), z.length, rfl, ⟨ZM (by omega), (Zz z).symm⟩, _, rfl, _, _, rfl, rfl, _, _, rfl, rfl, _, rfl, by omega, by omega, ?_⟩
  have en : ((z.length : Int) - (L : Int) + 1).toNat = (pcs z L).length := by rw [Jf]; omega
  have hpl := Jf z L
  rw [en]
  refine YS (n := (pcs z L).length) (fun i σ H2 => (∃ z3 z4 : Option V, σ = [some (.str (tx z)), some (.int L), some (.ref d), z3, z4]) ∧ Same H H2 ∧ ∃ ks, Zjz ((pcs z L).take i) ks ∧ H2 d = some (.dK (gD ks (cnt ((pcs z L).take i)))))
   ⟨⟨none, none, rfl⟩, Zb hd, [], ⟨List.nodup_nil, fun x => by simp, Nat.le_refl _⟩, Zd⟩ ?_ ?_
  ·rintro i σ H2 hi ⟨⟨z3, z4, rfl⟩, s2, ks, hk, hdd⟩
   rw [Int.zero_add]
   refine ⟨_, rfl, _, rfl, _, rfl, _, rfl, _, rfl, _, _, rfl, rfl, _, rfl, _, rfl, ZM (by omega), ?_⟩
   rw [ZdN (z := z) (i := i) (L := L) rfl rfl (by omega), ← ZiE hi]
   have hg := Js (ks := ks) (g := cnt ((pcs z L).take i)) (y := (pcs z L)[i]) fun hP => by
    unfold cnt
    rw [List.count_eq_zero_of_not_mem fun q => hP ((hk.mem _).mpr q)]
    rfl
   have hkl := hk.len
   rw [List.length_take] at hkl
   have het : (pcs z L).take (i + 1) = (pcs z L).take i ++ [(pcs z L)[i]] := List.take_succ_eq_append_getElem hi
   generalize (pcs z L)[i] = y at *
   refine ⟨_, rfl, d, rfl, .inl ⟨_, .inl hdd⟩, _, rfl, _, DGet.k (k := Sum.inr y) hdd, _, _, hg, rfl, _, rfl, _, rfl, d, _, rfl, DPut.k (k := Sum.inr y) hdd (by rw [Yq]; exact Zr (by omega)), ?_⟩
   refine ⟨⟨_, _, rfl⟩, fun b u e => ?_, ZV ks y, ⟨YV hk.nd, fun x => ?_, ?_⟩, ?_⟩
   ·rw [Zg (Zj e hd)]
    exact s2 b u e
   ·rw [addK_mem, hk.mem, het]
    simp
   ·have := Yk ks y
    rw [het, List.length_append, List.length_singleton, List.length_take]
    omega
   ·rw [Zd, Jr, het]
    refine congrArg (fun l => some (HO.dK l)) (XU fun x _ => ?_)
    unfold cnt
    rw [List.count_append, List.count_singleton]
    by_cases c : x = y
    ·subst c
     rw [if_pos rfl, if_pos (by simp)]
     push_cast
     rfl
    ·rw [if_neg c, if_neg (by simp; exact fun q => c q.symm)]
     rfl
  ·rintro σ H2 ⟨⟨z3, z4, rfl⟩, s2, ks, hk, hdd⟩
   rw [List.take_length] at hk hdd
   exact ⟨_, rfl, k d H2 ks hd s2 hdd hk⟩
end
inductive Zfk : Nat → PyData → Prop where
 | int (n : Nat) (i : Int) : Zfk n (.int i)
 | str (n : Nat) (x : Str) : Zfk n (.str x)
 | tup (n : Nat) (ds : List PyData) (h : ∀ d ∈ ds, Zfk n d) (hl : ds.length ≤ 1000) : Zfk (n + 1) (.tuple ds)
theorem Zap {H : Hp} : ∀ {ds : List PyData} {vs : List V}, RepA H ds vs → vs.length = ds.length
 | [], vs, r => by rw [RepA] at r; rw [r]; rfl
 | d :: ds, vs, r => by
  rw [RepA] at r
  obtain ⟨v, us, e, _, q⟩ := r
  rw [e, List.length_cons, List.length_cons, Zap q]
theorem Zaq {H : Hp} : ∀ {ds : List PyData} {vs : List V}, RepA H ds vs → ∀ (i : Nat) (v : V), vs[i]? = some v → ∃ d, ds[i]? = some d ∧ RepD H d v
 | [], vs, r, i, v, e => by rw [RepA] at r; rw [r] at e; simp at e
 | d :: ds, vs, r, i, v, e => by
  rw [RepA] at r
  obtain ⟨u, us, eu, q1, q2⟩ := r
  subst eu
  cases i with
  | zero =>
   simp at e
   subst e
   exact ⟨d, rfl, q1⟩
  | succ i =>
   obtain ⟨d', e1, e2⟩ := Zaq q2 i v (by simpa using e)
   exact ⟨d', by simpa using e1, e2⟩
section
variable {P : Program} {w : World} {K : PySem.W.Frag} {mg : Str → Option Value} {base : Heap}
abbrev Zam : Stmt := top 29
abbrev ZhH : List Str := ["_law_found", "_law_due", "_law_one", "_law_other"]
theorem scLAlike : Zt ZhH ["_law_found", "_law_due"] (Zk Zam) := ⟨rfl, rfl, rfl, by decide +kernel, rfl, by decide +kernel, by decide +kernel⟩
def spA (n : Nat) : Sp := fun vs H Q _ => ∃ (v1 v2 : V) (d : PyData), vs = [v1, v2] ∧ RepD H d v1 ∧ RepD H d v2 ∧ Zfk n d ∧ ∀ H', Same H H' → Q (.bl true) H'
def Zfw (N : Nat) : Sp := fun vs H Q E => ∃ n, n ≤ N ∧ spA n vs H Q E
theorem Zaa {j N : Nat} {sp : Sp} (D : HasDef K mg "_law_alike" Zam ["_law_found", "_law_due"]) (B : Blt mg) (hsp : ∀ m, m + 1 ≤ N → ∀ vs H Q E, spA m vs H Q E → sp vs H Q E) (g0_ : FOk P w K mg base j "_law_alike" ["_law_found", "_law_due"] sp) : FOk P w K mg base (j + 1) "_law_alike" ["_law_found", "_law_due"] (Zfw N) := by
 refine D.ok scLAlike (fun vs H Q E h => ?_) (fun f cdv A outer s H vs Q E hr h => ?_)
 ·obtain ⟨n, _, v1, v2, d, rfl, _⟩ := h
  rfl
 ·obtain ⟨n, hnN, v1, v2, d, rfl, r1, r2, hfl, k⟩ := h
  refine ⟨_, (Zc (Z2 (YM (Zi Z5 rfl B.isi ZaQ (Za (pv 1) (Za (Zau rfl B.tuple Yf) Zf)))) (Zc (Z2 (PW.pt (Zc3 (Ja (YM (Zi Z5 rfl B.isi ZaQ (Za (pv 0) (Za (Zau rfl B.tuple Yf) Zf))))) (Za5 (Zs Zej (Zi Zo rfl B.len ZR (Za (pv 0) Zf)) (Zi Zo rfl B.len ZR (Za (pv 1) Zf)) (Zx _))))) (Zh (Zq Xk)) Zy)
   (Zc (Yo PassesOwn.never rfl (Ziw rfl B.zip (Za (pv 0) (Za (pv 1) Zf))) (Ye 2 K rfl (Zw (ZL (i := 2) scLAlike.nd rfl (.inl rfl)) (Zw (ZL (i := 3) scLAlike.nd rfl (.inl rfl)) Yd)))
    (Zh (Z2 (Ja (YM (ZA g0_ hr (Za (pv 2) (Za (pv 3) Zf))))) (Zh (Zq Xk)) Zy)))
   (Zh (Zq Xk)))) Zy)
   (Zc (Z2 (YM (Zi Z5 rfl B.isi ZaQ (Za (pv 1) (Za (Zau rfl B.str Zgq) Zf)))) (Zh (Zq (Jd (Zi Z5 rfl B.isi ZaQ (Za (pv 0) (Za (Zau rfl B.str Zgq) Zf))) (JP (YB Xc (pv 0) (pv 1) (Zx _)))))) Zy)
   (Zh (Zq (Jd (Zi Z5 rfl B.isi ZaQ (Za (pv 0) (Za (Zau rfl B.int Zjr) Zf))) (Jd (ZiB (Zi Z5 rfl B.isi ZaQ (Za (pv 0) (Za (Zau rfl B.bool Zjs) Zf)))) (JP (YB Xc (pv 0) (pv 1) (Zx _))))))))), ?_⟩
  cases hfl with
  | int n i =>
   rw [RepD] at r1 r2
   subst r1 r2
   refine ⟨_, rfl, .int i, "tuple", "int", rfl, by decide, .int i, _, rfl, Yl (by decide) ?_⟩
   refine ⟨_, rfl, .int i, "str", "int", rfl, by decide, .int i, _, rfl, Yl (by decide) ?_⟩
   refine ⟨_, rfl, .int i, "int", "int", rfl, by decide, .int i, _, rfl, Yx (by decide) ?_⟩
   refine ⟨_, rfl, .int i, "bool", "int", rfl, by decide, .int i, _, rfl, _, rfl, Yx (by decide) ?_⟩
   refine ⟨_, rfl, _, rfl, rfl, ?_⟩
   rw [decide_eq_true rfl]
   exact k H (Same.refl _)
  | str n x =>
   rw [RepD] at r1 r2
   subst r1 r2
   refine ⟨_, rfl, .str x, "tuple", "str", rfl, by decide, .str x, _, rfl, Yl (by decide) ?_⟩
   refine ⟨_, rfl, .str x, "str", "str", rfl, by decide, .str x, _, rfl, Yx (by decide) ?_⟩
   refine ⟨_, rfl, .str x, "str", "str", rfl, by decide, .str x, _, rfl, Yx (by decide) ?_⟩
   refine ⟨_, rfl, _, rfl, rfl, ?_⟩
   rw [decide_eq_true rfl]
   exact k H (Same.refl _)
  | tup m ds hds hl =>
   rw [RepD] at r1 r2
   obtain ⟨a1, xs, rfl, h1, q1⟩ := r1
   obtain ⟨a2, ys, rfl, h2, q2⟩ := r2
   have l1 := Zap q1
   have l2 := Zap q2
   refine ⟨_, rfl, .ref a2, "tuple", "tuple", rfl, by decide, .tup h2, _, rfl, Yx (by decide) ?_⟩
   refine ⟨_, rfl, .ref a1, "tuple", "tuple", rfl, by decide, .tup h1, _, rfl, Yl (by decide) ?_⟩
   refine ⟨_, rfl, .ref a1, _, rfl, .inr ⟨_, SqT.of h1, rfl⟩, _, rfl, .ref a2, _, rfl, .inr ⟨_, SqT.of h2, rfl⟩, rfl, _, rfl, Yl (by rw [l1, l2]; simp) ?_⟩
   refine ⟨_, rfl, _, rfl, a1, a2, xs, ys, rfl, h1, h2, ?_⟩
   refine Zh0 (xs := xs) (ys := ys) (fun i σ H2 => (∃ z2 z3 : Option V, σ = [some (.ref a1), some (.ref a2), z2, z3]) ∧ Same H H2) (by omega) ⟨⟨none, none, rfl⟩, Same.refl _⟩ (fun i σ H2 _ ⟨_, s2⟩ => ⟨s2 _ _ h1, s2 _ _ h2⟩) ?_ ?_
   ·rintro i x y σ H2 t hx hy ht ⟨⟨z2, z3, rfl⟩, s2⟩
    obtain ⟨d1, e1, rd1⟩ := Zaq q1 i x hx
    obtain ⟨d2, e2, rd2⟩ := Zaq q2 i y hy
    rw [e1] at e2
    cases e2
    have s3 := s2.trans (Zb (o := .tup [x, y]) ht)
    refine ⟨t, _, rfl, SqT.of Zd, rfl, _, _, rfl, _, _, rfl, rfl, ?_⟩
    refine ⟨_, rfl, _, rfl, hsp m hnN _ _ _ _ ⟨x, y, d1, rfl, RepD.same s3 _ _ rd1, RepD.same s3 _ _ rd2, hds d1 (List.mem_of_getElem? e1), fun H4 s4 => ?_⟩⟩
    exact ⟨_, rfl, Yl (by decide) ⟨⟨_, _, rfl⟩, s3.trans s4⟩⟩
   ·rintro σ H2 ⟨⟨z2, z3, rfl⟩, s2⟩
    exact k H2 s2
theorem XB (D : HasDef K mg "_law_alike" Zam ["_law_found", "_law_due"]) (B : Blt mg) : ∀ N : Nat, FOk P w K mg base (N + 2) "_law_alike" ["_law_found", "_law_due"] (Zfw N)
 | 0 => Zaa (sp := fun _ _ _ _ => False) D B (fun m e => by omega) (D.ok (k := 0) scLAlike (fun _ _ _ _ h => h.elim) fun _ _ _ _ _ _ _ _ _ _ h => h.elim)
 | N + 1 => Zaa D B (fun m e vs H Q E h => ⟨m, by omega, h⟩) (XB D B N)
end
theorem X4 {l m : List Str} (hl : (l.map fun x => x.cps.toList).Pairwise (· < ·)) (hm : (m.map fun x => x.cps.toList).Pairwise (· < ·)) (h : ∀ x, x ∈ l ↔ x ∈ m) : l = m := by
 have e := JL hl hm fun c => by
  rw [List.mem_map, List.mem_map]
  exact ⟨fun ⟨x, hx, q⟩ => ⟨x, (h x).mp hx, q⟩, fun ⟨x, hx, q⟩ => ⟨x, (h x).mpr hx, q⟩⟩
 have key : ∀ (l m : List Str), (l.map fun x => x.cps.toList) = (m.map fun x => x.cps.toList) → l = m := by
  intro l
  induction l with
  | nil =>
   intro m e
   cases m with
   | nil => rfl
   | cons _ _ => cases e
  | cons x l ih =>
   intro m e
   cases m with
   | nil => cases e
   | cons y m =>
    rw [List.map_cons, List.map_cons] at e
    injection e with e1 e2
    rw [Z4 e1, ih m e2]
 exact key l m e
theorem SPts.one {es : Es} {l m : List Str} (h : SPts es l) (k : SPts es m) : l = m := X4 h.srt k.srt fun x => by rw [h.pts.mem, k.pts.mem]
theorem Zaw {H : Hp} {vs : List V} {ss : List Str} {g : Str → Int} (hl : vs.length = ss.length) (hv : ∀ (i : Nat) (x : Str), ss[i]? = some x → ∃ b, vs[i]? = some (.ref b) ∧ H b = some (.tup [.str x, .int (g x)])) : PA H vs (ss.map fun x => (x, g x)) :=
 ⟨by rw [List.length_map, hl], fun i e he => by
  rw [List.getElem?_map] at he
  cases hi : ss[i]? with
  | none => rw [hi] at he; cases he
  | some x =>
   rw [hi] at he
   cases he
   exact hv i x hi⟩
section
variable {P : Program} {w : World} {K : PySem.W.Frag} {mg : Str → Option Value} {base : Heap}
abbrev Zak : Stmt := top 5
abbrev ZfT : List Str := ["H", "more", "piece", "many"]
theorem scMoreOut : Zt ZfT ["H"] (Zk Zak) := ⟨rfl, rfl, rfl, by decide +kernel, rfl, by decide +kernel, by decide +kernel⟩
def ZaZ : Sp := fun vs H Q _ => ∃ (v : V) (es : Es), vs = [v] ∧ HeapV H v es ∧ Zdo es ∧ ∀ d H' ks, Same H H' → H' d = some (.dK (gD ks (mo es))) → Pts es ks → Q (.ref d) H'
theorem ZbR (D : HasDef K mg "more_out" Zak ["H"]) (g12_ : FOk P w K mg base 1 "begin_of" ["piece"] ZbG) (g14_ : FOk P w K mg base 1 "end_of" ["piece"] ZdL) : FOk P w K mg base 2 "more_out" ["H"] ZaZ := by
 refine D.ok scMoreOut (fun vs H Q E h => ?_) (fun f cdv A outer s H vs Q E hr h => ?_)
 ·obtain ⟨v, es, rfl, _⟩ := h
  rfl
 ·obtain ⟨v, es, rfl, ⟨q, vs, rfl, hq, hpa⟩, hF, k⟩ := h
  have hu := ZaE hr
  refine ⟨_, (Zc (Zm (i := 1) scMoreOut.nd rfl (.inl rfl) YZ)
   (Zc (Yo PassesOwn.never rfl (YH (pv 0)) (Ye 2 K rfl (Zw (ZL (i := 2) scMoreOut.nd rfl (.inl rfl)) (Zw (ZL (i := 3) scMoreOut.nd rfl (.inl rfl)) Yd)))
    (Zc (Ys hu (pv 1) (ZA g12_ hr (Za (pv 2) Zf)) (Zn ZP (Yh hu (pv 1) (ZA g12_ hr (Za (pv 2) Zf)) Ze ⟨rfl, rfl, rfl, rfl⟩) (pv 3)) rfl)
   (Zh (Ys hu (pv 1) (ZA g14_ hr (Za (pv 2) Zf)) (Zn XI (Yh hu (pv 1) (ZA g14_ hr (Za (pv 2) Zf)) Ze ⟨rfl, rfl, rfl, rfl⟩) (pv 3)) rfl))))
   (Zh (Zq (pv 1))))), ?_⟩
  intro d hd
  have s1 := Zb (o := .dK []) hd
  refine ⟨_, rfl, q, rfl, ⟨_, SqT.of (s1 _ _ hq)⟩, ?_⟩
  refine XD (K := K) (a := q) (xs := vs) (fun i σ H2 => (∃ z2 z3 : Option V, σ = [some (.ref q), some (.ref d), z2, z3]) ∧ Same H H2 ∧ ∃ ks, Pts (es.take i) ks ∧ H2 d = some (.dK (gD ks (mo (es.take i)))))
   ⟨⟨none, none, rfl⟩, s1, [], Pts.nil, Zd⟩ (fun i σ H2 _ ⟨_, s2, _⟩ => SqT.of (s2 _ _ hq)) ?_ ?_
  ·rintro i x σ H2 hi ⟨⟨z2, z3, rfl⟩, s2, ks, hk, hdd⟩
   have hiv : i < vs.length := (List.getElem?_eq_some_iff.mp hi).1
   have hie : i < es.length := by rw [← hpa.1]; exact hiv
   obtain ⟨b, e1, e2⟩ := hpa.2 i es[i] (List.getElem?_eq_getElem hie)
   rw [hi] at e1
   cases e1
   obtain ⟨l1, l2⟩ := hF.long es[i] (List.getElem_mem hie)
   have hkl := hk.len
   have hfew := hF.few
   rw [List.length_take] at hkl
   refine ⟨b, _, rfl, SqT.of (s2 _ _ e2), rfl, _, _, rfl, _, _, rfl, rfl, ?_⟩
   have het : es.take (i + 1) = es.take i ++ [es[i]] := List.take_succ_eq_append_getElem hie
   generalize es[i] = e at *
   have h0 := fun (hP : bg e.1 ∉ ks) => hk.zero hP
   have hg := Js (ks := ks) (g := mo (es.take i)) h0
   refine ⟨_, rfl, d, rfl, .inl ⟨_, .inl hdd⟩, _, rfl, e.1, rfl, l1, l2, _, DGet.k (k := Sum.inr (bg e.1)) hdd, _, rfl, _, _, hg, rfl, _, rfl, _, rfl, e.1, rfl, l1, l2, d, _, rfl, DPut.k (k := Sum.inr (bg e.1)) hdd (by rw [Yq]; exact Zr (by omega)), ?_⟩
   rw [Jr]
   have hdd2 : (upd H2 d (.dK (gD (ZV ks (bg e.1)) fun x => if x = bg e.1 then mo (es.take i) (bg e.1) + e.2 else mo (es.take i) x))) d = some (.dK (gD (ZV ks (bg e.1)) fun x => if x = bg e.1 then mo (es.take i) (bg e.1) + e.2 else mo (es.take i) x)) := Zd
   have hg2 := Js (ks := ZV ks (bg e.1)) (g := fun x => if x = bg e.1 then mo (es.take i) (bg e.1) + e.2 else mo (es.take i) x) (y := en e.1) fun hP => by
    rw [addK_mem, not_or] at hP
    rw [if_neg hP.2, hk.zero hP.1]
   have hal := Yk ks (bg e.1)
   refine ⟨_, rfl, d, rfl, .inl ⟨_, .inl hdd2⟩, _, rfl, e.1, rfl, l1, l2, _, DGet.k (k := Sum.inr (en e.1)) hdd2, _, rfl, _, _, hg2, rfl, _, rfl, _, rfl, e.1, rfl, l1, l2, d, _, rfl, DPut.k (k := Sum.inr (en e.1)) hdd2 (by rw [Yq]; exact Zr (by omega)), ?_⟩
   refine ⟨⟨_, _, rfl⟩, fun c u hc => ?_, ZV (ZV ks (bg e.1)) (en e.1), by rw [het]; exact hk.step e, ?_⟩
   ·rw [Xu, Zg (Zj hc hd)]
    exact s2 c u hc
   ·rw [Zd, Jr, het]
    refine congrArg (fun l => some (HO.dK l)) (XU fun x _ => ?_)
    rw [ZeB]
    unfold mo1 ind
    by_cases c1 : x = en e.1
    ·subst c1
     rw [if_pos rfl, if_pos rfl]
     by_cases c2 : en e.1 = bg e.1
     ·rw [if_pos c2, if_pos c2.symm, c2]
      omega
     ·rw [if_neg c2, if_neg (Ne.symm c2)]
      omega
    ·rw [if_neg c1, if_neg (Ne.symm c1)]
     by_cases c2 : x = bg e.1
     ·subst c2
      rw [if_pos rfl, if_pos rfl]
      omega
     ·rw [if_neg c2, if_neg (Ne.symm c2)]
      omega
  ·rintro σ H2 ⟨⟨z2, z3, rfl⟩, s2, ks, hk, hdd⟩
   rw [hpa.1, List.take_length] at hk hdd
   exact ⟨_, rfl, k d H2 ks s2 hdd hk⟩
abbrev Xh : Stmt := top 6
abbrev Zbd : List Str := ["H"]
theorem Zc1 : Zt Zbd ["H"] (Zk Xh) := ⟨rfl, rfl, rfl, by decide +kernel, rfl, by decide +kernel, by decide +kernel⟩
def XO : Sp := fun vs H Q _ => ∃ (v : V) (es : Es), vs = [v] ∧ HeapV H v es ∧ Zdo es ∧ ∀ v' H' ss, Same H H' → HeapV H' v' (ups (mo es) ss) → SPts es ss → Q v' H'
theorem Zbb (D : HasDef K mg "begins_of" Xh ["H"]) (B : Blt mg) (g18_ : FOk P w K mg base 2 "more_out" ["H"] ZaZ) : FOk P w K mg base 3 "begins_of" ["H"] XO := by
 refine D.ok Zc1 (fun vs H Q E h => ?_) (fun f cdv A outer s H vs Q E hr h => ?_)
 ·obtain ⟨v, es, rfl, _⟩ := h
  rfl
 ·obtain ⟨v, es, rfl, hV, hF, k⟩ := h
  refine ⟨_, (Zh (Zq (ZO ZE rfl B.tuple Yf (Za (Yp (Zk Xh) Zbd ["point", "more"] [] rfl (Zed (Zi (Yi rfl) rfl B.sorted Yj (Za (XT (ZA g18_ hr (Za (pv 0) Zf))) Zf))) (fun _ _ _ _ _ => Ye 2 K rfl (Zw (Xi 0) (Zw (Xi 1) Yd))) (fun _ _ _ _ _ => ZbO (Zs Jh (pv 1) Ze (Zx _))) (fun _ _ _ _ _ => (Jc (Za (pv 0) (Za (pv 1) Zf))))) Zf)))), ?_⟩
  refine ⟨_, rfl, v, es, rfl, hV, hF, fun d H1 ks s1 hd hP => ⟨d, _, rfl, hd, fun p hp => ?_⟩⟩
  have hkl := hP.len
  have hfew := hF.few
  refine ⟨p, d, ks, fun x => .int (mo es x), rfl, Zd, Zb hp _ _ hd, hP.nd, by omega, fun D1 H2 vs ss s2 hpm hsrt hD1 hl hv => ?_⟩
  have hss := hpm.length_eq
  refine ⟨D1, rfl, ⟨_, SqL.of hD1⟩, Zb4 ss.length (fun i => vs.getD i .non) (fun i => decide (0 < (mo es) (ss.getD i ""))) (fun i v H => Zho (ss.getD i "") ((mo es) (ss.getD i "")) v H) (Zl (by omega)) (fun i v H H' hs ⟨b, e1, e2⟩ => ⟨b, e1, hs _ _ e2⟩) (by have := ZhT (K := K) (SqL.of hD1); rw [hl] at this; exact this) ?_ ?_⟩
  ·intro i H3 Qt Qf hi hs ht hf
   obtain ⟨b, e1, e2⟩ := hv i ss[i] (List.getElem?_eq_getElem hi)
   have ev : vs.getD i .non = .ref b := by rw [List.getD_eq_getElem?_getD, e1]; rfl
   have es1 : ss.getD i "" = ss[i] := by rw [List.getD_eq_getElem?_getD, List.getElem?_eq_getElem hi]; rfl
   rw [es1] at ht hf
   rw [ev]
   refine ⟨b, _, rfl, SqT.of (hs _ _ e2), rfl, _, _, rfl, _, _, rfl, rfl, ?_⟩
   refine ⟨_, rfl, _, _, rfl, rfl, _, rfl, ?_⟩
   by_cases c : 0 < (mo es) ss[i]
   ·refine Yx (decide_eq_true (by omega)) (⟨_, rfl, _, rfl, Zl (show 2 ≤ 1000 by decide), fun r hr => ht (decide_eq_true c) _ _ (Zb hr) ⟨r, rfl, Zd⟩⟩)
   ·exact Yl (decide_eq_false (by omega)) (hf (decide_eq_false c) _ (Same.refl _))
  ·intro D2 vs2 H3 hl2 hR hs3 hD2 hDl
   refine ⟨D2, vs2, rfl, .inl ⟨SqL.of hDl, fun q hq => ?_⟩⟩
   have sq := Zb (o := .tup vs2) hq
   refine k (.ref q) _ ss (((s1.trans (Zb hp)).trans s2).trans (hs3.trans sq)) ⟨q, vs2, rfl, Zd, ?_⟩ (SPts.of hP hpm hsrt)
   exact (ZiF (p := fun x => decide (0 < (mo es) x)) (f := fun x => (mo es) x) hl2 hR).same sq.tup
end
theorem Zhw {H : Hp} {vs : List V} {fs : List Str} {f : Str → Int} (h : PA H vs (fs.map fun x => (x, f x))) : ∃ rs : List (Addr × Str), vs = rs.map (fun r => V.ref r.1) ∧ rs.map Prod.snd = fs ∧ ∀ r ∈ rs, H r.1 = some (.tup [.str r.2, .int (f r.2)]) := by
 obtain ⟨hl, hh⟩ := h
 rw [List.length_map] at hl
 induction fs generalizing vs with
 | nil =>
  have : vs = [] := List.length_eq_zero_iff.mp hl
  subst this
  exact ⟨[], rfl, rfl, fun r hr => by cases hr⟩
 | cons x fs ih =>
  cases vs with
  | nil => simp at hl
  | cons v vs =>
   obtain ⟨b, e1, e2⟩ := hh 0 (x, f x) rfl
   obtain ⟨rs, h1, h2, h3⟩ := ih (vs := vs) (by simpa using hl) fun i e he => by
    obtain ⟨b, q1, q2⟩ := hh (i + 1) e (by simpa using he)
    exact ⟨b, by simpa using q1, q2⟩
   have ev : v = .ref b := by simpa using e1
   refine ⟨(b, x) :: rs, by rw [List.map_cons, ← h1, ev], by rw [List.map_cons, h2], fun r hr => ?_⟩
   rcases List.mem_cons.mp hr with z | z
   ·rw [z]; exact e2
   ·exact h3 r z
section
variable {P : Program} {w : World} {K : PySem.W.Frag} {mg : Str → Option Value} {base : Heap}
end
theorem ZgN {K : PySem.W.Frag} {mp : List Nat} {σ : L2.St} {H1 : Hp} {Q : VK} {q : Addr} {vs : List V} {es : Es} (hS : lcS 2 mp σ = [none, none]) (hq : H1 q = some (.tup vs)) (hpa : PA H1 vs es) (hl : es.length ≤ 1000)
  (done : ∀ D H', Same H1 H' → H' D = some (.lst ((es.map fun e => e.2).map V.int)) → Q (.ref D) H') : Zbf 2 mp σ (Zj8 K 2 (ZhZ (JH 0) (ZhZ (JH 1) Zkw))) ZjF (ZjG 1) (Itt K q) H1 Q := by
 refine ZcD vs.length (fun i => vs.getD i .non) (fun i v _ => v = .int (es.getD i ("", 0)).2) (Zl (by rw [hpa.1]; exact hl)) (fun _ _ _ _ _ r => r) (Zbh (SqT.of hq)) ?_ ?_
 ·intro i H Qe hi hs kq
  have hie : i < es.length := by rw [← hpa.1]; exact hi
  obtain ⟨b, e1, e2⟩ := hpa.2 i es[i] (List.getElem?_eq_getElem hie)
  have ev : vs.getD i .non = .ref b := by rw [List.getD_eq_getElem?_getD, e1]; rfl
  have ee : es.getD i ("", 0) = es[i] := by rw [List.getD_eq_getElem?_getD, List.getElem?_eq_getElem hie]; rfl
  rw [ev, hS]
  refine ⟨b, _, rfl, SqT.of (hs _ _ e2), rfl, _, _, rfl, _, _, rfl, rfl, _, rfl, kq _ _ (Same.refl _) ?_⟩
  rw [ee]
 ·intro D us H' hul hR hs hD hDl
  refine done D H' hs ?_
  rw [hDl]
  congr 2
  apply List.ext_getElem?
  intro i
  by_cases hi : i < us.length
  ·have hie : i < es.length := by rw [← hpa.1, ← hul]; exact hi
   rw [List.getElem?_eq_getElem hi, hR i _ (List.getElem?_eq_getElem hi), List.getElem?_map, List.getElem?_map, List.getElem?_eq_getElem hie, List.getD_eq_getElem?_getD, List.getElem?_eq_getElem hie]
   rfl
  ·rw [List.getElem?_eq_none (by omega), List.getElem?_eq_none (by rw [List.length_map, List.length_map]; have := hpa.1; omega)]
theorem Zgx : ∀ {l : List Int} {b : Nat}, (∀ x ∈ l, 0 ≤ x ∧ x ≤ b) → 0 ≤ l.sum ∧ l.sum ≤ b * l.length
 | [], b, _ => by simp
 | x :: l, b, h => by
  have ih := Zgx (l := l) (b := b) fun y hy => h y (List.mem_cons_of_mem _ hy)
  have hx := h x (List.mem_cons_self ..)
  rw [List.sum_cons, List.length_cons]
  push_cast
  rw [Int.mul_add, Int.mul_one]
  omega
theorem ZhK {l : List Int} (h : ∀ x ∈ l, 0 ≤ x ∧ x ≤ (301000 : Nat)) (hl : l.length ≤ 602) : (∀ x ∈ l, InLong x) ∧ ∀ k, InLong (l.take k).sum := by
 constructor
 ·intro x hx
  have := h x hx
  unfold InLong
  omega
 ·intro k
  have h1 := Zgx (l := l.take k) (b := 301000) fun x hx => h x (List.mem_of_mem_take hx)
  have h2 : (l.take k).length ≤ 602 := by rw [List.length_take]; omega
  unfold InLong
  omega
def Za7 (es : Es) : PyData := .tuple (es.map fun e => .tuple [.str e.1, .int e.2])
theorem Y2 {H : Hp} {v : V} {es : Es} (h : HeapV H v es) : RepD H (Za7 es) v := by
 obtain ⟨q, vs, rfl, hq, hl, hh⟩ := h
 unfold Za7
 rw [RepD]
 refine ⟨q, vs, rfl, hq, ?_⟩
 induction es generalizing vs with
 | nil =>
  rw [List.map_nil, RepA]
  exact List.length_eq_zero_iff.mp hl
 | cons e es ih =>
  cases vs with
  | nil => simp at hl
  | cons v vs =>
   rw [List.map_cons, RepA]
   obtain ⟨b, e1, e2⟩ := hh 0 e rfl
   have ev : v = .ref b := by simpa using e1
   refine ⟨v, vs, rfl, ?_, ?_⟩
   ·rw [RepD]
    refine ⟨b, _, ev, e2, ?_⟩
    rw [RepA]
    refine ⟨_, _, rfl, by rw [RepD], ?_⟩
    rw [RepA]
    exact ⟨_, _, rfl, by rw [RepD], by rw [RepA]⟩
   ·clear hq ev
    have : ∀ (es : Es) (vs : List V), vs.length = es.length → (∀ (i : Nat) (e : Str × Int), es[i]? = some e → ∃ b, vs[i]? = some (.ref b) ∧ H b = some (.tup [.str e.1, .int e.2])) → RepA H (es.map fun e => PyData.tuple [.str e.1, .int e.2]) vs := by
     intro es
     induction es with
     | nil =>
      intro vs hl _
      rw [List.map_nil, RepA]
      exact List.length_eq_zero_iff.mp hl
     | cons e es ih2 =>
      intro vs hl hh
      cases vs with
      | nil => simp at hl
      | cons v vs =>
       rw [List.map_cons, RepA]
       obtain ⟨b, e1, e2⟩ := hh 0 e rfl
       have ev : v = .ref b := by simpa using e1
       refine ⟨v, vs, rfl, ?_, ih2 vs (by simpa using hl) fun i e' he' => ?_⟩
       ·rw [RepD]
        refine ⟨b, _, ev, e2, ?_⟩
        rw [RepA]
        refine ⟨_, _, rfl, by rw [RepD], ?_⟩
        rw [RepA]
        exact ⟨_, _, rfl, by rw [RepD], by rw [RepA]⟩
       ·obtain ⟨b', q1, q2⟩ := hh (i + 1) e' (by simpa using he')
        exact ⟨b', by simpa using q1, q2⟩
    exact this es vs (by simpa using hl) fun i e' he' => by
     obtain ⟨b', q1, q2⟩ := hh (i + 1) e' (by simpa using he')
     exact ⟨b', by simpa using q1, q2⟩
theorem JV {es : Es} (h : es.length ≤ 1000) : Zfk 2 (Za7 es) := by
 refine .tup 1 _ (fun d hd => ?_) (by rw [List.length_map]; exact h)
 obtain ⟨e, _, rfl⟩ := List.mem_map.mp hd
 refine .tup 0 _ (fun d' hd' => ?_) (by simp)
 rcases List.mem_cons.mp hd' with z | z
 ·rw [z]; exact .str 0 _
 ·rw [List.mem_singleton.mp z]; exact .int 0 _
theorem Zg7 {es : Es} {f : Str → Int} {ss us : List Str} (h : SPts es ss) (hs : (us.map fun x => x.cps.toList).Pairwise (· < ·)) (hm : ∀ x, x ∈ us ↔ (∃ e ∈ es, bg e.1 = x ∨ en e.1 = x) ∧ 0 < f x) : (us.map fun x => (x, f x)) = ups f ss := by
 unfold ups
 have : us = ss.filter fun x => decide (0 < f x) := by
  refine X4 hs ?_ fun x => ?_
  ·exact (h.srt.sublist (List.Sublist.map _ List.filter_sublist))
  ·rw [hm, List.mem_filter, h.pts.mem]
   simp
 rw [this]
theorem Zg8 (f : Str → Int) (ss : List Str) : (ups f ss).length ≤ ss.length := by
 unfold ups
 rw [List.length_map]
 exact List.length_filter_le _ _
theorem Zab {es : Es} (hF : Zdo es) {f : Str → Int} (hf : ∀ x, (f x).natAbs = (mo es x).natAbs) {ss : List Str} (hp : SPts es ss) : (∀ x ∈ (ups f ss).map fun e => e.2, InLong x) ∧ (∀ k, InLong (((ups f ss).map fun e => e.2).take k).sum) ∧ (ups f ss).length ≤ 1000 := by
 have hb : ∀ x, (f x).natAbs ≤ 301000 := fun x => by
  rw [hf]
  have := ZiY (es := es) (b := 1000) x hF.many
  have := hF.few
  omega
 have hl : (ups f ss).length ≤ 602 := by
  have := Zg8 f ss
  have := hp.pts.len
  have := hF.few
  omega
 obtain ⟨a1, a2⟩ := ZhK (l := (ups f ss).map fun e => e.2) (fun x hx => by
  obtain ⟨e, he, rfl⟩ := List.mem_map.mp hx
  have := Zie hb ss e he
  omega) (by rw [List.length_map]; exact hl)
 exact ⟨a1, a2, by omega⟩
section
variable {P : Program} {w : World} {K : PySem.W.Frag} {mg : Str → Option Value} {base : Heap}
end
end Sh
namespace L2
open PySem PySem.Spec PyProof.Rows
theorem Zkg : bootBuiltins "set" = some (.type "set") := by decide +kernel
end L2
namespace Sh
open PySem L2 PyProof.Rows
seal L2.PE L2.PS L2.PSs L2.PT L2.PW L2.PA L2.PI L2.PG L2.PGs L2.PO L2.PC L2.PCs L2.OpR L2.UnR L2.CallR L2.MtR L2.IxR L2.SlR
theorem Zdz {vs : List V} {es : Es} {f : Str → Str} (hl : vs.length = es.length) (hR : ∀ (i : Nat) (v : V), vs[i]? = some v → v = .str (f (es.getD i ("", 0)).1)) : vs = (es.map fun e => f e.1).map V.str := by
 apply List.ext_getElem?
 intro i
 by_cases hi : i < vs.length
 ·have hie : i < es.length := by omega
  rw [List.getElem?_eq_getElem hi, hR i _ (List.getElem?_eq_getElem hi), List.getElem?_map, List.getElem?_map, List.getElem?_eq_getElem hie, List.getD_eq_getElem?_getD, List.getElem?_eq_getElem hie]
  rfl
 ·rw [List.getElem?_eq_none (by omega), List.getElem?_eq_none (by rw [List.length_map, List.length_map]; omega)]
section
variable {P : Program} {w : World} {K : PySem.W.Frag} {mg : Str → Option Value} {base : Heap}
def TupS (H : Hp) (v : V) (ss : List Str) : Prop := ∃ q, v = .ref q ∧ H q = some (.tup (ss.map V.str))
theorem TupS.same {H H' : Hp} {v : V} {ss : List Str} (h : TupS H v ss) (s : Same H H') : TupS H' v ss := by
 obtain ⟨q, e, e2⟩ := h
 exact ⟨q, e, s _ _ e2⟩
abbrev YL : Stmt := top 4
abbrev Ji : List Str := ["H"]
theorem Zc0 : Zt Ji ["H"] (Zk YL) := ⟨rfl, rfl, rfl, by decide +kernel, rfl, by decide +kernel, by decide +kernel⟩
def Zcn : Sp := fun vs H Q _ => ∃ (v : V) (es : Es), vs = [v] ∧ HeapV H v es ∧ Zdo es ∧ ∀ v' H' ss, Same H H' → TupS H' v' ss → SPts es ss → Q v' H'
theorem Za9 (D : HasDef K mg "points_of" YL ["H"]) (B : Blt mg) (g12_ : FOk P w K mg base 1 "begin_of" ["piece"] ZbG) (g14_ : FOk P w K mg base 1 "end_of" ["piece"] ZdL) : FOk P w K mg base 2 "points_of" ["H"] Zcn := by
 refine D.ok Zc0 (fun vs H Q E h => ?_) (fun f cdv A outer s H vs Q E hr h => ?_)
 ·obtain ⟨v, es, rfl, _⟩ := h
  rfl
 ·obtain ⟨v, es, rfl, ⟨q, vs, rfl, hq, hpa⟩, hF, k⟩ := h
  refine ⟨_, (Zh (Zq (ZO ZE rfl B.tuple Yf (Za (Zi (JI rfl) rfl B.sorted Yj (Za (ZO (Zfa rfl) rfl B.set Zkg (Za (Zn ZgL (Yp (Zk YL) Ji ["piece", "many"] [] rfl (YH (pv 0)) (fun _ _ _ _ _ => Ye 2 K rfl (Zw (Xi 0) (Zw (Xi 1) Yd))) (fun _ _ _ _ _ => Je) (fun _ _ _ _ _ => (ZA g12_ hr (Za (pv 0) Zf))))
   (Yp (Zk YL) Ji ["piece", "many"] [] rfl (YH (pv 0)) (fun _ _ _ _ _ => Ye 2 K rfl (Zw (Xi 0) (Zw (Xi 1) Yd))) (fun _ _ _ _ _ => Je) (fun _ _ _ _ _ => (ZA g14_ hr (Za (pv 0) Zf))))) Zf)) Zf)) Zf)))), ?_⟩
  have hfew := hF.few
  have hvl := hpa.1
  refine ⟨_, rfl, q, rfl, ⟨_, SqT.of hq⟩, ZcD vs.length (fun i => vs.getD i .non) (fun i v _ => v = .str (bg (es.getD i ("", 0)).1)) (Zl (by omega)) (fun _ _ _ _ _ r => r) (Zbh (SqT.of hq)) ?_ ?_⟩
  ·intro i H3 Qe hi hs kq
   have hie : i < es.length := by omega
   obtain ⟨b, e1, e2⟩ := hpa.2 i es[i] (List.getElem?_eq_getElem hie)
   have ev : vs.getD i .non = .ref b := by rw [List.getD_eq_getElem?_getD, e1]; rfl
   have ee : es.getD i ("", 0) = es[i] := by rw [List.getD_eq_getElem?_getD, List.getElem?_eq_getElem hie]; rfl
   obtain ⟨l1, l2⟩ := hF.long es[i] (List.getElem_mem hie)
   rw [ev]
   refine ⟨b, _, rfl, SqT.of (hs _ _ e2), rfl, _, _, rfl, _, _, rfl, rfl, _, rfl, es[i].1, rfl, l1, l2, kq _ _ (Same.refl _) ?_⟩
   rw [ee]
  intro D1 vs1 H3 hl1 hr1 hs3 hD1 hDl1
  rw [Zdz (f := bg) (by omega) hr1] at hDl1
  refine ⟨_, rfl, q, rfl, ⟨_, SqT.of (hs3 _ _ hq)⟩, ZcD vs.length (fun i => vs.getD i .non) (fun i v _ => v = .str (en (es.getD i ("", 0)).1)) (Zl (by omega)) (fun _ _ _ _ _ r => r) (Zbh (SqT.of (hs3 _ _ hq))) ?_ ?_⟩
  ·intro i H4 Qe hi hs kq
   have hie : i < es.length := by omega
   obtain ⟨b, e1, e2⟩ := hpa.2 i es[i] (List.getElem?_eq_getElem hie)
   have ev : vs.getD i .non = .ref b := by rw [List.getD_eq_getElem?_getD, e1]; rfl
   have ee : es.getD i ("", 0) = es[i] := by rw [List.getD_eq_getElem?_getD, List.getElem?_eq_getElem hie]; rfl
   obtain ⟨l1, l2⟩ := hF.long es[i] (List.getElem_mem hie)
   rw [ev]
   refine ⟨b, _, rfl, SqT.of (hs _ _ (hs3 _ _ e2)), rfl, _, _, rfl, _, _, rfl, rfl, _, rfl, es[i].1, rfl, l1, l2, kq _ _ (Same.refl _) ?_⟩
   rw [ee]
  intro D2 vs2 H4 hl2 hr2 hs4 hD2 hDl2
  rw [Zdz (f := en) (by omega) hr2] at hDl2
  refine ⟨D1, D2, _, _, rfl, rfl, hs4 _ _ hDl1, hDl2, Zl (by simp only [List.length_map]; omega), fun p hp => ?_⟩
  have s5 := Zb (o := .lst ((es.map fun e => bg e.1).map V.str ++ (es.map fun e => en e.1).map V.str)) hp
  refine ⟨p, (es.map fun e => bg e.1) ++ (es.map fun e => en e.1), rfl, SqL.of (by rw [Zd, List.map_append]), by simp only [List.length_append, List.length_map]; omega, fun p2 ks hp2 hnd hmem hkl => ?_⟩
  have hkl' : ks.length ≤ 2 * es.length := by simp only [List.length_append, List.length_map] at hkl; omega
  refine ⟨p2, ks, rfl, Zd, by omega, fun q2 ss hq2 hpm hsrt => ?_⟩
  refine ⟨q2, _, rfl, .inl ⟨SqL.of Zd, fun l hl => ?_⟩⟩
  refine k (.ref l) _ ss (((((hs3.trans hs4).trans s5).trans (Zb hp2)).trans (Zb hq2)).trans (Zb hl)) ⟨l, rfl, Zd⟩ (SPts.of (ks := ks) ⟨hnd, fun x => ?_, hkl'⟩ hpm hsrt)
  rw [hmem, List.mem_append, List.mem_map, List.mem_map]
  constructor
  ·rintro (⟨e, he, z⟩ | ⟨e, he, z⟩)
   ·exact ⟨e, he, .inl z⟩
   ·exact ⟨e, he, .inr z⟩
  ·rintro ⟨e, he, z | z⟩
   ·exact .inl ⟨e, he, z⟩
   ·exact .inr ⟨e, he, z⟩
end
def rD (ks : List Str) (adr : Str → Addr) : List (Key × V) := ks.map fun x => ((Sum.inr x : Key), V.ref (adr x))
theorem Zd6 (ks : List Str) (adr : Str → Addr) : (rD ks adr).length = ks.length := by unfold rD; rw [List.length_map]
theorem XH (ks : List Str) (adr : Str → Addr) (y : Str) : Y5 (rD ks adr) (Sum.inr y) = if y ∈ ks then some (.ref (adr y)) else none := XY (fun x => V.ref (adr x)) y ks
theorem ZgF {ks : List Str} {adr : Str → Addr} {y : Str} {p : Addr} (h : y ∉ ks) : Xz (rD ks adr) (Sum.inr y) (.ref p) = rD (ks ++ [y]) fun x => if x = y then p else adr x := by
 rw [Zas _ (by rw [XH, if_neg h])]
 unfold rD
 rw [List.map_append, List.map_singleton]
 dsimp only
 rw [if_pos rfl]
 congr 1
 refine List.map_congr_left fun x hx => ?_
 rw [if_neg (fun e : x = y => h (e ▸ hx))]
structure TJ (H H2 : Hp) (d : Addr) (ks : List Str) (adr : Str → Addr) (r : Str → List Str) : Prop where
 sm : Same H H2
 dn : H d = none
 dd : H2 d = some (.dK (rD ks adr))
 nd : ks.Nodup
 row : ∀ P ∈ ks, H2 (adr P) = some (.lst ((r P).map V.str))
 fresh : ∀ P ∈ ks, H (adr P) = none
 inj : ∀ P ∈ ks, ∀ P' ∈ ks, adr P = adr P' → P = P'
 out : ∀ P, P ∉ ks → r P = []
def Zcf (r : Str → List Str) (P y : Str) : Str → List Str := fun x => if x = P then r P ++ [y] else r x
theorem ZcS {r : Str → List Str} {P y x z : Str} : z ∈ Zcf r P y x ↔ z ∈ r x ∨ (x = P ∧ z = y) := by
 unfold Zcf
 by_cases c : x = P
 ·subst c
  rw [if_pos rfl]
  simp
 ·rw [if_neg c]
  simp [c]
theorem ZaR {r : Str → List Str} {P y : Str} {n : Nat} (h : ∀ x, (r x).length ≤ n) (x : Str) : (Zcf r P y x).length ≤ n + 1 := by
 unfold Zcf
 split
 ·have := h P
  simp
  omega
 ·have := h x
  omega
theorem TJ.ne {H H2 : Hp} {d : Addr} {ks : List Str} {adr : Str → Addr} {r : Str → List Str} (J : TJ H H2 d ks adr r) {P : Str} (hP : P ∈ ks) : adr P ≠ d := fun e => by
 have := J.row P hP
 rw [e, J.dd] at this
 cases this
theorem TJ.old {H H2 : Hp} {d p : Addr} {ks : List Str} {adr : Str → Addr} {r : Str → List Str} (J : TJ H H2 d ks adr r) {P y : Str} (hP : P ∈ ks) (hp : H2 p = none) :
  TJ H (upd (upd H2 p (.lst [])) (adr P) (.lst ((r P).map V.str ++ [.str y]))) d (ZV ks P) adr (Zcf r P y) := by
 have ek : ZV ks P = ks := by unfold ZV; rw [if_pos hP]
 rw [ek]
 have s1 := Zb (o := .lst []) hp
 refine ⟨fun b u hb => ?_, J.dn, ?_, J.nd, fun Q hQ => ?_, J.fresh, J.inj, fun Q hQ => ?_⟩
 ·rw [Zg fun e => by rw [e, J.fresh P hP] at hb; cases hb]
  exact s1 _ _ (J.sm b u hb)
 ·rw [Zg (Ne.symm (J.ne hP))]
  exact s1 _ _ J.dd
 ·unfold Zcf
  by_cases c : Q = P
  ·subst c
   rw [Zd, if_pos rfl, List.map_append]
   rfl
  ·rw [if_neg c, Zg fun e => c (J.inj Q hQ P hP e)]
   exact s1 _ _ (J.row Q hQ)
 ·unfold Zcf
  rw [if_neg (fun e : Q = P => hQ (e ▸ hP))]
  exact J.out Q hQ
theorem TJ.new {H H2 : Hp} {d p : Addr} {ks : List Str} {adr : Str → Addr} {r : Str → List Str} (J : TJ H H2 d ks adr r) {P y : Str} (hP : P ∉ ks) (hp : H2 p = none) :
  TJ H (upd (upd (upd H2 p (.lst [])) d (.dK (rD (ks ++ [P]) fun x => if x = P then p else adr x))) p (.lst ([] ++ [.str y]))) d (ZV ks P) (fun x => if x = P then p else adr x) (Zcf r P y) := by
 have ek : ZV ks P = ks ++ [P] := by unfold ZV; rw [if_neg hP]
 rw [ek]
 have hpd : d ≠ p := fun e => by rw [← e, J.dd] at hp; cases hp
 have hpa : ∀ Q ∈ ks, adr Q ≠ p := fun Q hQ e => by have := J.row Q hQ; rw [e, hp] at this; cases this
 have mm : ∀ Q, Q ∈ ks ++ [P] → Q ∈ ks ∨ Q = P := fun Q h => by simpa using h
 refine ⟨fun b u hb => ?_, J.dn, ?_, ?_, fun Q hQ => ?_, fun Q hQ => ?_, fun Q hQ Q' hQ' e => ?_, fun Q hQ => ?_⟩
 ·have h2 := J.sm b u hb
  rw [Zg (Zj h2 hp), Zg (Zj hb J.dn), Zg (Zj h2 hp)]
  exact h2
 ·rw [Zg hpd, Zd]
 ·exact List.nodup_append.mpr ⟨J.nd, by simp, fun a ha b hb e => by rw [List.mem_singleton.mp hb] at e; subst e; exact hP ha⟩
 ·unfold Zcf
  by_cases c : Q = P
  ·subst c
   rw [if_pos rfl, if_pos rfl, Zd, J.out Q hP]
   rfl
  ·rw [if_neg c, if_neg c]
   have hQ' : Q ∈ ks := (mm Q hQ).resolve_right c
   rw [Zg (hpa Q hQ'), Zg (J.ne hQ'), Zg (hpa Q hQ')]
   exact J.row Q hQ'
 ·skip
  by_cases c : Q = P
  ·rw [if_pos c]
   cases hh : H p with
   | none => rfl
   | some u => have := J.sm p u hh; rw [hp] at this; cases this
  ·rw [if_neg c]
   exact J.fresh Q ((mm Q hQ).resolve_right c)
 ·skip
  by_cases c : Q = P
  ·by_cases c' : Q' = P
   ·rw [c, c']
   ·rw [if_pos c, if_neg c'] at e
    exact absurd e.symm (hpa Q' ((mm Q' hQ').resolve_right c'))
  ·by_cases c' : Q' = P
   ·rw [if_neg c, if_pos c'] at e
    exact absurd e (hpa Q ((mm Q hQ).resolve_right c))
   ·rw [if_neg c, if_neg c'] at e
    exact J.inj Q ((mm Q hQ).resolve_right c) Q' ((mm Q' hQ').resolve_right c') e
 ·have h1 : Q ∉ ks := fun z => hQ (List.mem_append_left _ z)
  have h2 : ¬ Q = P := fun z => hQ (by simp [z])
  unfold Zcf
  rw [if_neg h2]
  exact J.out Q h1
def TiR (H : Hp) (q d : Addr) (es : Es) (i : Nat) : L2.St → Hp → Prop := fun σ H2 => (∃ z2 z3 : Option V, σ = [some (.ref q), some (.ref d), z2, z3]) ∧ ∃ ks adr r, TJ H H2 d ks adr r ∧ Pts (es.take i) ks ∧ (∀ P y, y ∈ r P ↔ Adj (es.take i) P y) ∧ ∀ P, (r P).length ≤ 2 * i
section
variable {P : Program} {w : World} {K : PySem.W.Frag} {mg : Str → Option Value} {base : Heap}
abbrev Y9 : Stmt := top 9
abbrev ZbX : List Str := ["H", "tied", "piece", "many"]
theorem scTiedPoints : Zt ZbX ["H"] (Zk Y9) := ⟨rfl, rfl, rfl, by decide +kernel, rfl, by decide +kernel, by decide +kernel⟩
def Zgy : Sp := fun vs H Q _ => ∃ (v : V) (es : Es), vs = [v] ∧ HeapV H v es ∧ Zdo es ∧ ∀ d H' ks adr r, TJ H H' d ks adr r → Pts es ks → (∀ P y, y ∈ r P ↔ Adj es P y) → (∀ P, (r P).length ≤ 602) → Q (.ref d) H'
theorem JD (D : HasDef K mg "tied_points" Y9 ["H"]) (g12_ : FOk P w K mg base 1 "begin_of" ["piece"] ZbG) (g14_ : FOk P w K mg base 1 "end_of" ["piece"] ZdL) : FOk P w K mg base 2 "tied_points" ["H"] Zgy := by
 refine D.ok scTiedPoints (fun vs H Q E h => ?_) (fun f cdv A outer s H vs Q E hr h => ?_)
 ·obtain ⟨v, es, rfl, _⟩ := h
  rfl
 ·obtain ⟨v, es, rfl, ⟨q, vs, rfl, hq, hpa⟩, hF, k⟩ := h
  refine ⟨_, (Zc (Zm (i := 1) scTiedPoints.nd rfl (.inl rfl) YZ)
   (Zc (Yo PassesOwn.never rfl (YH (pv 0)) (Ye 2 K rfl (Zw (ZL (i := 2) scTiedPoints.nd rfl (.inl rfl)) (Zw (ZL (i := 3) scTiedPoints.nd rfl (.inl rfl)) Yd)))
    (Zc (YA (JC F.plainAttrs_list F.slot_list_append F.type_list_append Z9 (ZbN (pv 1) (ZA g12_ hr (Za (pv 2) Zf)) (ZU Zf) ⟨rfl, rfl, rfl, rfl⟩) (Za (ZA g14_ hr (Za (pv 2) Zf)) Zf)))
   (Zh (YA (JC F.plainAttrs_list F.slot_list_append F.type_list_append Z9 (ZbN (pv 1) (ZA g14_ hr (Za (pv 2) Zf)) (ZU Zf) ⟨rfl, rfl, rfl, rfl⟩) (Za (ZA g12_ hr (Za (pv 2) Zf)) Zf))))))
   (Zh (Zq (pv 1))))), ?_⟩
  intro d hd
  have s1 := Zb (o := .dK []) hd
  refine ⟨_, rfl, q, rfl, ⟨_, SqT.of (s1 _ _ hq)⟩, ?_⟩
  refine XD (K := K) (a := q) (xs := vs) (fun i σ H2 => (∃ z2 z3 : Option V, σ = [some (.ref q), some (.ref d), z2, z3]) ∧ ∃ ks adr r, TJ H H2 d ks adr r ∧ Pts (es.take i) ks ∧ (∀ P y, y ∈ r P ↔ Adj (es.take i) P y) ∧ ∀ P, (r P).length ≤ 2 * i)
   ⟨⟨none, none, rfl⟩, [], fun _ => d, fun _ => [], ⟨s1, hd, Zd, List.nodup_nil, (fun P h => by cases h), (fun P h => by cases h), (fun P h => by cases h), fun _ _ => rfl⟩, Pts.nil, (fun P y => by simp [Adj]), fun P => Nat.le_refl _⟩ (fun i σ H2 _ ⟨_, _, _, _, J, _⟩ => SqT.of (J.sm _ _ hq)) ?_ ?_
  ·rintro i x σ H2 hi ⟨⟨z2, z3, rfl⟩, ks, adr, r, J, hk, hadj, hlen⟩
   have hiv : i < vs.length := (List.getElem?_eq_some_iff.mp hi).1
   have hie : i < es.length := by rw [← hpa.1]; exact hiv
   obtain ⟨b, e1, e2⟩ := hpa.2 i es[i] (List.getElem?_eq_getElem hie)
   rw [hi] at e1
   cases e1
   obtain ⟨l1, l2⟩ := hF.long es[i] (List.getElem_mem hie)
   have hkl := hk.len
   have hfew := hF.few
   rw [List.length_take] at hkl
   refine ⟨b, _, rfl, SqT.of (J.sm _ _ e2), rfl, _, _, rfl, _, _, rfl, rfl, ?_⟩
   have het : es.take (i + 1) = es.take i ++ [es[i]] := List.take_succ_eq_append_getElem hie
   generalize es[i] = e at *
   have one : ∀ (H3 : Hp) (ks3 : List Str) (adr3 : Str → Addr) (r3 : Str → List Str) (P y : Str) (R : L2.St → Hp → Prop) (σ3 : L2.St), TJ H H3 d ks3 adr3 r3 → ks3.length ≤ 700 → (∀ x, (r3 x).length ≤ 700) → (∀ H4 adr4, TJ H H4 d (ZV ks3 P) adr4 (Zcf r3 P y) → R σ3 H4) → ∀ p, H3 p = none →
     (∀ v, Y5 (rD ks3 adr3) (Sum.inr P : Key) = some v → ∃ l xs, v = .ref l ∧ (upd H3 p (.lst [])) l = some (.lst xs) ∧ xs.length < sizeLine ∧ R σ3 (upd (upd H3 p (.lst [])) l (.lst (xs ++ [.str y])))) ∧
     (Y5 (rD ks3 adr3) (Sum.inr P : Key) = none → ∃ xs, (upd (upd H3 p (.lst [])) d (.dK (Xz (rD ks3 adr3) (Sum.inr P) (.ref p)))) p = some (.lst xs) ∧ xs.length < sizeLine ∧ R σ3 (upd (upd (upd H3 p (.lst [])) d (.dK (Xz (rD ks3 adr3) (Sum.inr P) (.ref p)))) p (.lst (xs ++ [.str y])))) := by
    intro H3 ks3 adr3 r3 P y R σ3 J3 hks hr3 hR p hp
    constructor
    ·intro v hv
     rw [XH] at hv
     by_cases c : P ∈ ks3
     ·rw [if_pos c] at hv
      cases hv
      refine ⟨adr3 P, (r3 P).map V.str, rfl, Zb hp _ _ (J3.row P c), ?_, hR _ _ (J3.old c hp)⟩
      rw [List.length_map]
      have := hr3 P
      exact Zr (by omega)
     ·rw [if_neg c] at hv
      cases hv
    ·intro hv
     rw [XH] at hv
     by_cases c : P ∈ ks3
     ·rw [if_pos c] at hv
      cases hv
     ·have hpd : p ≠ d := fun e => by rw [e, J3.dd] at hp; cases hp
      refine ⟨[], by rw [Zg hpd, Zd], Zr (by decide), ?_⟩
      rw [ZgF c]
      exact hR _ _ (J3.new c hp)
   have hkz : ks.length ≤ 700 := by omega
   have hrz : ∀ x, (r x).length ≤ 700 := fun x => by have := hlen x; omega
   show Zhb _ _ _ _ _
   refine ZZ (fun σ H' => σ = [some (.ref q), some (.ref d), some (.str e.1), some (.int e.2)] ∧ ∃ adr', TJ H H' d (ZV ks (bg e.1)) adr' (Zcf r (bg e.1) (en e.1))) (fun R hR => ?_) ?_
   ·refine ⟨_, rfl, d, rfl, .inl ⟨_, .inl J.dd⟩, _, rfl, e.1, rfl, l1, l2, Zl (show 0 ≤ 1000 by decide), fun p hp => ?_⟩
    refine ⟨_, Sum.inr (bg e.1), Zb hp _ _ J.dd, rfl, by rw [Zd6]; exact Zr (by omega), fun v hv => ?_, fun hv => ?_⟩
    ·obtain ⟨l, xs, rfl, hl, hz, hr'⟩ := (one H2 ks adr r (bg e.1) (en e.1) R [some (.ref q), some (.ref d), some (.str e.1), some (.int e.2)] J hkz hrz (fun H4 adr4 J4 => hR _ _ ⟨rfl, adr4, J4⟩) p hp).1 v hv
     exact ⟨.inl ⟨rfl, _, SqL.of hl⟩, _, rfl, e.1, rfl, l1, l2, l, xs, .str (en e.1), rfl, rfl, hl, hz, hr'⟩
    ·obtain ⟨xs, hl, hz, hr'⟩ := (one H2 ks adr r (bg e.1) (en e.1) R [some (.ref q), some (.ref d), some (.str e.1), some (.int e.2)] J hkz hrz (fun H4 adr4 J4 => hR _ _ ⟨rfl, adr4, J4⟩) p hp).2 hv
     exact ⟨.inl ⟨rfl, _, SqL.of hl⟩, _, rfl, e.1, rfl, l1, l2, p, xs, .str (en e.1), rfl, rfl, hl, hz, hr'⟩
   rintro σ H3 ⟨rfl, adr3, J3⟩
   have hal := Yk ks (bg e.1)
   have hrz3 : ∀ x, (Zcf r (bg e.1) (en e.1) x).length ≤ 700 := fun x => by have := ZaR (P := bg e.1) (y := en e.1) hlen x; omega
   have fin : ∀ H4 adr4, TJ H H4 d (ZV (ZV ks (bg e.1)) (en e.1)) adr4 (Zcf (Zcf r (bg e.1) (en e.1)) (en e.1) (bg e.1)) → TiR H q d es (i + 1) [some (.ref q), some (.ref d), some (.str e.1), some (.int e.2)] H4 := fun H4 adr4 J4 => by
    refine ⟨⟨_, _, rfl⟩, _, adr4, _, J4, by rw [het]; exact hk.step e, fun P y => ?_, fun P => ?_⟩
    ·rw [ZcS, ZcS, hadj, het, Zgt]
     constructor
     ·rintro ((z | ⟨z1, z2⟩) | ⟨z1, z2⟩)
      ·exact .inl z
      ·exact .inr (.inl ⟨z1.symm, z2.symm⟩)
      ·exact .inr (.inr ⟨z1.symm, z2.symm⟩)
     ·rintro (z | ⟨z1, z2⟩ | ⟨z1, z2⟩)
      ·exact .inl (.inl z)
      ·exact .inl (.inr ⟨z1.symm, z2.symm⟩)
      ·exact .inr ⟨z1.symm, z2.symm⟩
    ·have := ZaR (P := en e.1) (y := bg e.1) (fun x => ZaR (P := bg e.1) (y := en e.1) hlen x) P
     omega
   refine ⟨_, rfl, d, rfl, .inl ⟨_, .inl J3.dd⟩, _, rfl, e.1, rfl, l1, l2, Zl (show 0 ≤ 1000 by decide), fun p hp => ?_⟩
   refine ⟨_, Sum.inr (en e.1), Zb hp _ _ J3.dd, rfl, by rw [Zd6]; exact Zr (by omega), fun v hv => ?_, fun hv => ?_⟩
   ·obtain ⟨l, xs, rfl, hl, hz, hr'⟩ := (one H3 _ adr3 _ (en e.1) (bg e.1) (TiR H q d es (i + 1)) [some (.ref q), some (.ref d), some (.str e.1), some (.int e.2)] J3 (by omega) hrz3 fin p hp).1 v hv
    exact ⟨.inl ⟨rfl, _, SqL.of hl⟩, _, rfl, e.1, rfl, l1, l2, l, xs, .str (bg e.1), rfl, rfl, hl, hz, hr'⟩
   ·obtain ⟨xs, hl, hz, hr'⟩ := (one H3 _ adr3 _ (en e.1) (bg e.1) (TiR H q d es (i + 1)) [some (.ref q), some (.ref d), some (.str e.1), some (.int e.2)] J3 (by omega) hrz3 fin p hp).2 hv
    exact ⟨.inl ⟨rfl, _, SqL.of hl⟩, _, rfl, e.1, rfl, l1, l2, p, xs, .str (bg e.1), rfl, rfl, hl, hz, hr'⟩
  ·rintro σ H2 ⟨⟨z2, z3, rfl⟩, ks, adr, r, J, hk, hadj, hlen⟩
   rw [hpa.1, List.take_length] at hk hadj
   have := hF.few
   exact ⟨_, rfl, k d H2 ks adr r J hk hadj fun P => by have := hlen P; rw [hpa.1] at this; omega⟩
end
def bD (ks : List Str) : List (Key × V) := ks.map fun x => ((Sum.inr x : Key), V.bl true)
theorem Jy (ks : List Str) : (bD ks).length = ks.length := by unfold bD; rw [List.length_map]
theorem ZcQ (ks : List Str) (y : Str) : Y5 (bD ks) (Sum.inr y) = if y ∈ ks then some (.bl true) else none := XY (fun _ => V.bl true) y ks
theorem ZbB (ks : List Str) (y : Str) : Xz (bD ks) (Sum.inr y) (.bl true) = bD (ZV ks y) := by
 unfold ZV
 by_cases m : y ∈ ks
 ·rw [if_pos m]
  unfold bD
  rw [JN _ _ _ _ m]
  refine List.map_congr_left fun x _ => ?_
  simp
 ·rw [if_neg m, Zas _ (by rw [ZcQ, if_neg m])]
  unfold bD
  rw [List.map_append, List.map_singleton]
theorem ZcB {ss : List Str} (nd : ss.Nodup) (h : (ss.map fun x => x.cps.toList).Pairwise (· ≤ ·)) : (ss.map fun x => x.cps.toList).Pairwise (· < ·) := by
 rw [List.pairwise_map] at h ⊢
 have := List.Pairwise.and nd h
 refine this.imp fun {a b} q => ?_
 refine Tim.lt_ne (fun z => ?_) (Ne.symm q.1)
 exact absurd z (List.not_lt.mpr q.2)
structure Wk (es : Es) (a : Str) (ks F W : List Str) : Prop where
 nd : F.Nodup
 fst : a ∈ F
 rch : ∀ x ∈ F, Rch es a x
 sub : ∀ x ∈ W, x ∈ F
 inn : ∀ x ∈ F, x ∈ ks
theorem Wk.le {es : Es} {a : Str} {ks F W : List Str} (h : Wk es a ks F W) : F.length ≤ ks.length := by
 have h1 := h.nd
 have h2 := h.inn
 clear h
 induction F generalizing ks with
 | nil => exact Nat.zero_le _
 | cons x F ih =>
  have nd' := List.nodup_cons.mp h1
  have hx := h2 x (List.mem_cons_self ..)
  have p := List.perm_cons_erase hx
  have := ih (ks := ks.erase x) nd'.2 fun y hy => (List.mem_erase_of_ne (fun (q : y = x) => nd'.1 (q ▸ hy))).mpr (h2 y (List.mem_cons_of_mem _ hy))
  rw [List.length_erase_of_mem hx] at this
  have hpos : 0 < ks.length := List.length_pos_of_mem hx
  rw [List.length_cons]
  omega
section
variable {P : Program} {w : World} {K : PySem.W.Frag} {mg : Str → Option Value} {base : Heap}
abbrev ZbJ : Stmt := top 10
abbrev ZhE : List Str := ["H", "tied", "first", "found", "waiting", "here", "point"]
theorem scPartOf : Zt ZhE ["H"] (Zk ZbJ) := ⟨rfl, rfl, rfl, by decide +kernel, rfl, by decide +kernel, by decide +kernel⟩
def ZdG : Sp := fun vs H Q _ => ∃ (v : V) (e : Str × Int) (es : Es), vs = [v] ∧ HeapV H v (e :: es) ∧ Zdo (e :: es) ∧ ∀ v' H' ss, Same H H' → TupS H' v' ss → (ss.map fun x => x.cps.toList).Pairwise (· < ·) → ss.length ≤ 602 → (∀ x, x ∈ ss ↔ Rch (e :: es) (bg e.1) x) → Q v' H'
theorem Zc8 (D : HasDef K mg "part_of" ZbJ ["H"]) (B : Blt mg) (g12_ : FOk P w K mg base 2 "begin_of" ["piece"] ZbG) (g24_ : FOk P w K mg base 2 "tied_points" ["H"] Zgy) : FOk P w K mg base 3 "part_of" ["H"] ZdG := by
 refine D.ok scPartOf (fun vs H Q E h => ?_) (fun f cdv A outer s H vs Q E hr h => ?_)
 ·obtain ⟨v, e, es, rfl, _⟩ := h
  rfl
 ·obtain ⟨v, e, es0, rfl, hV, hF, k⟩ := h
  have hu := ZaE hr
  obtain ⟨q, vs, rfl, hq, hpa⟩ := id hV
  refine ⟨_, (Zc (Zm (i := 1) scPartOf.nd rfl (.inl rfl) (ZA g24_ hr (Za (pv 0) Zf)))
   (Zc (Zm (i := 2) scPartOf.nd rfl (.inl rfl) (ZA g12_ hr (Za (ZF ix_tup (ZF ix_tup (pv 0) Ze (fun _ _ => rfl)) Ze (fun _ _ => rfl)) Zf)))
   (Zc (Zm (i := 3) scPartOf.nd rfl (.inl rfl) (Zeg (Zct (pv 2) Xk Zd9) rfl rfl (List.cons_ne_nil _ _) (by decide)))
   (Zc (Zm (i := 4) scPartOf.nd rfl (.inl rfl) (ZU (Za (pv 2) Zf)))
   (Zc (XS PassesOwn.never (Zs Jh (Zi Zo rfl B.len ZR (Za (pv 4) Zf)) Ze (Zx _))
    (Zc (Zm (i := 5) scPartOf.nd rfl (.inl rfl) (Ym F.plainAttrs_list F.slot_list_pop F.type_list_pop Z0 (pv 4)))
   (Zh (Yo PassesOwn.never rfl (Zed (Zav hu (pv 1) (pv 5) (fun _ _ => rfl))) (ZL (i := 6) scPartOf.nd rfl (.inl rfl))
    (Zh (Z2 (Zd8 (Zeh hu (pv 6) (pv 3))) (Zc (Ys hu (pv 3) (pv 6) Xk rfl)
   (Zh (YA (JC F.plainAttrs_list F.slot_list_append F.type_list_append Z9 (pv 4) (Za (pv 6) Zf))))) Zy))))))
   (Zh (Zq (ZO ZE rfl B.tuple Yf (Za (Zi (YE rfl) rfl B.sorted Yj (Za (pv 3) Zf)) Zf))))))))), ?_⟩
  obtain ⟨b0, eb0, hb0⟩ := hpa.2 0 e rfl
  obtain ⟨l1, l2⟩ := hF.long e (List.mem_cons_self ..)
  refine ⟨_, rfl, .ref q, e :: es0, rfl, hV, hF, fun d H1 ks adr r J hk hadj hlen => ?_⟩
  have hf1 := hk.len
  have hf2 := hF.few
  have haK : bg e.1 ∈ ks := (hk.mem _).mpr ⟨e, List.mem_cons_self .., .inl rfl⟩
  generalize hes : e :: es0 = es at *
  refine ⟨_, rfl, q, vs, 0, .ref b0, rfl, rfl, SqT.of (J.sm _ _ hq), YR (by decide) eb0, b0, _, 0, .str e.1, rfl, rfl, SqT.of (J.sm _ _ hb0), rfl, e.1, rfl, l1, l2, fun fd hfd => ?_⟩
  refine ⟨_, rfl, Zd, [((Sum.inr (bg e.1) : Key), V.bl true)], rfl, by simp, ?_⟩
  rw [Xu]
  have s2 : Same H1 (upd H1 fd (.dK (YQ [] [((Sum.inr (bg e.1) : Key), V.bl true)]))) := Zb hfd
  have hfd2 : (upd H1 fd (.dK (YQ [] [((Sum.inr (bg e.1) : Key), V.bl true)]))) fd = some (.dK (bD [bg e.1])) := Zd
  generalize upd H1 fd (.dK (YQ [] [((Sum.inr (bg e.1) : Key), V.bl true)])) = H2 at s2 hfd2
  refine ⟨_, rfl, Zl (show 1 ≤ 1000 by decide), fun wl hwl => ?_⟩
  have hwl1 : H1 wl = none := s2.free hwl
  have hne : wl ≠ fd := fun z => by rw [z, hfd2] at hwl; cases hwl
  have s3 := s2.trans (Zb (o := .lst [.str (bg e.1)]) hwl)
  have hfd3 := Zb (o := .lst [.str (bg e.1)]) hwl _ _ hfd2
  have hwl3 : (upd H2 wl (.lst [.str (bg e.1)])) wl = some (.lst ([bg e.1].map V.str)) := Zd
  generalize upd H2 wl (.lst [.str (bg e.1)]) = H3 at s3 hfd3 hwl3
  have shift : ∀ {H4 : Hp} (F W : List Str), Same H1 H4 → Same H1 (upd (upd H4 fd (.dK (bD F))) wl (.lst (W.map V.str))) := fun F W s b u hb => by
   rw [Zg (Zj hb hwl1), Zg (Zj hb hfd)]
   exact s b u hb
  have shW : ∀ {H4 : Hp} (o : HO), Same H1 H4 → Same H1 (upd H4 wl o) := fun o s b u hb => by
   rw [Zg (Zj hb hwl1)]
   exact s b u hb
  have shF : ∀ {H4 : Hp} (o : HO), Same H1 H4 → Same H1 (upd H4 fd o) := fun o s b u hb => by
   rw [Zg (Zj hb hfd)]
   exact s b u hb
  try dsimp only [JH]
  show Zhb (ZaV _ _) _ _ _ _
  refine ZZ (fun σ H4 => ∃ (F : List Str) (z5 z6 : Option V), σ = [some (.ref q), some (.ref d), some (.str (bg e.1)), some (.ref fd), some (.ref wl), z5, z6] ∧ Same H1 H4 ∧ H4 fd = some (.dK (bD F)) ∧ Wk es (bg e.1) ks F [] ∧ ∀ x ∈ F, ∀ y, Adj es x y → y ∈ F) (fun R hR => ?_) ?_
  ·refine ⟨fun m σ H4 => ∃ (F W : List Str) (z5 z6 : Option V), σ = [some (.ref q), some (.ref d), some (.str (bg e.1)), some (.ref fd), some (.ref wl), z5, z6] ∧ Same H1 H4 ∧ H4 fd = some (.dK (bD F)) ∧ H4 wl = some (.lst (W.map V.str)) ∧ Wk es (bg e.1) ks F W ∧ (∀ x ∈ F, x ∉ W → ∀ y, Adj es x y → y ∈ F) ∧ m = 2 * (ks.length - F.length) + W.length ∧ m ≤ 2 * ks.length,
    ⟨_, [bg e.1], [bg e.1], none, none, rfl, s3, hfd3, hwl3, ⟨by simp, by simp, (fun x hx => by rw [List.mem_singleton.mp hx]; exact .here), fun x hx => hx, fun x hx => by rw [List.mem_singleton.mp hx]; exact haK⟩, (fun x hx hw => absurd hx hw), rfl, by have := List.length_pos_of_mem haK; simp only [List.length_singleton]; omega⟩, ?_⟩
   rintro m σ H4 ⟨F, W, z5, z6, rfl, s4, hfd4, hwl4, hW, hcl, hm, hw5⟩
   refine ⟨_, rfl, .ref wl, _, rfl, .inl ⟨_, SqL.of hwl4, rfl⟩, _, _, rfl, rfl, _, rfl, ?_⟩
   rcases List.eq_nil_or_concat W with rfl | ⟨r0, here, rfl⟩
   ·exact Yl (by decide) (hR _ _ ⟨F, z5, z6, rfl, s4, hfd4, hW, fun x hx => hcl x hx (fun z => by cases z)⟩)
   rw [List.concat_eq_append] at *
   refine Yx (decide_eq_true (by rw [List.map_append, List.length_append, List.map_singleton, List.length_singleton]; omega)) ?_
   have hhF : here ∈ F := hW.sub here (by simp)
   have hhK := hW.inn here hhF
   rw [List.length_append, List.length_singleton] at hm
   refine ⟨fun σ' H' => ∃ m', m' < m ∧ ∃ (F W : List Str) (z5 z6 : Option V), σ' = [some (.ref q), some (.ref d), some (.str (bg e.1)), some (.ref fd), some (.ref wl), z5, z6] ∧ Same H1 H' ∧ H' fd = some (.dK (bD F)) ∧ H' wl = some (.lst (W.map V.str)) ∧ Wk es (bg e.1) ks F W ∧ (∀ x ∈ F, x ∉ W → ∀ y, Adj es x y → y ∈ F) ∧ m' = 2 * (ks.length - F.length) + W.length ∧ m' ≤ 2 * ks.length, fun _ _ z => z, ?_⟩
   refine ⟨_, rfl, .inl ⟨rfl, _, SqL.of hwl4⟩, wl, _, V.str here, rfl, rfl, hwl4, by rw [List.map_append, List.map_singleton]; simp, ?_⟩
   rw [show ((r0 ++ [here]).map V.str).dropLast = r0.map V.str by rw [List.map_append, List.map_singleton, List.dropLast_concat]]
   have s5 : Same H1 (upd H4 wl (.lst (r0.map V.str))) := shW _ s4
   have hwl5 : (upd H4 wl (.lst (r0.map V.str))) wl = some (.lst (r0.map V.str)) := Zd
   have hfd5 : (upd H4 wl (.lst (r0.map V.str))) fd = some (.dK (bD F)) := by rw [Zg (Ne.symm hne)]; exact hfd4
   generalize upd H4 wl (.lst (r0.map V.str)) = H5 at s5 hwl5 hfd5
   refine ⟨_, rfl, _, rfl, d, .ref (adr here), rfl, .inl ⟨_, Sum.inr here, .inl (s5 _ _ J.dd), rfl, by rw [XH, if_pos hhK]⟩, adr here, rfl, ⟨_, SqL.of (s5 _ _ (J.row here hhK))⟩, ?_⟩
   refine Zgh (K := K) (a := adr here) (xs := (r here).map V.str) (fun j σ' H' => ∃ (F W : List Str) (z6 : Option V), σ' = [some (.ref q), some (.ref d), some (.str (bg e.1)), some (.ref fd), some (.ref wl), some (.str here), z6] ∧ Same H1 H' ∧ H' fd = some (.dK (bD F)) ∧ H' wl = some (.lst (W.map V.str)) ∧ Wk es (bg e.1) ks F W ∧ (∀ x ∈ F, x ∉ W → x ≠ here → ∀ y, Adj es x y → y ∈ F) ∧ (∀ y ∈ (r here).take j, y ∈ F) ∧ 2 * (ks.length - F.length) + W.length + 1 ≤ m)
    ⟨F, r0, z6, rfl, s5, hfd5, hwl5, ⟨hW.nd, hW.fst, hW.rch, fun x hx => hW.sub x (List.mem_append_left _ hx), hW.inn⟩, fun x hx h1 h2 => hcl x hx (fun z => by rcases List.mem_append.mp z with z | z; exact h1 z; exact h2 (List.mem_singleton.mp z)), (fun y hy => by rw [List.take_zero] at hy; cases hy), by omega⟩
    (fun i σ' H' _ ⟨_, _, _, _, s6, _⟩ => SqL.of (s6 _ _ (J.row here hhK))) ?_ ?_
   ·rintro j x σ' H6 hj ⟨F6, W6, z6', rfl, s6, hfd6, hwl6, hW6, hcl6, hin6, hm6⟩
    rw [List.getElem?_map] at hj
    obtain ⟨y, hy, rfl⟩ := Option.map_eq_some_iff.mp hj
    have hya : Adj es here y := (hadj here y).mp (List.mem_of_getElem? hy)
    have hyK : y ∈ ks := by
     obtain ⟨e', he', q'⟩ := hya
     rcases q' with ⟨_, q'⟩ | ⟨_, q'⟩
     ·exact (hk.mem y).mpr ⟨e', he', .inr q'⟩
     ·exact (hk.mem y).mpr ⟨e', he', .inl q'⟩
    have htk : (r here).take (j + 1) = (r here).take j ++ [y] := by
     rw [List.take_add_one, hy]
     rfl
    have hle6 := hW6.le
    refine ⟨_, rfl, _, rfl, fd, Y5 (bD F6) (Sum.inr y), rfl, .inl ⟨_, Sum.inr y, .inl hfd6, rfl, rfl⟩, ?_⟩
    rw [ZcQ]
    by_cases c : y ∈ F6
    ·rw [if_pos c]
     refine ⟨_, rfl, Yl rfl ⟨F6, W6, _, rfl, s6, hfd6, hwl6, hW6, hcl6, fun y' hy' => ?_, hm6⟩⟩
     rw [htk] at hy'
     rcases List.mem_append.mp hy' with z | z
     ·exact hin6 y' z
     ·rw [List.mem_singleton.mp z]
      exact c
    ·rw [if_neg c]
     have hW7 : Wk es (bg e.1) ks (F6 ++ [y]) (W6 ++ [y]) := ⟨List.nodup_append.mpr ⟨hW6.nd, by simp, fun a ha b hb e => by rw [List.mem_singleton.mp hb] at e; subst e; exact c ha⟩, List.mem_append_left _ hW6.fst, (fun x hx => by
       rcases List.mem_append.mp hx with z | z
       ·exact hW6.rch x z
       ·rw [List.mem_singleton.mp z]; exact .step (hW.rch here hhF) hya), (fun x hx => by
       rcases List.mem_append.mp hx with z | z
       ·exact List.mem_append_left _ (hW6.sub x z)
       ·rw [List.mem_singleton.mp z]; simp), fun x hx => by
       rcases List.mem_append.mp hx with z | z
       ·exact hW6.inn x z
       ·rw [List.mem_singleton.mp z]; exact hyK⟩
     have hlt : F6.length + 1 ≤ ks.length := by
      have := hW7.le
      rw [List.length_append, List.length_singleton] at this
      exact this
     refine ⟨_, rfl, Yx rfl ⟨_, rfl, _, rfl, fd, _, rfl, DPut.k (k := Sum.inr y) hfd6 (by rw [Jy]; exact Zr (by omega)), ?_⟩⟩
     rw [ZbB, show ZV F6 y = F6 ++ [y] by unfold ZV; rw [if_neg c]]
     have s7 : Same H1 (upd H6 fd (.dK (bD (F6 ++ [y])))) := shF _ s6
     have hfd7 : (upd H6 fd (.dK (bD (F6 ++ [y])))) fd = some (.dK (bD (F6 ++ [y]))) := Zd
     have hwl7 : (upd H6 fd (.dK (bD (F6 ++ [y])))) wl = some (.lst (W6.map V.str)) := by rw [Zg hne]; exact hwl6
     generalize upd H6 fd (.dK (bD (F6 ++ [y]))) = H7 at s7 hfd7 hwl7
     refine ⟨_, rfl, .inl ⟨rfl, _, SqL.of hwl7⟩, _, rfl, wl, _, .str y, rfl, rfl, hwl7, by rw [List.length_map]; exact ZdM (by omega), ?_⟩
     refine ⟨F6 ++ [y], W6 ++ [y], _, rfl, shW _ s7, by rw [Zg (Ne.symm hne)]; exact hfd7, by rw [Zd, List.map_append, List.map_singleton], hW7, fun x hx hxw hxh y' hy' => ?_, fun y' hy' => ?_, by rw [List.length_append, List.length_append, List.length_singleton]; omega⟩
     ·rcases List.mem_append.mp hx with z | z
      ·exact List.mem_append_left _ (hcl6 x z (fun q => hxw (List.mem_append_left _ q)) hxh y' hy')
      ·exact absurd (List.mem_append_right _ z) hxw
     ·rw [htk] at hy'
      rcases List.mem_append.mp hy' with z | z
      ·exact List.mem_append_left _ (hin6 y' z)
      ·exact List.mem_append_right _ z
   ·rintro σ' H6 ⟨F6, W6, z6', rfl, s6, hfd6, hwl6, hW6, hcl6, hin6, hm6⟩
    rw [List.length_map, List.take_length] at hin6
    refine ⟨_, ?_, F6, W6, _, _, rfl, s6, hfd6, hwl6, hW6, fun x hx hxw y hxy => ?_, rfl, ?_⟩
    ·omega
    ·by_cases c : x = here
     ·subst c
      exact hin6 y ((hadj x y).mpr hxy)
     ·exact hcl6 x hx hxw c y hxy
    ·omega
  ·rintro σ H4 ⟨F, z5, z6, rfl, s4, hfd4, hW, hcl⟩
   have hle := hW.le
   refine ⟨_, rfl, fd, F, fun _ => .bl true, rfl, hfd4, by omega, fun p ss hp hpm hsrt => ?_⟩
   refine ⟨p, _, rfl, .inl ⟨SqL.of Zd, fun l hl => ?_⟩⟩
   refine k (.ref l) _ ss (((J.sm.trans s4).trans (Zb hp)).trans (Zb hl)) ⟨l, rfl, Zd⟩ (ZcB (hpm.nodup_iff.mpr hW.nd) hsrt) (by rw [hpm.length_eq]; omega) fun x => ?_
   rw [hpm.mem_iff]
   exact ⟨hW.rch x, fun z => Rch.closed hW.fst hcl z⟩
end
theorem ZhB {F : List Str} : ∀ {ks : List Str}, F.Nodup → (∀ x ∈ F, x ∈ ks) → F.length ≤ ks.length := by
 induction F with
 | nil => exact fun _ _ => Nat.zero_le _
 | cons x F ih =>
  intro ks h1 h2
  have nd' := List.nodup_cons.mp h1
  have hx := h2 x (List.mem_cons_self ..)
  have := ih (ks := ks.erase x) nd'.2 fun y hy => (List.mem_erase_of_ne (fun (q : y = x) => nd'.1 (q ▸ hy))).mpr (h2 y (List.mem_cons_of_mem _ hy))
  rw [List.length_erase_of_mem hx] at this
  have hpos : 0 < ks.length := List.length_pos_of_mem hx
  rw [List.length_cons]
  omega
theorem ZiN {F ks : List Str} (h1 : F.Nodup) (h2 : ∀ x ∈ F, x ∈ ks) (he : F.length = ks.length) : ∀ x ∈ ks, x ∈ F := by
 intro x hx
 apply Classical.byContradiction
 intro hn
 have := ZhB (ks := ks.erase x) h1 fun y hy => (List.mem_erase_of_ne (fun (q : y = x) => hn (q ▸ hy))).mpr (h2 y hy)
 rw [List.length_erase_of_mem hx] at this
 have hpos : 0 < ks.length := List.length_pos_of_mem hx
 omega
theorem ZfQ {ss : List Str} (h : (ss.map fun x => x.cps.toList).Pairwise (· < ·)) : ss.Nodup := by
 rw [List.pairwise_map] at h
 refine h.imp fun {a b} q e => ?_
 subst e
 exact List.lt_irrefl _ q
theorem Rch.pt {e : Str × Int} {es : Es} {x : Str} (h : Rch (e :: es) (bg e.1) x) : ∃ e' ∈ e :: es, bg e'.1 = x ∨ en e'.1 = x := by
 cases h with
 | here => exact ⟨e, by simp, .inl rfl⟩
 | step _ k =>
  obtain ⟨e', he, ⟨_, q⟩ | ⟨_, q⟩⟩ := k
  ·exact ⟨e', he, .inr q⟩
  ·exact ⟨e', he, .inl q⟩
theorem Zgc {e : Str × Int} {es : Es} {ss pp : List Str} (n1 : ss.Nodup) (h1 : ∀ x, x ∈ ss ↔ Rch (e :: es) (bg e.1) x) (n2 : pp.Nodup) (h2 : ∀ x, x ∈ pp ↔ ∃ e' ∈ e :: es, bg e'.1 = x ∨ en e'.1 = x) :
  ss.length = pp.length ↔ ∀ e' ∈ e :: es, Rch (e :: es) (bg e.1) (bg e'.1) := by
 have sub : ∀ x ∈ ss, x ∈ pp := fun x hx => (h2 x).mpr ((h1 x).mp hx).pt
 constructor
 ·intro he e' he'
  exact (h1 _).mp (ZiN n1 sub he _ ((h2 _).mpr ⟨e', he', .inl rfl⟩))
 ·intro h
  have : ∀ x ∈ pp, x ∈ ss := fun x hx => by
   obtain ⟨e', he', q | q⟩ := (h2 x).mp hx
   ·rw [← q]
    exact (h1 _).mpr (h e' he')
   ·exact (h1 _).mpr (.step (h e' he') ⟨e', he', .inl ⟨rfl, q⟩⟩)
  have a := ZhB n1 sub
  have b := ZhB n2 this
  omega
theorem Zfg (F : List Str) (x : Str) : ZV F x = F ∨ F.length < (ZV F x).length := by
 unfold ZV
 split
 ·exact .inl rfl
 ·right
  rw [List.length_append, List.length_singleton]
  omega
section
variable {P : Program} {w : World} {K : PySem.W.Frag} {mg : Str → Option Value} {base : Heap}
abbrev Zd1 : Stmt := top 11
abbrev ZiV : List Str := ["H"]
theorem Zhl : Zt ZiV ["H"] (Zk Zd1) := ⟨rfl, rfl, rfl, by decide +kernel, rfl, by decide +kernel, by decide +kernel⟩
def ZdK : Sp := fun vs H Q _ => ∃ (v : V) (e : Str × Int) (es : Es), vs = [v] ∧ HeapV H v (e :: es) ∧ Zdo (e :: es) ∧ ∀ H' (b : Bool), Same H H' → (b = true ↔ ∀ e' ∈ e :: es, Rch (e :: es) (bg e.1) (bg e'.1)) → Q (.bl b) H'
theorem ZfO (D : HasDef K mg "hangs" Zd1 ["H"]) (B : Blt mg) (g20_ : FOk P w K mg base 3 "part_of" ["H"] ZdG) (g21_ : FOk P w K mg base 3 "points_of" ["H"] Zcn) : FOk P w K mg base 4 "hangs" ["H"] ZdK := by
 refine D.ok Zhl (fun vs H Q E h => ?_) (fun f cdv A outer s H vs Q E hr h => ?_)
 ·obtain ⟨v, e, es, rfl, _⟩ := h
  rfl
 ·obtain ⟨v, e, es, rfl, hV, hF, k⟩ := h
  refine ⟨_, (Zh (Zq (YB Xc (Zi Zo rfl B.len ZR (Za (ZA g20_ hr (Za (pv 0) Zf)) Zf)) (Zi Zo rfl B.len ZR (Za (ZA g21_ hr (Za (pv 0) Zf)) Zf)) (Zx _)))), ?_⟩
  refine ⟨_, rfl, v, e, es, rfl, hV, hF, fun v1 H1 ss s1 ht1 hs1 hl1 hm1 => ?_⟩
  obtain ⟨q1, rfl, hq1⟩ := id ht1
  refine ⟨.ref q1, ss.length, rfl, .inr ⟨_, SqT.of hq1, by rw [List.length_map]⟩, _, rfl, v, e :: es, rfl, hV.same s1, hF, fun v2 H2 pp s2 ht2 hp2 => ?_⟩
  obtain ⟨q2, rfl, hq2⟩ := id ht2
  refine ⟨.ref q2, pp.length, rfl, .inr ⟨_, SqT.of hq2, by rw [List.length_map]⟩, ?_⟩
  refine ⟨rfl, k _ _ (s1.trans s2) ?_⟩
  rw [Zb8, ← Zgc (ZfQ hs1) hm1 hp2.pts.nd hp2.pts.mem, beq_iff_eq]
  exact ⟨fun z => by omega, fun z => by rw [z]⟩
end
theorem Zao {H : Hp} : ∀ ps : List Str, RepA H (ps.map PyData.str) (ps.map V.str)
 | [] => by rw [List.map_nil, RepA]; rfl
 | p :: ps => by
  rw [List.map_cons, RepA]
  exact ⟨.str p, ps.map V.str, rfl, by rw [RepD], Zao ps⟩
theorem Za4 {H : Hp} {a : Addr} {ps : List Str} (h : H a = some (.lst (ps.map V.str))) : RepD H (.list (ps.map PyData.str)) (.ref a) := by
 rw [RepD]
 exact ⟨a, _, rfl, h, Zao ps⟩
theorem XR {H : Hp} {v : V} {ps : List Str} (h : TupS H v ps) : RepD H (.tuple (ps.map PyData.str)) v := by
 obtain ⟨q, rfl, hq⟩ := h
 rw [RepD]
 exact ⟨q, _, rfl, hq, Zao ps⟩
theorem ZeX {ps : List Str} (h : ps.length ≤ 1000) : Zfk 1 (.tuple (ps.map PyData.str)) := by
 refine .tup 0 _ (fun d hd => ?_) (by rw [List.length_map]; exact h)
 obtain ⟨e, _, rfl⟩ := List.mem_map.mp hd
 exact .str 0 _
theorem Zcj {x : Str} (h : Cd x.cps.toList) : PyData.strOk x = true := by
 unfold PyData.strOk
 rw [← Array.all_toList, List.all_eq_true]
 intro c hc
 have := h c hc
 exact decide_eq_true (by omega)
theorem ZcF : ∀ ps : List Str, (∀ p ∈ ps, PyData.strOk p = true) → PyData.canLayAll0 (ps.map PyData.str) = true
 | [], _ => by simp [PyData.canLayAll0]
 | p :: ps, h => by
  rw [List.map_cons, PyData.canLayAll0, ZcF ps fun q hq => h q (List.mem_cons_of_mem _ hq)]
  simp [PyData.canLay0, h p List.mem_cons_self]
theorem JX : ∀ ps : List Str, PyData.depthAll (ps.map PyData.str) = 0
 | [] => by simp [PyData.depthAll]
 | p :: ps => by
  rw [List.map_cons, PyData.depthAll, JX ps]
  simp [PyData.depth]
theorem X7 {ps : List Str} (h : ∀ p ∈ ps, PyData.strOk p = true) : SeqAt.shaped (.list (ps.map PyData.str)) = true := by
 unfold SeqAt.shaped
 rw [Bool.and_eq_true]
 constructor
 ·rw [PyData.canLay0]
  exact ZcF ps h
 ·refine decide_eq_true ?_
  rw [PyData.depth, JX ps]
  decide
theorem Zgm (ps : List Str) : PyData.eqv (.list (ps.map PyData.str)) (.list ([].map PyData.str)) = ps.isEmpty := by
 cases ps with
 | nil => simp [PyData.eqv, PyData.eqvAll]
 | cons n r => simp [PyData.eqv, PyData.eqvAll]
theorem Zfs {vs : List V} {es : Es} {l : List Nat} (hl : vs.length = l.length) (hb : ∀ i ∈ l, i < es.length) (hR : ∀ (j i : Nat) (v : V), l[j]? = some i → vs[j]? = some v → v = .str (es.getD i ("", 0)).1) : ∃ ps : List Str, vs = ps.map V.str ∧ (∀ p ∈ ps, ∃ e ∈ es, p = e.1) ∧ ps.length = l.length := by
 refine ⟨l.map fun i => (es.getD i ("", 0)).1, List.ext_getElem? fun j => ?_, fun p hp => ?_, List.length_map ..⟩
 ·by_cases hj : j < vs.length
  ·have hj' : j < l.length := by omega
   rw [List.getElem?_eq_getElem hj, hR j l[j] vs[j] (List.getElem?_eq_getElem hj') (List.getElem?_eq_getElem hj), List.getElem?_map, List.getElem?_map, List.getElem?_eq_getElem hj']
   rfl
  ·rw [List.getElem?_eq_none (by omega), List.getElem?_eq_none (by simp only [List.length_map]; omega)]
 ·obtain ⟨i, hi, rfl⟩ := List.mem_map.mp hp
  have := hb i hi
  refine ⟨es[i], List.getElem_mem this, ?_⟩
  rw [List.getD_eq_getElem?_getD, List.getElem?_eq_getElem this]
  rfl
section
variable {P : Program} {w : World} {K : PySem.W.Frag} {mg : Str → Option Value} {base : Heap}
end
abbrev nV (i : Nat) : V := V.int (i : Int)
def Zki (H : Hp) (b : Addr) (t : Str × Str) : Prop := ∃ s : Str, H b = some (.tup [.str t.1, .str s, .str t.2])
def TyA (H : Hp) (vs : List V) (ts : Ts) : Prop := vs.length = ts.length ∧ ∀ (i : Nat) (t : Str × Str), ts[i]? = some t → ∃ b, vs[i]? = some (.ref b) ∧ Zki H b t
def TiesV (H : Hp) (v : V) (ts : Ts) : Prop := ∃ a vs, v = .ref a ∧ SeqAt' H a vs ∧ TyA H vs ts
theorem TyA.same {H H' : Hp} {vs : List V} {ts : Ts} (h : TyA H vs ts) (s : Same H H') : TyA H' vs ts := ⟨h.1, fun i t e => by
 obtain ⟨b, e1, m, e2⟩ := h.2 i t e
 exact ⟨b, e1, m, s _ _ e2⟩⟩
theorem TiesV.same {H H' : Hp} {v : V} {ts : Ts} (h : TiesV H v ts) (s : Same H H') : TiesV H' v ts := by
 obtain ⟨a, vs, e, h1, h2⟩ := h
 exact ⟨a, vs, e, h1.same s, h2.same s⟩
theorem TyA.at {H : Hp} {vs : List V} {ts : Ts} (h : TyA H vs ts) {i : Nat} (hi : i < ts.length) : ∃ b s, atI vs (i : Int) = some (.ref b) ∧ H b = some (.tup [.str (frm ts i), .str s, .str (tow ts i)]) := by
 obtain ⟨b, e1, s, e2⟩ := h.2 i ts[i] (List.getElem?_eq_getElem hi)
 refine ⟨b, s, ZcR e1, ?_⟩
 unfold frm tow
 rw [List.getD_eq_getElem?_getD, List.getElem?_eq_getElem hi]
 exact e2
theorem Zfe {xs : List V} {v : V} : atI (xs ++ [v]) (-1) = some v := by
 unfold atI ixN
 rw [if_neg (by decide), if_pos (by rw [List.length_append, List.length_singleton]; omega)]
 simp only [Option.bind_some, List.length_append, List.length_singleton]
 rw [show ((-1 : Int) + ((xs.length + 1 : Nat) : Int)).toNat = xs.length by omega]
 simp
structure NJ (H H2 : Hp) (d : Addr) (ks : List Str) (adr : Str → Addr) (r : Str → List Nat) : Prop where
 sm : Same H H2
 dn : H d = none
 dd : H2 d = some (.dK (rD ks adr))
 nd : ks.Nodup
 row : ∀ P ∈ ks, H2 (adr P) = some (.lst ((r P).map nV))
 fresh : ∀ P ∈ ks, H (adr P) = none
 inj : ∀ P ∈ ks, ∀ P' ∈ ks, adr P = adr P' → P = P'
 out : ∀ P, P ∉ ks → r P = []
def Zg2 (r : Str → List Nat) (P : Str) (y : Nat) : Str → List Nat := fun x => if x = P then r P ++ [y] else r x
theorem NJ.ne {H H2 : Hp} {d : Addr} {ks : List Str} {adr : Str → Addr} {r : Str → List Nat} (J : NJ H H2 d ks adr r) {P : Str} (hP : P ∈ ks) : adr P ≠ d := fun e => by
 have := J.row P hP
 rw [e, J.dd] at this
 cases this
theorem NJ.old {H H2 : Hp} {d p : Addr} {ks : List Str} {adr : Str → Addr} {r : Str → List Nat} (J : NJ H H2 d ks adr r) {P : Str} {y : Nat} (hP : P ∈ ks) (hp : H2 p = none) :
  NJ H (upd (upd H2 p (.lst [])) (adr P) (.lst ((r P).map nV ++ [nV y]))) d (ZV ks P) adr (Zg2 r P y) := by
 have ek : ZV ks P = ks := by unfold ZV; rw [if_pos hP]
 rw [ek]
 have s1 := Zb (o := .lst []) hp
 refine ⟨fun b u hb => ?_, J.dn, ?_, J.nd, fun Q hQ => ?_, J.fresh, J.inj, fun Q hQ => ?_⟩
 ·rw [Zg fun e => by rw [e, J.fresh P hP] at hb; cases hb]
  exact s1 _ _ (J.sm b u hb)
 ·rw [Zg (Ne.symm (J.ne hP))]
  exact s1 _ _ J.dd
 ·unfold Zg2
  by_cases c : Q = P
  ·subst c
   rw [Zd, if_pos rfl, List.map_append]
   rfl
  ·rw [if_neg c, Zg fun e => c (J.inj Q hQ P hP e)]
   exact s1 _ _ (J.row Q hQ)
 ·unfold Zg2
  rw [if_neg (fun e : Q = P => hQ (e ▸ hP))]
  exact J.out Q hQ
theorem NJ.new {H H2 : Hp} {d p : Addr} {ks : List Str} {adr : Str → Addr} {r : Str → List Nat} (J : NJ H H2 d ks adr r) {P : Str} {y : Nat} (hP : P ∉ ks) (hp : H2 p = none) :
  NJ H (upd (upd (upd H2 p (.lst [])) d (.dK (rD (ks ++ [P]) fun x => if x = P then p else adr x))) p (.lst ([] ++ [nV y]))) d (ZV ks P) (fun x => if x = P then p else adr x) (Zg2 r P y) := by
 have ek : ZV ks P = ks ++ [P] := by unfold ZV; rw [if_neg hP]
 rw [ek]
 have hpd : d ≠ p := fun e => by rw [← e, J.dd] at hp; cases hp
 have hpa : ∀ Q ∈ ks, adr Q ≠ p := fun Q hQ e => by have := J.row Q hQ; rw [e, hp] at this; cases this
 have mm : ∀ Q, Q ∈ ks ++ [P] → Q ∈ ks ∨ Q = P := fun Q h => by simpa using h
 refine ⟨fun b u hb => ?_, J.dn, ?_, ?_, fun Q hQ => ?_, fun Q hQ => ?_, fun Q hQ Q' hQ' e => ?_, fun Q hQ => ?_⟩
 ·have h2 := J.sm b u hb
  rw [Zg (Zj h2 hp), Zg (Zj hb J.dn), Zg (Zj h2 hp)]
  exact h2
 ·rw [Zg hpd, Zd]
 ·exact List.nodup_append.mpr ⟨J.nd, by simp, fun a ha b hb e => by rw [List.mem_singleton.mp hb] at e; subst e; exact hP ha⟩
 ·unfold Zg2
  by_cases c : Q = P
  ·subst c
   rw [if_pos rfl, if_pos rfl, Zd, J.out Q hP]
   rfl
  ·rw [if_neg c, if_neg c]
   have hQ' : Q ∈ ks := (mm Q hQ).resolve_right c
   rw [Zg (hpa Q hQ'), Zg (J.ne hQ'), Zg (hpa Q hQ')]
   exact J.row Q hQ'
 ·skip
  by_cases c : Q = P
  ·rw [if_pos c]
   cases hh : H p with
   | none => rfl
   | some u => have := J.sm p u hh; rw [hp] at this; cases this
  ·rw [if_neg c]
   exact J.fresh Q ((mm Q hQ).resolve_right c)
 ·skip
  by_cases c : Q = P
  ·by_cases c' : Q' = P
   ·rw [c, c']
   ·rw [if_pos c, if_neg c'] at e
    exact absurd e.symm (hpa Q' ((mm Q' hQ').resolve_right c'))
  ·by_cases c' : Q' = P
   ·rw [if_neg c, if_pos c'] at e
    exact absurd e (hpa Q ((mm Q hQ).resolve_right c))
   ·rw [if_neg c, if_neg c'] at e
    exact J.inj Q ((mm Q hQ).resolve_right c) Q' ((mm Q' hQ').resolve_right c') e
 ·have h1 : Q ∉ ks := fun z => hQ (List.mem_append_left _ z)
  have h2 : ¬ Q = P := fun z => hQ (by simp [z])
  unfold Zg2
  rw [if_neg h2]
  exact J.out Q h1
def NoR (H : Hp) (v : V) (d : Addr) (ts : Ts) (j : Nat) : L2.St → Hp → Prop := fun σ H2 => (∃ z2 : Option V, σ = [some v, some (.ref d), z2]) ∧ ∃ ks adr r, NJ H H2 d ks adr r ∧ ks.length ≤ j ∧ ∀ P, r P = ((List.range' (ts.length - j) j).filter fun i => decide (frm ts i = P)).reverse
section
variable {P : Program} {w : World} {K : PySem.W.Frag} {mg : Str → Option Value} {base : Heap}
abbrev Xa : Stmt := top 13
abbrev ZbY : List Str := ["ties", "numbers", "number"]
theorem scNumbersOut : Zt ZbY ["ties"] (Zk Xa) := ⟨rfl, rfl, rfl, by decide +kernel, rfl, by decide +kernel, by decide +kernel⟩
def Ziq : Sp := fun vs H Q _ => ∃ (v : V) (ts : Ts), vs = [v] ∧ TiesV H v ts ∧ ts.length ≤ 400 ∧ ∀ d H' ks adr, NJ H H' d ks adr (Zdp ts) → Q (.ref d) H'
theorem JE (D : HasDef K mg "numbers_out" Xa ["ties"]) (B : Blt mg) : FOk P w K mg base 1 "numbers_out" ["ties"] Ziq := by
 refine D.ok scNumbersOut (fun vs H Q E h => ?_) (fun f cdv A outer s H vs Q E hr h => ?_)
 ·obtain ⟨v, ts, rfl, _⟩ := h
  rfl
 ·obtain ⟨v, ts, rfl, hV, hlen, k⟩ := h
  obtain ⟨a, vs, rfl, hs, hty⟩ := id hV
  refine ⟨_, (Zc (Zm (i := 1) scNumbersOut.nd rfl (.inl rfl) YZ)
   (Zc (Yo PassesOwn.never rfl (Zec rfl B.range (Za (Zn XI (Zi Zo rfl B.len ZR (Za (pv 0) Zf)) Ze) (Za (Xj Yn Ze) (Za (Xj Yn Ze) Zf)))) (ZL (i := 2) scNumbersOut.nd rfl (.inl rfl))
    (Zh (YA (JC F.plainAttrs_list F.slot_list_append F.type_list_append Z9 (ZbN (pv 1) (ZF ix_tup (ZF (Jl K) (pv 0) (pv 2) (fun _ _ => rfl)) Ze (fun _ _ => rfl)) (ZU Zf) ⟨rfl, rfl, rfl, rfl⟩) (Za (pv 2) Zf)))))
   (Zh (Zq (pv 1))))), ?_⟩
  intro d hd
  have s1 := Zb (o := .dK []) hd
  have hvl := hty.1
  refine ⟨_, rfl, .ref a, _, rfl, ZeF (hs.same s1), _, _, rfl, rfl, _, rfl, _, rfl, _, _, rfl, ⟨by omega, by omega, by decide, by decide⟩, ?_⟩
  rw [show ((vs.length : Int) - 1 - (-1)).toNat = ts.length by omega]
  refine Zdg (fun j σ H2 => NoR H (.ref a) d ts j σ H2) ⟨⟨none, rfl⟩, [], fun _ => d, fun _ => [], ⟨s1, hd, Zd, List.nodup_nil, (fun P h => by cases h), (fun P h => by cases h), (fun P h => by cases h), fun _ _ => rfl⟩, Nat.le_refl _, fun P => by simp⟩ ?_ ?_
  ·rintro j σ H2 hj ⟨⟨z2, rfl⟩, ks, adr, r, J, hkl, hr2⟩
   have hi : ts.length - 1 - j < ts.length := by omega
   obtain ⟨b, sg, e1, e2⟩ := hty.at hi
   have ej : ((vs.length : Int) - 1 - (j : Int)) = ((ts.length - 1 - j : Nat) : Int) := by omega
   have hrl : ∀ P, (r P).length ≤ j := fun P => by
    rw [hr2, List.length_reverse]
    have := List.length_filter_le (fun i => decide (frm ts i = P)) (List.range' (ts.length - j) j)
    rw [List.length_range'] at this
    exact this
   have eR : List.range' (ts.length - (j + 1)) (j + 1) = (ts.length - 1 - j) :: List.range' (ts.length - j) j := by
    rw [List.range'_succ, show ts.length - (j + 1) = ts.length - 1 - j by omega, show ts.length - 1 - j + 1 = ts.length - j by omega]
   have fin : ∀ H4 adr4, NJ H H4 d (ZV ks (frm ts (ts.length - 1 - j))) adr4 (Zg2 r (frm ts (ts.length - 1 - j)) (ts.length - 1 - j)) → NoR H (.ref a) d ts (j + 1) [some (.ref a), some (.ref d), some (.int ((vs.length : Int) - 1 - (j : Int)))] H4 := fun H4 adr4 J4 => by
    refine ⟨⟨_, rfl⟩, _, adr4, _, J4, ?_, fun P => ?_⟩
    ·have := Yk ks (frm ts (ts.length - 1 - j))
     omega
    ·rw [eR, List.filter_cons]
     unfold Zg2
     by_cases c : P = frm ts (ts.length - 1 - j)
     ·rw [if_pos c, if_pos (decide_eq_true c.symm), List.reverse_cons, ← c, hr2]
     ·rw [if_neg c, if_neg (fun z => c (of_decide_eq_true z).symm), hr2]
   refine ⟨_, rfl, d, rfl, .inl ⟨_, .inl J.dd⟩, _, rfl, _, rfl, ?_⟩
   rw [ej]
   refine Za3 ((hs.same J.sm)) e1 ⟨b, _, 0, .str (frm ts (ts.length - 1 - j)), rfl, rfl, SqT.of (J.sm _ _ e2), rfl, Zl (show 0 ≤ 1000 by decide), fun p hp => ?_⟩
   rw [← ej]
   refine ⟨_, Sum.inr (frm ts (ts.length - 1 - j)), Zb hp _ _ J.dd, rfl, by rw [Zd6]; exact Zr (by omega), fun v hv => ?_, fun hv => ?_⟩
   ·rw [XH] at hv
    by_cases c : frm ts (ts.length - 1 - j) ∈ ks
    ·rw [if_pos c] at hv
     cases hv
     have hrow := Zb (o := .lst []) hp _ _ (J.row _ c)
     refine ⟨.inl ⟨rfl, _, SqL.of hrow⟩, _, rfl, adr _, _, .int ((vs.length : Int) - 1 - (j : Int)), rfl, rfl, hrow, ?_, ?_⟩
     ·rw [List.length_map]
      have := hrl (frm ts (ts.length - 1 - j))
      exact Zr (by omega)
     ·have := fin _ _ (J.old (y := ts.length - 1 - j) c hp)
      rw [ej] at this ⊢
      exact this
    ·rw [if_neg c] at hv
     cases hv
   ·rw [XH] at hv
    by_cases c : frm ts (ts.length - 1 - j) ∈ ks
    ·rw [if_pos c] at hv
     cases hv
    ·have hpd : p ≠ d := fun e => by rw [e, J.dd] at hp; cases hp
     rw [ZgF c]
     have hl : (upd (upd H2 p (.lst [])) d (.dK (rD (ks ++ [frm ts (ts.length - 1 - j)]) fun x => if x = frm ts (ts.length - 1 - j) then p else adr x))) p = some (.lst []) := by rw [Zg hpd, Zd]
     refine ⟨.inl ⟨rfl, _, SqL.of hl⟩, _, rfl, p, [], .int ((vs.length : Int) - 1 - (j : Int)), rfl, rfl, hl, Zr (by decide), ?_⟩
     have := fin _ _ (J.new (y := ts.length - 1 - j) c hp)
     rw [ej] at this ⊢
     exact this
  ·rintro σ H2 ⟨⟨z2, rfl⟩, ks, adr, r, J, hkl, hr2⟩
   have er : r = Zdp ts := funext fun P => by
    rw [hr2, Nat.sub_self]
    unfold Zdp
    rw [List.range_eq_range']
   rw [er] at J
   exact ⟨_, rfl, k d H2 ks adr J⟩
def Zjv (H : Hp) (v : V) (X : List Nat) : Prop := ∃ q, v = .ref q ∧ H q = some (.tup (X.map nV))
theorem ZgZ {ts : Ts} {u : Str} : ∀ {Y X : List Nat}, (∃ v, Ch ts u (X ++ Y) v) → ∃ v, Ch ts u X v
 | [], X, h => by rw [List.append_nil] at h; exact h
 | y :: Y, X, h => by
  rw [show X ++ y :: Y = (X ++ [y]) ++ Y by simp] at h
  obtain ⟨v, h⟩ := ZgZ (Y := Y) h
  exact ⟨_, h.pop.1⟩
theorem Ch.det {ts : Ts} {u v w : Str} {X : List Nat} (h : Ch ts u X v) (h' : Ch ts u X w) : v = w := by
 induction h with
 | nil u => cases h'; rfl
 | cons e h ih => cases h' with | cons e' h' => exact ih h'
abbrev Zd0 : Stmt := top 14
abbrev ZiU : List Str := ["ties", "begin", "numbers", "point", "number"]
theorem scIsWay : Zt ZiU ["ties", "begin", "numbers"] (Zk Zd0) := ⟨rfl, rfl, rfl, by decide +kernel, rfl, by decide +kernel, by decide +kernel⟩
def ZdJ : Sp := fun vs H Q _ => ∃ (v x : V) (b : Str) (ts : Ts) (X : List Nat), vs = [v, .str b, x] ∧ TiesV H v ts ∧ Zjv H x X ∧ (∀ i ∈ X, i < ts.length) ∧ ∀ c : Bool, (c = true ↔ X.length = ts.length ∧ ∃ f, Ch ts b X f) → Q (.bl c) H
theorem Zeq (D : HasDef K mg "is_way" Zd0 ["ties", "begin", "numbers"]) (B : Blt mg) : FOk P w K mg base 1 "is_way" ["ties", "begin", "numbers"] ZdJ := by
 refine D.ok scIsWay (fun vs H Q E h => ?_) (fun f cdv A outer s H vs Q E hr h => ?_)
 ·obtain ⟨v, x, b, ts, X, rfl, _⟩ := h
  rfl
 ·obtain ⟨v, x, b, ts, X, rfl, ⟨a, vs, rfl, hs, hty⟩, ⟨q, rfl, hq⟩, hX, k⟩ := h
  refine ⟨_, (Zc (Z2 (Zs Zej (Zi Zo rfl B.len ZR (Za (pv 2) Zf)) (Zi Zo rfl B.len ZR (Za (pv 0) Zf)) (Zx _)) (Zh (Zq Xk)) Zy)
   (Zc (Zm (i := 3) scIsWay.nd rfl (.inl rfl) (pv 1))
   (Zc (Yo PassesOwn.never rfl (YH (pv 2)) (ZL (i := 4) scIsWay.nd rfl (.inl rfl))
    (Zc (Z2 (Zs Zej (ZF ix_tup (ZF (Jl K) (pv 0) (pv 4) (fun _ _ => rfl)) Ze (fun _ _ => rfl)) (pv 3) (Zx _)) (Zh (Zq Xk)) Zy)
   (Zh (Zm (i := 3) scIsWay.nd rfl (.inl rfl) (ZF ix_tup (ZF (Jl K) (pv 0) (pv 4) (fun _ _ => rfl)) Ze (fun _ _ => rfl))))))
   (Zh (Zq Xk))))), ?_⟩
  refine ⟨_, rfl, .ref q, _, rfl, .inr ⟨_, SqT.of hq, rfl⟩, _, rfl, .ref a, _, rfl, ZeF hs, rfl, _, rfl, ?_⟩
  rw [List.length_map, hty.1]
  by_cases cl : X.length = ts.length
  ·refine Yl (by rw [Jp (by rw [cl])]; rfl) ?_
   refine ⟨_, rfl, _, rfl, q, rfl, ⟨_, SqT.of hq⟩, XD (K := K) (a := q) (xs := X.map nV) (fun i σ H2 => (∃ (pt : Str) (z : Option V), σ = [some (.ref a), some (.str b), some (.ref q), some (.str pt), z] ∧ Ch ts b (X.take i) pt) ∧ H2 = H)
    ⟨⟨b, none, rfl, .nil _⟩, rfl⟩ (fun i σ H2 _ ⟨_, e⟩ => by rw [e]; exact SqT.of hq) ?_ ?_⟩
   ·rintro i x σ H2 hi ⟨⟨pt, z, rfl, hc⟩, rfl⟩
    obtain ⟨hi', rfl⟩ := ZdB hi
    have hin := hX X[i] (List.getElem_mem hi')
    obtain ⟨b0, sg, e1, e2⟩ := hty.at hin
    have etk : X.take (i + 1) = X.take i ++ [X[i]] := List.take_succ_eq_append_getElem hi'
    refine ⟨_, rfl, _, rfl, Za3 hs e1 ⟨b0, _, 0, .str (frm ts X[i]), rfl, rfl, SqT.of e2, rfl, _, rfl, rfl, _, rfl, ?_⟩⟩
    by_cases cf : frm ts X[i] = pt
    ·refine Yl (by rw [cf]; simp) ?_
     refine ⟨_, rfl, _, rfl, Za3 hs e1 ⟨b0, _, 2, .str (tow ts X[i]), rfl, rfl, SqT.of e2, rfl, ?_⟩⟩
     exact ⟨⟨tow ts X[i], _, rfl, by rw [etk]; exact hc.snoc cf⟩, rfl⟩
    ·refine Yx (by simp [cf]) (k false ⟨fun z => (by cases z), fun z => ?_⟩)
     obtain ⟨_, f, hf⟩ := z
     have := ZgZ (ts := ts) (u := b) (X := X.take (i + 1)) (Y := X.drop (i + 1)) ⟨f, by rw [List.take_append_drop]; exact hf⟩
     obtain ⟨f', hf'⟩ := this
     rw [etk] at hf'
     exact absurd (hf'.pop.1.det hc) cf
   ·rintro σ H2 ⟨⟨pt, z, rfl, hc⟩, rfl⟩
    rw [List.length_map, List.take_length] at hc
    exact k true ⟨fun _ => ⟨cl, pt, hc⟩, fun _ => rfl⟩
  ·refine Yx (by rw [Jo (by omega)]; rfl) (k false ⟨fun z => (by cases z), fun z => absurd z.1 cl⟩)
end
structure WJ (H : Hp) (d g bk : Addr) (ks : List Str) (adr : Str → Addr) (H4 : Hp) (r : Str → List Nat) (G B : List Nat) : Prop where
 sm : Same H H4
 dd : H4 d = some (.dK (rD ks adr))
 row : ∀ P ∈ ks, H4 (adr P) = some (.lst ((r P).map nV))
 gg : H4 g = some (.lst (G.map nV))
 bb : H4 bk = some (.lst (B.map nV))
 gn : H g = none
 bn : H bk = none
 fresh : ∀ P ∈ ks, H (adr P) = none
 inj : ∀ P ∈ ks, ∀ P' ∈ ks, adr P = adr P' → P = P'
 ag : ∀ P ∈ ks, adr P ≠ g
 ab : ∀ P ∈ ks, adr P ≠ bk
 gb : g ≠ bk
 out : ∀ P, P ∉ ks → r P = []
theorem WJ.same {H H4 H5 : Hp} {d g bk : Addr} {ks : List Str} {adr : Str → Addr} {r : Str → List Nat} {G B : List Nat} (J : WJ H d g bk ks adr H4 r G B) (s : Same H4 H5) : WJ H d g bk ks adr H5 r G B where
 sm := J.sm.trans s
 dd := s _ _ J.dd
 row := fun P hP => s _ _ (J.row P hP)
 gg := s _ _ J.gg
 bb := s _ _ J.bb
 gn := J.gn
 bn := J.bn
 fresh := J.fresh
 inj := J.inj
 ag := J.ag
 ab := J.ab
 gb := J.gb
 out := J.out
theorem WJ.setRow {H H4 : Hp} {d g bk : Addr} {ks : List Str} {adr : Str → Addr} {r : Str → List Nat} {G B X : List Nat} {pt : Str} (J : WJ H d g bk ks adr H4 r G B) (hp : pt ∈ ks) : WJ H d g bk ks adr (upd H4 (adr pt) (.lst (X.map nV))) (Zfj r pt X) G B where
 sm := fun b u hb => by
  rw [Zg (Zj hb (J.fresh pt hp))]
  exact J.sm b u hb
 dd := by
  rw [Zg (ZfP J.dd (J.row pt hp) (by simp))]
  exact J.dd
 row := fun P hP => by
  unfold Zfj
  by_cases c : P = pt
  ·subst c
   rw [if_pos rfl, Zd]
  ·rw [if_neg c, Zg (fun e => c (J.inj P hP pt hp e))]
   exact J.row P hP
 gg := by
  rw [Zg (Ne.symm (J.ag pt hp))]
  exact J.gg
 bb := by
  rw [Zg (Ne.symm (J.ab pt hp))]
  exact J.bb
 gn := J.gn
 bn := J.bn
 fresh := J.fresh
 inj := J.inj
 ag := J.ag
 ab := J.ab
 gb := J.gb
 out := fun P hP => by
  unfold Zfj
  rw [if_neg (fun e : P = pt => hP (e ▸ hp))]
  exact J.out P hP
theorem WJ.setG {H H4 : Hp} {d g bk : Addr} {ks : List Str} {adr : Str → Addr} {r : Str → List Nat} {G B X : List Nat} (J : WJ H d g bk ks adr H4 r G B) : WJ H d g bk ks adr (upd H4 g (.lst (X.map nV))) r X B where
 sm := fun b u hb => by
  rw [Zg (Zj hb J.gn)]
  exact J.sm b u hb
 dd := by
  rw [Zg (ZfP J.dd J.gg (by simp))]
  exact J.dd
 row := fun P hP => by
  rw [Zg (J.ag P hP)]
  exact J.row P hP
 gg := Zd
 bb := by
  rw [Zg (Ne.symm J.gb)]
  exact J.bb
 gn := J.gn
 bn := J.bn
 fresh := J.fresh
 inj := J.inj
 ag := J.ag
 ab := J.ab
 gb := J.gb
 out := J.out
theorem WJ.setB {H H4 : Hp} {d g bk : Addr} {ks : List Str} {adr : Str → Addr} {r : Str → List Nat} {G B X : List Nat} (J : WJ H d g bk ks adr H4 r G B) : WJ H d g bk ks adr (upd H4 bk (.lst (X.map nV))) r G X where
 sm := fun b u hb => by
  rw [Zg (Zj hb J.bn)]
  exact J.sm b u hb
 dd := by
  rw [Zg (ZfP J.dd J.bb (by simp))]
  exact J.dd
 row := fun P hP => by
  rw [Zg (J.ab P hP)]
  exact J.row P hP
 gg := by
  rw [Zg J.gb]
  exact J.gg
 bb := Zd
 gn := J.gn
 bn := J.bn
 fresh := J.fresh
 inj := J.inj
 ag := J.ag
 ab := J.ab
 gb := J.gb
 out := J.out
theorem WJ.got {H H4 : Hp} {d g bk p : Addr} {ks : List Str} {adr : Str → Addr} {r : Str → List Nat} {G B : List Nat} (J : WJ H d g bk ks adr H4 r G B) (pt : Str) (hp : H4 p = none) : ∃ l, (Y5 (rD ks adr) (Sum.inr pt : Key)).getD (.ref p) = .ref l ∧ (upd H4 p (.lst [])) l = some (.lst ((r pt).map nV)) := by
 rw [XH]
 by_cases c : pt ∈ ks
 ·rw [if_pos c]
  exact ⟨_, rfl, Zb hp _ _ (J.row pt c)⟩
 ·rw [if_neg c]
  exact ⟨p, rfl, by rw [Zd, J.out pt c]; rfl⟩
section
variable {P : Program} {w : World} {K : PySem.W.Frag} {mg : Str → Option Value} {base : Heap}
abbrev ZdU : Stmt := top 15
abbrev ZiO : List Str := ["ties", "begin", "left", "gone", "backwards", "point", "numbers"]
theorem scWayOf : Zt ZiO ["ties", "begin"] (Zk ZdU) := ⟨rfl, rfl, rfl, by decide +kernel, rfl, by decide +kernel, by decide +kernel⟩
def Zip : Sp := fun vs H Q _ => ∃ (v : V) (b : Str) (ts : Ts), vs = [v, .str b] ∧ TiesV H v ts ∧ ts.length ≤ 400 ∧ (Eul ts b (wayX ts b) → ∀ x H', Same H H' → Zjv H' x (wayX ts b) → Q x H') ∧ (¬ Zg4 ts b → ∀ H', Same H H' → Q .non H')
theorem Zek (D : HasDef K mg "way_of" ZdU ["ties", "begin"]) (B : Blt mg) (g19_ : FOk P w K mg base 1 "numbers_out" ["ties"] Ziq) (g17_ : FOk P w K mg base 1 "is_way" ["ties", "begin", "numbers"] ZdJ) : FOk P w K mg base 2 "way_of" ["ties", "begin"] Zip := by
 refine D.ok scWayOf (fun vs H Q E h => ?_) (fun f cdv A outer s H vs Q E hr h => ?_)
 ·obtain ⟨v, b, ts, rfl, _⟩ := h
  rfl
 ·obtain ⟨v, b, ts, rfl, hV, hlen, k1, k2⟩ := h
  have hu := ZaE hr
  obtain ⟨a, vs, rfl, hs, hty⟩ := id hV
  refine ⟨_, (Zc (Zm (i := 2) scWayOf.nd rfl (.inl rfl) (ZA g19_ hr (Za (pv 0) Zf)))
   (Zc (Zm (i := 3) scWayOf.nd rfl (.inl rfl) (ZU Zf))
   (Zc (Zm (i := 4) scWayOf.nd rfl (.inl rfl) (ZU Zf))
   (Zc (Zm (i := 5) scWayOf.nd rfl (.inl rfl) (pv 1))
   (Zc (XS PassesOwn.never (PW.pt (Zc3 (Zs Jh (Zi Zo rfl B.len ZR (Za (Yh hu (pv 2) (pv 5) (ZU Zf) ⟨rfl, rfl, rfl, rfl⟩) Zf)) Ze (Zx _)) (Za5 (Zs Jh (Zi Zo rfl B.len ZR (Za (pv 3) Zf)) Ze (Zx _)))))
    (Zh (Z2 (Zs Jh (Zi Zo rfl B.len ZR (Za (Yh hu (pv 2) (pv 5) (ZU Zf) ⟨rfl, rfl, rfl, rfl⟩) Zf)) Ze (Zx _)) (Zc (YA (JC F.plainAttrs_list F.slot_list_append F.type_list_append Z9 (pv 3) (Za (Ym F.plainAttrs_list F.slot_list_pop F.type_list_pop Z0 (Zav hu (pv 2) (pv 5) (fun _ _ => rfl))) Zf)))
   (Zh (Zm (i := 5) scWayOf.nd rfl (.inl rfl) (ZF ix_tup (ZF (Jl K) (pv 0) (ZF ix_list (pv 3) (Xj Yn Ze) (fun _ _ => rfl)) (fun _ _ => rfl)) Ze (fun _ _ => rfl))))) (Zc (YA (JC F.plainAttrs_list F.slot_list_append F.type_list_append Z9 (pv 4) (Za (Ym F.plainAttrs_list F.slot_list_pop F.type_list_pop Z0 (pv 3)) Zf)))
   (Zh (Zm (i := 5) scWayOf.nd rfl (.inl rfl) (ZF ix_tup (ZF (Jl K) (pv 0) (ZF ix_list (pv 4) (Xj Yn Ze) (fun _ _ => rfl)) (fun _ _ => rfl)) Ze (fun _ _ => rfl))))))))
   (Zc (Zm (i := 6) scWayOf.nd rfl (.inl rfl) (ZO ZE rfl B.tuple Yf (Za (ZiA (pv 4) (Xj Yn Ze)) Zf)))
   (Zc (Z2 (YM (ZA g17_ hr (Za (pv 0) (Za (pv 1) (Za (pv 6) Zf))))) (Zh (Zq (pv 6))) Zy)
   (Zh (Zq Zef))))))))), ?_⟩
  refine ⟨_, rfl, .ref a, ts, rfl, hV, hlen, fun d H1 ks adr J => ?_⟩
  refine ⟨Zl (show 0 ≤ 1000 by decide), fun g hg => ?_⟩
  refine ⟨Zl (show 0 ≤ 1000 by decide), fun bk hbk => ?_⟩
  have hgb : g ≠ bk := fun e => by rw [← e, Zd] at hbk; cases hbk
  have hbk1 : H1 bk = none := by rw [Zg (Ne.symm hgb)] at hbk; exact hbk
  have W0 : WJ H d g bk ks adr (upd (upd H1 g (.lst [])) bk (.lst [])) (Zdp ts) [] [] := by
   have ss := (Zb (o := .lst []) hg).trans (Zb (o := .lst []) hbk)
   exact ⟨J.sm.trans ss, ss _ _ J.dd, fun P hP => ss _ _ (J.row P hP), by rw [Zg hgb, Zd]; rfl, Zd, J.sm.free hg, J.sm.free hbk1, J.fresh, J.inj, (fun P hP e => by have := J.row P hP; rw [e, hg] at this; cases this), (fun P hP e => by have := J.row P hP; rw [e, hbk1] at this; cases this), hgb, J.out⟩
  generalize upd (upd H1 g (.lst [])) bk (.lst []) = H3 at W0
  refine ⟨_, rfl, ?_⟩
  try dsimp only [JH]
  show Zhb (ZaV _ _) _ _ _ _
  refine ZZ (fun σ H4 => ∃ (pt : Str) (r : Str → List Nat) (BB : List Nat), σ = [some (.ref a), some (.str b), some (.ref d), some (.ref g), some (.ref bk), some (.str pt), none] ∧ WJ H d g bk ks adr H4 r [] BB ∧ WI ts b pt r [] BB ∧ r pt = [] ∧ BB.reverse = wayX ts b) (fun R hR => ?_) ?_
  ·refine ⟨fun m σ H4 => ∃ (pt : Str) (r : Str → List Nat) (G BB : List Nat), σ = [some (.ref a), some (.str b), some (.ref d), some (.ref g), some (.ref bk), some (.str pt), none] ∧ WJ H d g bk ks adr H4 r G BB ∧ WI ts b pt r G BB ∧ m = 2 * (ts.length - (G.length + BB.length)) + G.length ∧ wlk ts m r pt G BB = wlk ts (2 * ts.length) (Zdp ts) b [] [],
    ⟨_, b, Zdp ts, [], [], rfl, W0, WI.start (Zhn ts) (ZfG ts), rfl, by simp⟩, ?_⟩
   rintro m σ H4 ⟨pt, r, G, BB, rfl, J4, hW, hm, hw⟩
   have hl4 := hW.len
   have hrl := hW.in_len pt
   refine ⟨_, rfl, d, rfl, .inl ⟨_, .inl J4.dd⟩, _, rfl, Zl (show 0 ≤ 1000 by decide), fun p hp => ?_⟩
   have s5 := Zb (o := .lst []) hp
   obtain ⟨l, el, hl⟩ := J4.got pt hp
   have J5 := J4.same s5
   refine ⟨_, .inl ⟨_, Sum.inr pt, .inl J5.dd, rfl, rfl⟩, ?_⟩
   rw [el]
   generalize upd H4 p (.lst []) = H5 at J5 hl
   clear hp s5 el J4 H4
   refine ⟨.ref l, _, rfl, .inl ⟨_, SqL.of hl, rfl⟩, _, _, rfl, rfl, _, rfl, ?_⟩
   rw [List.length_map]
   rcases List.eq_nil_or_concat (r pt) with e0 | ⟨X, i, e0⟩
   ·refine Yl (by rw [e0]; simp) ?_
    refine ⟨_, rfl, .ref g, _, rfl, .inl ⟨_, SqL.of J5.gg, rfl⟩, _, _, rfl, rfl, _, rfl, ?_⟩
    rw [List.length_map]
    rcases List.eq_nil_or_concat G with rfl | ⟨X, i, rfl⟩
    ·refine Yl (by simp) (hR _ _ ⟨pt, r, BB, rfl, J5, hW, e0, ?_⟩)
     rw [Zfn e0] at hw
     unfold wayX
     rw [← hw]
    ·rw [List.concat_eq_append] at *
     refine Yx (by simp) ?_
     have hi : i < ts.length := hW.lt i (by simp)
     obtain ⟨b0, sg, f1, f2⟩ := hty.at hi
     rw [List.length_append, List.length_singleton] at hm hl4
     refine ⟨fun σ' H' => ∃ m', m' < m ∧ ∃ (pt : Str) (r : Str → List Nat) (G BB : List Nat), σ' = [some (.ref a), some (.str b), some (.ref d), some (.ref g), some (.ref bk), some (.str pt), none] ∧ WJ H d g bk ks adr H' r G BB ∧ WI ts b pt r G BB ∧ m' = 2 * (ts.length - (G.length + BB.length)) + G.length ∧ wlk ts m' r pt G BB = wlk ts (2 * ts.length) (Zdp ts) b [] [], fun _ _ z => z, ?_⟩
     refine ⟨_, rfl, d, rfl, .inl ⟨_, .inl J5.dd⟩, _, rfl, Zl (show 0 ≤ 1000 by decide), fun p hp => ?_⟩
     have s5 := Zb (o := .lst []) hp
     obtain ⟨l', el, hl'⟩ := J5.got pt hp
     have J6 := J5.same s5
     refine ⟨_, .inl ⟨_, Sum.inr pt, .inl J6.dd, rfl, rfl⟩, ?_⟩
     rw [el]
     generalize upd H5 p (.lst []) = H6 at J6 hl'
     refine ⟨.ref l', _, rfl, .inl ⟨_, SqL.of hl', rfl⟩, _, _, rfl, rfl, _, rfl, ?_⟩
     rw [List.length_map]
     refine Yl (by rw [e0]; simp) ?_
     refine ⟨_, rfl, .inl ⟨rfl, _, SqL.of J6.bb⟩, _, rfl, .inl ⟨rfl, _, SqL.of J6.gg⟩, g, _, nV i, rfl, rfl, J6.gg, by simp, ?_⟩
     rw [show ((X ++ [i]).map nV).dropLast = X.map nV by rw [List.map_append, List.map_singleton, List.dropLast_concat]]
     have J7 := J6.setG (X := X)
     refine ⟨bk, _, nV i, rfl, rfl, J7.bb, by rw [List.length_map]; exact Zr (by omega), ?_⟩
     rw [show BB.map nV ++ [nV i] = (BB ++ [i]).map nV by rw [List.map_append, List.map_singleton]]
     have J8 := J7.setB (X := BB ++ [i])
     refine ⟨_, rfl, _, rfl, _, rfl, bk, _, -1, nV i, rfl, rfl, SqL.of J8.bb, by rw [List.map_append, List.map_singleton]; exact Zfe, ?_⟩
     refine Za3 (hs.same J8.sm) f1 ⟨b0, _, 0, .str (frm ts i), rfl, rfl, SqT.of (J8.sm _ _ f2), rfl, ?_⟩
     refine ⟨2 * (ts.length - (X.length + (BB ++ [i]).length)) + X.length, ?_, frm ts i, r, X, BB ++ [i], rfl, J8, hW.pop e0, rfl, ?_⟩
     ·rw [List.length_append, List.length_singleton]
      omega
     ·rw [← hw, show m = 2 * (ts.length - (X.length + (BB ++ [i]).length)) + X.length + 1 by rw [List.length_append, List.length_singleton]; omega, Zfm e0]
   ·rw [List.concat_eq_append] at e0
    refine Yx (by rw [e0]; simp) ?_
    refine Yx rfl ?_
    have hik : i ∈ r pt := by rw [e0]; simp
    have hpk : pt ∈ ks := Classical.byContradiction fun c => by rw [J5.out pt c] at hik; cases hik
    have hi : i < ts.length := ((hW.row pt i).mp hik).1
    obtain ⟨b0, sg, f1, f2⟩ := hty.at hi
    have hW2 := hW.push e0
    have hl5 := hW2.len
    rw [List.length_append, List.length_singleton] at hl5
    refine ⟨fun σ' H' => ∃ m', m' < m ∧ ∃ (pt : Str) (r : Str → List Nat) (G BB : List Nat), σ' = [some (.ref a), some (.str b), some (.ref d), some (.ref g), some (.ref bk), some (.str pt), none] ∧ WJ H d g bk ks adr H' r G BB ∧ WI ts b pt r G BB ∧ m' = 2 * (ts.length - (G.length + BB.length)) + G.length ∧ wlk ts m' r pt G BB = wlk ts (2 * ts.length) (Zdp ts) b [] [], fun _ _ z => z, ?_⟩
    refine ⟨_, rfl, d, rfl, .inl ⟨_, .inl J5.dd⟩, _, rfl, Zl (show 0 ≤ 1000 by decide), fun p hp => ?_⟩
    have s5 := Zb (o := .lst []) hp
    obtain ⟨l', el, hl'⟩ := J5.got pt hp
    have J6 := J5.same s5
    refine ⟨_, .inl ⟨_, Sum.inr pt, .inl J6.dd, rfl, rfl⟩, ?_⟩
    rw [el]
    generalize upd H5 p (.lst []) = H6 at J6 hl'
    refine ⟨.ref l', _, rfl, .inl ⟨_, SqL.of hl', rfl⟩, _, _, rfl, rfl, _, rfl, ?_⟩
    rw [List.length_map]
    refine Yx (by rw [e0]; simp) ?_
    have hrow := J6.row pt hpk
    rw [e0] at hrow
    refine ⟨_, rfl, .inl ⟨rfl, _, SqL.of J6.gg⟩, _, rfl, _, rfl, d, .ref (adr pt), rfl, .inl ⟨_, Sum.inr pt, .inl J6.dd, rfl, by rw [XH, if_pos hpk]⟩, .inl ⟨rfl, _, SqL.of hrow⟩, adr pt, _, nV i, rfl, rfl, hrow, by simp, ?_⟩
    rw [show ((X ++ [i]).map nV).dropLast = X.map nV by rw [List.map_append, List.map_singleton, List.dropLast_concat]]
    have J7 := J6.setRow (X := X) hpk
    refine ⟨g, _, nV i, rfl, rfl, J7.gg, by rw [List.length_map]; exact Zr (by omega), ?_⟩
    rw [show G.map nV ++ [nV i] = (G ++ [i]).map nV by rw [List.map_append, List.map_singleton]]
    have J8 := J7.setG (X := G ++ [i])
    refine ⟨_, rfl, _, rfl, _, rfl, g, _, -1, nV i, rfl, rfl, SqL.of J8.gg, by rw [List.map_append, List.map_singleton]; exact Zfe, ?_⟩
    refine Za3 (hs.same J8.sm) f1 ⟨b0, _, 2, .str (tow ts i), rfl, rfl, SqT.of (J8.sm _ _ f2), rfl, ?_⟩
    refine ⟨2 * (ts.length - ((G ++ [i]).length + BB.length)) + (G ++ [i]).length, ?_, tow ts i, Zfj r pt X, G ++ [i], BB, rfl, J8, hW2, rfl, ?_⟩
    ·rw [List.length_append, List.length_singleton]
     omega
    ·rw [← hw, show m = 2 * (ts.length - ((G ++ [i]).length + BB.length)) + (G ++ [i]).length + 1 by rw [List.length_append, List.length_singleton]; omega, Zdq e0]
  ·rintro σ H4 ⟨pt, r, BB, rfl, J4, hW, e0, ew⟩
   refine ⟨_, rfl, _, rfl, bk, _, rfl, SqL.of J4.bb, rfl, fun p hp => ?_⟩
   refine ⟨p, _, rfl, .inl ⟨SqL.of Zd, fun l hl => ?_⟩⟩
   have s5 := (J4.sm.trans (Zb (o := .lst (BB.map nV).reverse) hp)).trans (Zb (o := .tup (BB.map nV).reverse) hl)
   have hT : Zjv (upd (upd H4 p (.lst (BB.map nV).reverse)) l (.tup (BB.map nV).reverse)) (.ref l) (wayX ts b) := ⟨l, rfl, by rw [Zd, ← ew, List.map_reverse]⟩
   refine ⟨_, rfl, _, rfl, _, rfl, .ref a, .ref l, b, ts, wayX ts b, rfl, hV.same s5, hT, fun i hi => ?_, fun c hc => ?_⟩
   ·rw [← ew, List.mem_reverse] at hi
    exact hW.lt i (by simpa using hi)
   ·refine ⟨_, rfl, ?_⟩
    cases c with
    | true =>
     obtain ⟨h1, f, h2⟩ := hc.mp rfl
     rw [← ew] at h1 h2
     rw [List.length_reverse] at h1
     have hE := hW.eul h1 h2
     rw [ew] at hE
     exact Yx rfl ⟨_, rfl, k1 hE _ _ s5 hT⟩
    | false =>
     refine Yl rfl (k2 (fun hg => ?_) _ s5)
     have hE := hW.done e0 hg
     rw [ew] at hE
     have := hc.mpr ⟨by rw [hE.1.length_eq, List.length_range], hE.2⟩
     cases this
end
end Sh
namespace L2
theorem Zdb {X : Cx} : MtR X "list.extend" Zd5 := ZeA
end L2
namespace Sh
open PySem L2 PyProof.Rows
seal L2.PE L2.PS L2.PSs L2.PT L2.PW L2.PA L2.PI L2.PG L2.PGs L2.PO L2.PC L2.PCs L2.OpR L2.UnR L2.CallR L2.MtR L2.IxR L2.SlR
structure Hpy (es : Es) (L : Nat) : Prop where
 fine : Zdo es
 ne : es ≠ []
 len : ∀ e ∈ es, e.1.length = L
 l1 : 1 ≤ L
 l3 : L ≤ 300
 pos : ∀ e ∈ es, 1 ≤ e.2
 tot : (Zv es).length ≤ 350
 srt : ((es.map (·.1)).map fun x => x.cps.toList).Pairwise (· < ·)
 cd : ∀ e ∈ es, Cd e.1.cps.toList
theorem Zg1 (x : Str) : (bg x).length = x.length - 1 := by
 unfold bg
 rw [Zz, List.length_dropLast, Z3]
theorem Zjk (x : Str) : (en x).length = x.length - 1 := by
 unfold en
 rw [Zz, List.length_drop, Z3]
def TyS (H : Hp) (us : List V) (T : List Str) : Prop := us.length = T.length ∧ ∀ (i : Nat) (x : Str), T[i]? = some x → ∃ b, us[i]? = some (.ref b) ∧ H b = some (.tup [.str (bg x), .str (tx [lst x]), .str (en x)])
theorem TyS.same {H H' : Hp} {us : List V} {T : List Str} (h : TyS H us T) (s : TSame H H') : TyS H' us T := ⟨h.1, fun i x e => by
 obtain ⟨b, e1, e2⟩ := h.2 i x e
 exact ⟨b, e1, s _ _ e2⟩⟩
theorem TyS.rep {H : Hp} {us : List V} {T : List Str} (h : TyS H us T) {b : Addr} {x : Str} (hb : H b = some (.tup [.str (bg x), .str (tx [lst x]), .str (en x)])) (n : Nat) : TyS H (us ++ List.replicate n (.ref b)) (T ++ List.replicate n x) := by
 refine ⟨by simp [h.1], fun i y e => ?_⟩
 by_cases hi : i < T.length
 ·rw [List.getElem?_append_left hi] at e
  obtain ⟨c, e1, e2⟩ := h.2 i y e
  exact ⟨c, by rw [List.getElem?_append_left (by rw [h.1]; exact hi)]; exact e1, e2⟩
 ·rw [List.getElem?_append_right (by omega)] at e
  have hm := List.mem_of_getElem? e
  have hl := (List.getElem?_eq_some_iff.mp e).1
  rw [List.length_replicate] at hl
  rw [(List.mem_replicate.mp hm).2]
  refine ⟨b, ?_, hb⟩
  rw [List.getElem?_append_right (by rw [h.1]; omega), h.1, List.getElem?_replicate, if_pos hl]
theorem TyS.tyA {H : Hp} {us : List V} {es : Es} (h : TyS H us (Zv es)) : TyA H us (tsE es) := ⟨by rw [h.1, Yc], fun i t e => by
 unfold tsE at e
 rw [List.getElem?_map] at e
 cases hx : (Zv es)[i]? with
 | none => rw [hx] at e; cases e
 | some x =>
  rw [hx] at e
  cases e
  obtain ⟨b, e1, e2⟩ := h.2 i x hx
  exact ⟨b, e1, _, e2⟩⟩
theorem Zgs {α : Type} {l : List α} {c : α} : atI (l ++ [c]) (-1) = some c := by
 unfold atI ixN
 rw [if_neg (by decide), if_pos (by rw [List.length_append, List.length_singleton]; omega)]
 simp only [Option.bind_some, List.length_append, List.length_singleton]
 rw [show ((-1 : Int) + ((l.length + 1 : Nat) : Int)).toNat = l.length by omega]
 simp
theorem ZiZ {x : Str} (h : 1 ≤ x.length) : atI x.cps.toList (-1) = some (lst x) := by
 rw [Zg0 h]
 exact Zgs
theorem Zgi {α : Type} (n : Nat) (a : α) : (List.replicate n [a]).flatten = List.replicate n a := by
 induction n with
 | zero => rfl
 | succ n ih => rw [List.replicate_succ, List.flatten_cons, ih, List.replicate_succ]; rfl
theorem Zdh {es : Es} {n : Nat} : (Zv (es.take n)).length ≤ (Zv es).length := by
 have : Zv es = Zv (es.take n) ++ Zv (es.drop n) := by
  unfold Zv
  rw [← List.flatMap_append, List.take_append_drop]
 rw [this, List.length_append]
 omega
def Zk0 (H : Hp) (x : V) (ts : Ts) (b : Str) : Prop := (Eul ts b (wayX ts b) ∧ Zjv H x (wayX ts b)) ∨ (¬ Zg4 ts b ∧ x = .non)
theorem Zfl {ts : Ts} {b : Str} {H : Hp} {Q : V → Hp → Prop} (h : ∀ x H', Same H H' → Zk0 H' x ts b → Q x H') : (Eul ts b (wayX ts b) → ∀ x H', Same H H' → Zjv H' x (wayX ts b) → Q x H') ∧ (¬ Zg4 ts b → ∀ H', Same H H' → Q .non H') :=
 ⟨fun e x H' s t => h x H' s (.inl ⟨e, t⟩), fun g H' s => h .non H' s (.inr ⟨g, rfl⟩)⟩
section
variable {P : Program} {w : World} {K : PySem.W.Frag} {mg : Str → Option Value} {base : Heap}
abbrev ZbI : Stmt := top 3
abbrev ZhD : List Str := ["H", "ties", "piece", "many"]
theorem scTiesOf : Zt ZhD ["H"] (Zk ZbI) := ⟨rfl, rfl, rfl, by decide +kernel, rfl, by decide +kernel, by decide +kernel⟩
def Zcm : Sp := fun vs H Q _ => ∃ (v : V) (es : Es) (L : Nat), vs = [v] ∧ HeapV H v es ∧ Hpy es L ∧ ∀ q us H', Same H H' → H' q = some (.lst us) → TyS H' us (Zv es) → Q (.ref q) H'
theorem Zc7 (D : HasDef K mg "ties_of" ZbI ["H"]) (g12_ : FOk P w K mg base 1 "begin_of" ["piece"] ZbG) (g14_ : FOk P w K mg base 1 "end_of" ["piece"] ZdL) : FOk P w K mg base 2 "ties_of" ["H"] Zcm := by
 refine D.ok scTiesOf (fun vs H Q E h => ?_) (fun f cdv A outer s H vs Q E hr h => ?_)
 ·obtain ⟨v, es, L, rfl, _⟩ := h
  rfl
 ·obtain ⟨v, es, L, rfl, ⟨q, vs, rfl, hq, hpa⟩, hF, k⟩ := h
  refine ⟨_, (Zc (Zm (i := 1) scTiesOf.nd rfl (.inl rfl) (ZU Zf))
   (Zc (Yo PassesOwn.never rfl (YH (pv 0)) (Ye 2 K rfl (Zw (ZL (i := 2) scTiesOf.nd rfl (.inl rfl)) (Zw (ZL (i := 3) scTiesOf.nd rfl (.inl rfl)) Yd)))
    (Zh (YA (JC F.plainAttrs_list F.slot_list_extend F.type_list_extend Zdb (pv 1) (Za (Zn ZiG (ZU (Za (Jc (Za (ZA g12_ hr (Za (pv 2) Zf)) (Za (ZF ZcJ (pv 2) (Xj Yn Ze) (fun _ _ => rfl)) (Za (ZA g14_ hr (Za (pv 2) Zf)) Zf)))) Zf)) (pv 3)) Zf)))))
   (Zh (Zq (pv 1))))), ?_⟩
  refine ⟨Zl (show 0 ≤ 1000 by decide), fun l hl => ?_⟩
  have s1 := Zb (o := .lst []) hl
  refine ⟨_, rfl, q, rfl, ⟨_, SqT.of (s1 _ _ hq)⟩, ?_⟩
  refine XD (K := K) (a := q) (xs := vs) (fun i σ H2 => ∃ (z2 z3 : Option V) (us : List V), σ = [some (.ref q), some (.ref l), z2, z3] ∧ Same H H2 ∧ H2 l = some (.lst us) ∧ TyS H2 us (Zv (es.take i)))
   ⟨none, none, [], rfl, s1, Zd, ⟨rfl, fun i x e => by rw [List.take_zero] at e; cases e⟩⟩ (fun i σ H2 _ ⟨_, _, _, _, s2, _⟩ => SqT.of (s2 _ _ hq)) ?_ ?_
  ·rintro i x σ H2 hi ⟨z2, z3, us, rfl, s2, hl2, hty⟩
   have hiv : i < vs.length := (List.getElem?_eq_some_iff.mp hi).1
   have hie : i < es.length := by rw [← hpa.1]; exact hiv
   obtain ⟨b, e1, e2⟩ := hpa.2 i es[i] (List.getElem?_eq_getElem hie)
   rw [hi] at e1
   cases e1
   obtain ⟨l1, l2⟩ := hF.fine.long es[i] (List.getElem_mem hie)
   have hm := hF.fine.many es[i] (List.getElem_mem hie)
   have het : es.take (i + 1) = es.take i ++ [es[i]] := List.take_succ_eq_append_getElem hie
   have htot := hF.tot
   have ht1 := Zdh (es := es) (n := i)
   have hul := hty.1
   refine ⟨b, _, rfl, SqT.of (s2 _ _ e2), rfl, _, _, rfl, _, _, rfl, rfl, ?_⟩
   rw [het, Zdi]
   generalize es[i] = e at *
   refine ⟨_, rfl, .inl ⟨rfl, _, SqL.of hl2⟩, _, rfl, e.1, rfl, l1, l2, _, rfl, _, rfl, e.1, _, _, rfl, rfl, ZT l2, ZiZ l1, _, rfl, e.1, rfl, l1, l2, Zl (show 3 ≤ 1000 by decide), fun t ht => ?_⟩
   have t1 := Zb (o := .tup [.str (bg e.1), .str (tx [lst e.1]), .str (en e.1)]) ht
   refine ⟨Zl (show 1 ≤ 1000 by decide), fun p hp => ?_⟩
   have t2 := Zb (o := .lst [.ref t]) hp
   refine ⟨_, rfl, p, e.2, _, rfl, rfl, Zd, by omega, by omega, Zl (by simp only [List.length_singleton]; omega), fun p2 hp2 => ?_⟩
   rw [Zgi]
   have t3 := Zb (o := .lst (List.replicate e.2.toNat (V.ref t))) hp2
   have hl5 := t3 _ _ (t2 _ _ (t1 _ _ hl2))
   refine ⟨l, p2, _, _, rfl, rfl, hl5, Zd, ?_, ?_⟩
   ·rw [List.length_replicate]
    refine YX ?_
    omega
   have ts := Yz (ys := us ++ List.replicate e.2.toNat (V.ref t)) hl5
   refine ⟨_, _, _, rfl, fun b u hb => by rw [Zg (Zj hb hl)]; exact t3 _ _ (t2 _ _ (t1 _ _ (s2 b u hb))), Zd, ?_⟩
   exact ((hty.same (((t1.trans t2).trans t3).tup.trans ts)).rep (ts _ _ (t3 _ _ (t2 _ _ Zd))) _)
  ·rintro σ H2 ⟨z2, z3, us, rfl, s2, hl2, hty⟩
   rw [hpa.1, List.take_length] at hty
   exact ⟨_, rfl, k l us H2 s2 hl2 hty⟩
abbrev Zaj : Stmt := top 7
abbrev ZfS : List Str := ["H", "wish", "begins"]
theorem scStartOf : Zt ZfS ["H", "wish"] (Zk Zaj) := ⟨rfl, rfl, rfl, by decide +kernel, rfl, by decide +kernel, by decide +kernel⟩
def Zko (wsh : Str) (us : Es) : Str := match us with | [] => wsh | u :: _ => u.1
def ZdF : Sp := fun vs H Q _ => ∃ (v : V) (wsh : Str) (es : Es), vs = [v, .str wsh] ∧ HeapV H v es ∧ Zdo es ∧ ∀ H' ss, Same H H' → SPts es ss → Q (.str (Zko wsh (ups (mo es) ss))) H'
theorem ZbQ (D : HasDef K mg "start_of" Zaj ["H", "wish"]) (B : Blt mg) (g13_ : FOk P w K mg base 3 "begins_of" ["H"] XO) : FOk P w K mg base 4 "start_of" ["H", "wish"] ZdF := by
 refine D.ok scStartOf (fun vs H Q E h => ?_) (fun f cdv A outer s H vs Q E hr h => ?_)
 ·obtain ⟨v, wsh, es, rfl, _⟩ := h
  rfl
 ·obtain ⟨v, wsh, es, rfl, hV, hF, k⟩ := h
  refine ⟨_, (Zc (Zm (i := 2) scStartOf.nd rfl (.inl rfl) (ZA g13_ hr (Za (pv 0) Zf)))
   (Zc (Z2 (Zs Xc (Zi Zo rfl B.len ZR (Za (pv 2) Zf)) Ze (Zx _)) (Zh (Zq (pv 1))) Zy)
   (Zh (Zq (ZF ix_tup (ZF ix_tup (pv 2) Ze (fun _ _ => rfl)) Ze (fun _ _ => rfl)))))), ?_⟩
  refine ⟨_, rfl, v, es, rfl, hV, hF, fun v' H1 ss s1 hv' hss => ?_⟩
  have kk := k H1 ss s1 hss
  obtain ⟨q, us, rfl, hq, hpa⟩ := hv'
  refine ⟨_, rfl, .ref q, _, rfl, .inr ⟨_, SqT.of hq, rfl⟩, rfl, _, rfl, ?_⟩
  rw [hpa.1]
  generalize ups (mo es) ss = ue at *
  cases ue with
  | nil => exact Yx (by decide) ⟨_, rfl, kk⟩
  | cons u ue =>
   refine Yl (Jo (by rw [List.length_cons]; omega)) ?_
   obtain ⟨b, e1, e2⟩ := hpa.2 0 u rfl
   exact ⟨_, rfl, q, us, 0, .ref b, rfl, rfl, SqT.of hq, YR (by decide) e1, b, _, 0, .str u.1, rfl, rfl, SqT.of e2, rfl, kk⟩
abbrev Xf : Stmt := top 16
abbrev Zbc : List Str := ["ties", "begin", "numbers"]
theorem scTextFrom : Zt Zbc ["ties", "begin"] (Zk Xf) := ⟨rfl, rfl, rfl, by decide +kernel, rfl, by decide +kernel, by decide +kernel⟩
def JK : Sp := fun vs H Q _ => ∃ (q : Addr) (b : Str) (us : List V) (es : Es) (L : Nat), vs = [.ref q, .str b] ∧ H q = some (.lst us) ∧ TyS H us (Zv es) ∧ Hpy es L ∧ b.length = L - 1 ∧ Zg4 (tsE es) b ∧ ∀ H', Same H H' → Eul (tsE es) b (wayX (tsE es) b) → Q (.str (tx (spell es b (wayX (tsE es) b)))) H'
theorem Za8 (D : HasDef K mg "text_from" Xf ["ties", "begin"]) (B : Blt mg) (g27_ : FOk P w K mg base 2 "way_of" ["ties", "begin"] Zip) : FOk P w K mg base 3 "text_from" ["ties", "begin"] JK := by
 refine D.ok scTextFrom (fun vs H Q E h => ?_) (fun f cdv A outer s H vs Q E hr h => ?_)
 ·obtain ⟨q, b, us, es, L, rfl, _⟩ := h
  rfl
 ·obtain ⟨q, b, us, es, L, rfl, hq, hty, hF, hb, hg, k⟩ := h
  refine ⟨_, (Zc (Zm (i := 2) scTextFrom.nd rfl (.inl rfl) (ZA g27_ hr (Za (pv 0) (Za (pv 1) Zf))))
   (Zc (Z2 (Zs ZiH (pv 2) Zef (Zx _)) (Zh (Zq Zef)) Zy)
   (Zh (Zq (Zn Z8 (pv 1) (JC F.plainAttrs_str F.slot_str_join F.type_str_join Zez YO (Za (Yp (Zk Xf) Zbc ["number"] [0] rfl (YH (pv 2)) (fun _ _ _ _ _ => Xi 0) (fun _ _ _ _ _ => Je) (fun _ _ _ _ _ => (ZF (ZhV K) (ZF (Zf6 K) (pv 1) (pv 0) (fun _ _ => rfl)) Ze (fun _ _ => rfl)))) Zf))))))), ?_⟩
  have htot := hF.tot
  have hl3 := hF.l3
  refine ⟨_, rfl, _, rfl, .ref q, b, tsE es, rfl, ⟨q, us, rfl, .inl hq, hty.tyA⟩, by rw [Yc]; omega, Zfl fun x H1 s1 hx => ?_⟩
  rcases hx with ⟨hE, qn, rfl, hqn⟩ | ⟨hn, _⟩
  rotate_left
  ·exact absurd hg hn
  have kE := fun H' s' => k H' s' hE
  have hXl : (wayX (tsE es) b).length = (Zv es).length := by rw [hE.1.length_eq, List.length_range, Yc]
  have hX : ∀ i ∈ wayX (tsE es) b, i < (Zv es).length := fun i hi => by
   have := List.mem_range.mp (hE.1.mem_iff.mp hi)
   rw [Yc] at this
   exact this
  generalize wayX (tsE es) b = X at *
  refine ⟨_, rfl, rfl, _, rfl, Yl (by simp) ?_⟩
  refine ⟨_, rfl, rfl, _, rfl, qn, rfl, ⟨_, SqT.of hqn⟩, ZcD X.length (fun i => (X.map nV).getD i .non) (fun i v _ => v = .str (tx [lst ((Zv es).getD (X.getD i 0) "")])) (Zl (by omega)) (fun _ _ _ _ _ r => r) (by have := Zbh (SqT.of (K := K) hqn); rw [List.length_map] at this; exact this) ?_ ?_⟩
  ·intro i H3 Qe hi hs kq
   rw [ZeT hi]
   have hin := hX X[i] (List.getElem_mem hi)
   obtain ⟨b0, e1, e2⟩ := hty.2 X[i] (Zv es)[X[i]] (List.getElem?_eq_getElem hin)
   refine ⟨_, rfl, _, rfl, q, us, X[i], .ref b0, rfl, rfl, SqL.of (hs _ _ (s1 _ _ hq)), ZcR e1, b0, _, 1, _, rfl, rfl, SqT.of (hs _ _ (s1 _ _ e2)), rfl, kq _ _ (Same.refl _) ?_⟩
   rw [List.getD_eq_getElem?_getD (l := X), List.getElem?_eq_getElem hi, Option.getD_some, List.getD_eq_getElem?_getD, List.getElem?_eq_getElem hin]
   rfl
  intro D1 vs1 H3 hl1 hr1 hs3 hD1 hDl1
  have ev : vs1 = ((X.map fun i => lst ((Zv es).getD i "")).map fun c => tx [c]).map V.str := by
   rw [List.map_map, List.map_map]
   refine Zg5 hl1 fun i v hv c hc => ?_
   rw [hr1 i v hv, List.getD_eq_getElem?_getD (l := X), hc]
   rfl
  rw [ev] at hDl1
  have hos := Zcv (X.map fun i => lst ((Zv es).getD i "")) (by rw [List.length_map]; omega)
  refine ⟨"", D1, _, rfl, rfl, SqL.of hDl1, hos, ?_⟩
  rw [Zbi]
  refine ⟨_, _, rfl, rfl, ?_, ?_⟩
  ·rw [Zz, List.length_map]
   refine Zl ?_
   omega
  rw [show b ++ tx (X.map fun i => lst ((Zv es).getD i "")) = tx (spell es b X) by unfold spell; rw [← X1, tx_eta]]
  exact kE H3 (s1.trans hs3)
end
def Zh8 (e0 : Str × Int) (es0 : Es) : Prop := ∀ e ∈ e0 :: es0, Rch (e0 :: es0) (bg e0.1) (bg e.1)
def VerV (H : Hp) (v : V) (e0 : Str × Int) (es0 : Es) (L : Nat) : Prop := ∃ q wd x ss, v = .ref q ∧ H q = some (.tup [.str wd, x]) ∧ SPts (e0 :: es0) ss ∧
 ((wd = "begins" ∧ 1 < sm (ups (mo (e0 :: es0)) ss) ∧ HeapV H x (ups (mo (e0 :: es0)) ss)) ∨
  (wd = "apart" ∧ ¬ 1 < sm (ups (mo (e0 :: es0)) ss) ∧ ¬ Zh8 e0 es0 ∧ ∃ ps, TupS H x ps ∧ (ps.map fun x => x.cps.toList).Pairwise (· < ·) ∧ ps.length ≤ 602 ∧ ∀ x, x ∈ ps ↔ Rch (e0 :: es0) (bg e0.1) x) ∨
  (wd = "text" ∧ ¬ 1 < sm (ups (mo (e0 :: es0)) ss) ∧ Zh8 e0 es0 ∧ ∃ b X, x = .str (tx (spell (e0 :: es0) b X)) ∧ b = Y6 e0 (ups (mo (e0 :: es0)) ss) ∧ X = wayX (tsE (e0 :: es0)) b ∧ Eul (tsE (e0 :: es0)) b X ∧ b.length = L - 1))
theorem VerV.same {H H' : Hp} {v : V} {e0 : Str × Int} {es0 : Es} {L : Nat} (h : VerV H v e0 es0 L) (s : Same H H') : VerV H' v e0 es0 L := by
 obtain ⟨q, wd, x, ss, e1, e2, e3, h⟩ := h
 refine ⟨q, wd, x, ss, e1, s _ _ e2, e3, ?_⟩
 rcases h with ⟨a, b, c⟩ | ⟨a, b, c, ps, d, f⟩ | h
 ·exact .inl ⟨a, b, c.same s⟩
 ·exact .inr (.inl ⟨a, b, c, ps, d.same s, f⟩)
 ·exact .inr (.inr h)
theorem ZdC {e0 : Str × Int} {es0 : Es} {ss : List Str} {L : Nat} (hF : Hpy (e0 :: es0) L) (hs : SPts (e0 :: es0) ss) : (Y6 e0 (ups (mo (e0 :: es0)) ss)).length = L - 1 := by
 cases hu : ups (mo (e0 :: es0)) ss with
 | nil =>
  show (bg e0.1).length = L - 1
  rw [Zg1, hF.len e0 (List.mem_cons_self ..)]
 | cons u us =>
  have hm : u ∈ ups (mo (e0 :: es0)) ss := by rw [hu]; exact List.mem_cons_self ..
  obtain ⟨p, hp, ep⟩ := List.mem_map.mp hm
  obtain ⟨h1, _⟩ := List.mem_filter.mp hp
  obtain ⟨e, he, q⟩ := (hs.pts.mem p).mp h1
  show u.1.length = L - 1
  rw [← ep]
  show p.length = L - 1
  rcases q with q | q
  ·rw [← q, Zg1, hF.len e he]
  ·rw [← q, Zjk, hF.len e he]
theorem Zin (e0 : Str × Int) (us : Es) : Zko (bg e0.1) us = Y6 e0 us := by
 cases us <;> rfl
section
variable {P : Program} {w : World} {K : PySem.W.Frag} {mg : Str → Option Value} {base : Heap}
abbrev Ya : Stmt := top 18
abbrev Y7 : List Str := ["H"]
theorem X8 : Zt Y7 ["H"] (Zk Ya) := ⟨rfl, rfl, rfl, by decide +kernel, rfl, by decide +kernel, by decide +kernel⟩
def ZgA : Sp := fun vs H Q _ => ∃ (v : V) (es : Es), vs = [v] ∧ HeapV H v es ∧ Zdo es ∧ ∀ H' ss, Same H H' → SPts es ss → Q (.bl (decide (1 < sm (ups (mo es) ss)))) H'
theorem ZbV (D : HasDef K mg "has_many_begins" Ya ["H"]) (B : Blt mg) (g13_ : FOk P w K mg base 3 "begins_of" ["H"] XO) : FOk P w K mg base 4 "has_many_begins" ["H"] ZgA := by
 refine D.ok X8 (fun vs H Q E h => ?_) (fun f cdv A outer s H vs Q E hr h => ?_)
 ·obtain ⟨v, es, rfl, _⟩ := h
  rfl
 ·obtain ⟨v, es, rfl, hV, hF, k⟩ := h
  refine ⟨_, (Zh (Zq (YB Jh (Zi (Zbv rfl) rfl B.sum Zjq (Za (Yp (Zk Ya) Y7 ["point", "more"] [] rfl (YH (ZA g13_ hr (Za (pv 0) Zf))) (fun _ _ _ _ _ => Ye 2 K rfl (Zw (Xi 0) (Zw (Xi 1) Yd))) (fun _ _ _ _ _ => Je) (fun _ _ _ _ _ => (pv 1))) Zf)) Ze (Zx _)))), ?_⟩
  refine ⟨_, rfl, v, es, rfl, hV, hF, fun v' H1 ss s1 hv' hss => ?_⟩
  obtain ⟨b1, b2, b3⟩ := Zab hF (f := mo es) (fun _ => rfl) hss
  obtain ⟨q, us, rfl, hq, hpa⟩ := hv'
  refine ⟨q, rfl, ⟨_, SqT.of hq⟩, ZgN rfl hq hpa b3 fun D1 H2 s2 hD => ?_⟩
  exact ⟨D1, _, rfl, SqL.of hD, b1, b2, _, _, rfl, rfl, k H2 ss (s1.trans s2) hss⟩
abbrev Zai : Stmt := top 19
abbrev ZfR : List Str := ["H"]
theorem ZdS : Zt ZfR ["H"] (Zk Zai) := ⟨rfl, rfl, rfl, by decide +kernel, rfl, by decide +kernel, by decide +kernel⟩
def X5 : Sp := fun vs H Q _ => ∃ (v : V) (e0 : Str × Int) (es0 : Es) (L : Nat), vs = [v] ∧ HeapV H v (e0 :: es0) ∧ Hpy (e0 :: es0) L ∧ ∀ v' H', Same H H' → VerV H' v' e0 es0 L → Q v' H'
theorem Zc6 (D : HasDef K mg "verdict" Zai ["H"]) (B : Blt mg) (g16_ : FOk P w K mg base 4 "has_many_begins" ["H"] ZgA) (g13_ : FOk P w K mg base 4 "begins_of" ["H"] XO) (g15_ : FOk P w K mg base 4 "hangs" ["H"] ZdK) (g20_ : FOk P w K mg base 4 "part_of" ["H"] ZdG) (g25_ : FOk P w K mg base 4 "ties_of" ["H"] Zcm) (g12_ : FOk P w K mg base 4 "begin_of" ["piece"] ZbG) (g22_ : FOk P w K mg base 4 "start_of" ["H", "wish"] ZdF) (g23_ : FOk P w K mg base 4 "text_from" ["ties", "begin"] JK) : FOk P w K mg base 5 "verdict" ["H"] X5 := by
 refine D.ok ZdS (fun vs H Q E h => ?_) (fun f cdv A outer s H vs Q E hr h => ?_)
 ·obtain ⟨v, e0, es0, L, rfl, _⟩ := h
  rfl
 ·obtain ⟨v, e0, es0, L, rfl, hV, hF, k⟩ := h
  refine ⟨_, (Zc (Z2 (YM (ZA g16_ hr (Za (pv 0) Zf))) (Zh (Zq (Jc (Za YO (Za (ZA g13_ hr (Za (pv 0) Zf)) Zf))))) Zy)
   (Zc (Z2 (Ja (YM (ZA g15_ hr (Za (pv 0) Zf)))) (Zh (Zq (Jc (Za YO (Za (ZA g20_ hr (Za (pv 0) Zf)) Zf))))) Zy)
   (Zh (Zq (Jc (Za YO (Za (ZA g23_ hr (Za (ZA g25_ hr (Za (pv 0) Zf)) (Za (ZA g22_ hr (Za (pv 0) (Za (ZA g12_ hr (Za (ZF ix_tup (ZF ix_tup (pv 0) Ze (fun _ _ => rfl)) Ze (fun _ _ => rfl)) Zf)) Zf))) Zf))) Zf))))))), ?_⟩
  refine ⟨_, rfl, v, _, rfl, hV, hF.fine, fun H1 ss s1 hss => ⟨_, rfl, ?_⟩⟩
  by_cases c1 : 1 < sm (ups (mo (e0 :: es0)) ss)
  ·refine Yx (decide_eq_true c1) ⟨_, rfl, v, _, rfl, hV.same s1, hF.fine, fun v' H2 ss2 s2 hv' hss2 => ⟨Zl (show 2 ≤ 1000 by decide), fun p hp => ?_⟩⟩
   have es := hss.one hss2
   subst es
   have s3 := Zb (o := .tup [.str "begins", v']) hp
   exact k _ _ ((s1.trans s2).trans s3) ⟨p, "begins", v', ss, rfl, Zd, hss, .inl ⟨rfl, c1, hv'.same s3⟩⟩
  ·refine Yl (decide_eq_false c1) ⟨_, rfl, v, e0, es0, rfl, hV.same s1, hF.fine, fun H2 c s2 hc => ⟨_, rfl, ?_⟩⟩
   have hV2 := (hV.same s1).same s2
   cases c with
   | false =>
    have hn : ¬ Zh8 e0 es0 := fun h => by have := hc.mpr h; cases this
    refine Yx rfl ⟨_, rfl, v, e0, es0, rfl, hV2, hF.fine, fun v' H3 ps s3 hps hsr hpl hpm => ⟨Zl (show 2 ≤ 1000 by decide), fun p hp => ?_⟩⟩
    have s4 := Zb (o := .tup [.str "apart", v']) hp
    exact k _ _ (((s1.trans s2).trans s3).trans s4) ⟨p, "apart", v', ss, rfl, Zd, hss, .inr (.inl ⟨rfl, c1, hn, ps, hps.same s4, hsr, hpl, hpm⟩)⟩
   | true =>
    have hh : Zh8 e0 es0 := hc.mp rfl
    refine Yl rfl ?_
    refine ⟨_, rfl, v, _, L, rfl, hV2, hF, fun q us H3 s3 hq hty => ?_⟩
    have hV3 := hV2.same s3
    obtain ⟨qv, vs, rfl, hqv, hpa⟩ := id hV3
    obtain ⟨b0, f1, f2⟩ := hpa.2 0 e0 rfl
    obtain ⟨l1, l2⟩ := hF.fine.long e0 (List.mem_cons_self ..)
    refine ⟨_, rfl, _, rfl, qv, vs, 0, .ref b0, rfl, rfl, SqT.of hqv, YR (by decide) f1, b0, _, 0, .str e0.1, rfl, rfl, SqT.of f2, rfl, e0.1, rfl, l1, l2, .ref qv, bg e0.1, _, rfl, hV3, hF.fine, fun H4 ss4 s4 hss4 => ?_⟩
    have es := hss.one hss4
    subst es
    rw [Zin]
    have hg : Zg4 (tsE (e0 :: es0)) (Y6 e0 (ups (mo (e0 :: es0)) ss)) := Zjh hF.pos hss.pts.nd hss.pts.mem (by omega) hh
    have hbl := ZdC hF hss
    refine ⟨q, _, us, e0 :: es0, L, rfl, s4 _ _ hq, hty.same s4.tup, hF, hbl, hg, fun H5 s5 hE => ⟨Zl (show 2 ≤ 1000 by decide), fun p hp => ?_⟩⟩
    have s6 := Zb (o := .tup [.str "text", .str (tx (spell (e0 :: es0) (Y6 e0 (ups (mo (e0 :: es0)) ss)) (wayX (tsE (e0 :: es0)) (Y6 e0 (ups (mo (e0 :: es0)) ss)))))]) hp
    exact k _ _ (((((s1.trans s2).trans s3).trans s4).trans s5).trans s6) ⟨p, "text", _, ss, rfl, Zd, hss, .inr (.inr ⟨rfl, c1, hh, _, _, rfl, rfl, rfl, hE, hbl⟩)⟩
end
end Sh
namespace L2
open PySem PySem.Spec PyProof.Rows
theorem Zax {X : Cx} (K : PySem.W.Frag) (h : X.K = K := by rfl) : OpR X (compareOp .NotIn) (rIn K true) := by subst h; exact XJ
end L2
namespace Sh
open PySem L2 PyProof.Rows
seal L2.PE L2.PS L2.PSs L2.PT L2.PW L2.PA L2.PI L2.PG L2.PGs L2.PO L2.PC L2.PCs L2.OpR L2.UnR L2.CallR L2.MtR L2.IxR L2.SlR
theorem Zgj (ss : List Str) : (ss.map V.str).all ZaH = true := by
 rw [List.all_eq_true]
 intro v hv
 obtain ⟨x, _, rfl⟩ := List.mem_map.mp hv
 rfl
section
variable {P : Program} {w : World} {K : PySem.W.Frag} {mg : Str → Option Value} {base : Heap}
abbrev XQ : Stmt := top 30
abbrev Zcz : List Str := ["_law_heap_here", "_law_found", "_law_piece", "_law_many"]
theorem scLBegins : Zt Zcz ["_law_heap_here"] (Zk XQ) := ⟨rfl, rfl, rfl, by decide +kernel, rfl, by decide +kernel, by decide +kernel⟩
def Za0 : Sp := fun vs H Q _ => ∃ (v : V) (es : Es), vs = [v] ∧ HeapV H v es ∧ Zdo es ∧ ∀ (v' : V) (H' : Hp) (ss : List Str), Same H H' → HeapV H' v' (ss.map fun x => (x, mo es x)) → (ss.map fun x => x.cps.toList).Pairwise (· < ·) → (∀ x, x ∈ ss ↔ (∃ e ∈ es, bg e.1 = x ∨ en e.1 = x) ∧ 0 < mo es x) → Q v' H'
theorem ZbU (D : HasDef K mg "_law_begins" XQ ["_law_heap_here"]) (B : Blt mg) : FOk P w K mg base 1 "_law_begins" ["_law_heap_here"] Za0 := by
 refine D.ok scLBegins (fun vs H Q E h => ?_) (fun f cdv A outer s H vs Q E hr h => ?_)
 ·obtain ⟨v, es, rfl, _⟩ := h
  rfl
 ·obtain ⟨v, es, rfl, ⟨q, vs, rfl, hq, hpa⟩, hF, k⟩ := h
  have hu := ZaE hr
  refine ⟨_, (Zc (Zm (i := 1) scLBegins.nd rfl (.inr rfl) YZ)
   (Zc (Yo PassesOwn.never rfl (YH (pv 0)) (Ye 2 K rfl (Zw (ZL (i := 2) scLBegins.nd rfl (.inl rfl)) (Zw (ZL (i := 3) scLBegins.nd rfl (.inl rfl)) Yd)))
    (Zc (Ys hu (pv 1) (Zu ZQ (pv 2) ZD (ZB (Xj Yn Ze))) (Zn ZP (Yh hu (pv 1) (Zu ZQ (pv 2) ZD (ZB (Xj Yn Ze))) Ze ⟨rfl, rfl, rfl, rfl⟩) (pv 3)) rfl)
   (Zh (Ys hu (pv 1) (Zu ZQ (pv 2) (ZB Ze) ZD) (Zn XI (Yh hu (pv 1) (Zu ZQ (pv 2) (ZB Ze) ZD) Ze ⟨rfl, rfl, rfl, rfl⟩) (pv 3)) rfl))))
   (Zh (Zq (ZO ZE rfl B.tuple Yf (Za (Zi ZaM rfl B.sorted Yj (Za (ZiC (Yp (Zk XQ) Zcz ["_law_point"] [1] rfl (Zht (pv 1)) (fun _ _ _ _ _ => Xi 0) (fun _ _ _ _ _ => ZbO (Zs Jh (Zav hu (pv 1) (pv 0) (fun _ _ => rfl)) Ze (Zx _))) (fun _ _ _ _ _ => (Jc (Za (pv 0) (Za (Zav hu (pv 1) (pv 0) (fun _ _ => rfl)) Zf)))))) Zf)) Zf)))))), ?_⟩
  intro d hd
  have s1 := Zb (o := .dK []) hd
  refine ⟨_, rfl, q, rfl, ⟨_, SqT.of (s1 _ _ hq)⟩, ?_⟩
  refine XD (K := K) (a := q) (xs := vs) (fun i σ H2 => (∃ z3 z4 : Option V, σ = [some (.ref q), some (.ref d), z3, z4]) ∧ Same H H2 ∧ ∃ ks, Pts (es.take i) ks ∧ H2 d = some (.dK (gD ks (mo (es.take i)))))
   ⟨⟨none, none, rfl⟩, s1, [], Pts.nil, Zd⟩ (fun i σ H2 _ ⟨_, s2, _⟩ => SqT.of (s2 _ _ hq)) ?_ ?_
  ·rintro i x σ H2 hi ⟨⟨z3, z4, rfl⟩, s2, ks, hk, hdd⟩
   have hiv : i < vs.length := (List.getElem?_eq_some_iff.mp hi).1
   have hie : i < es.length := by rw [← hpa.1]; exact hiv
   obtain ⟨b, e1, e2⟩ := hpa.2 i es[i] (List.getElem?_eq_getElem hie)
   rw [hi] at e1
   cases e1
   obtain ⟨l1, l2⟩ := hF.long es[i] (List.getElem_mem hie)
   have hkl := hk.len
   have hfew := hF.few
   rw [List.length_take] at hkl
   refine ⟨b, _, rfl, SqT.of (s2 _ _ e2), rfl, _, _, rfl, _, _, rfl, rfl, ?_⟩
   have het : es.take (i + 1) = es.take i ++ [es[i]] := List.take_succ_eq_append_getElem hie
   generalize es[i] = e at *
   have hz : e.1.length ≤ sizeLine := ZT l2
   have hg := Js (ks := ks) (g := mo (es.take i)) (y := bg e.1) fun hP => hk.zero hP
   have sb : Txt.slice e.1 none (some (-1)) = bg e.1 := Xe l1
   have se : Txt.slice e.1 (some 1) none = en e.1 := Zag l1
   refine ⟨_, rfl, d, rfl, .inl ⟨_, .inl hdd⟩, _, rfl, _, rfl, _, rfl, _, rfl, hz, ?_⟩
   rw [sb]
   refine ⟨_, DGet.k (k := Sum.inr (bg e.1)) hdd, _, rfl, _, _, hg, rfl, _, rfl, _, rfl, _, rfl, _, rfl, _, rfl, hz, ?_⟩
   rw [sb]
   refine ⟨d, _, rfl, DPut.k (k := Sum.inr (bg e.1)) hdd (by rw [Yq]; exact Zr (by omega)), ?_⟩
   rw [Jr]
   have hdd2 : (upd H2 d (.dK (gD (ZV ks (bg e.1)) fun x => if x = bg e.1 then mo (es.take i) (bg e.1) + e.2 else mo (es.take i) x))) d = some (.dK (gD (ZV ks (bg e.1)) fun x => if x = bg e.1 then mo (es.take i) (bg e.1) + e.2 else mo (es.take i) x)) := Zd
   have hg2 := Js (ks := ZV ks (bg e.1)) (g := fun x => if x = bg e.1 then mo (es.take i) (bg e.1) + e.2 else mo (es.take i) x) (y := en e.1) fun hP => by
    rw [addK_mem, not_or] at hP
    rw [if_neg hP.2, hk.zero hP.1]
   have hal := Yk ks (bg e.1)
   refine ⟨_, rfl, d, rfl, .inl ⟨_, .inl hdd2⟩, _, rfl, _, rfl, _, rfl, hz, ?_⟩
   rw [se]
   refine ⟨_, DGet.k (k := Sum.inr (en e.1)) hdd2, _, rfl, _, _, hg2, rfl, _, rfl, _, rfl, _, rfl, _, rfl, hz, ?_⟩
   rw [se]
   refine ⟨d, _, rfl, DPut.k (k := Sum.inr (en e.1)) hdd2 (by rw [Yq]; exact Zr (by omega)), ?_⟩
   refine ⟨⟨_, _, rfl⟩, fun c u hc => ?_, ZV (ZV ks (bg e.1)) (en e.1), by rw [het]; exact hk.step e, ?_⟩
   ·rw [Xu, Zg (Zj hc hd)]
    exact s2 c u hc
   ·rw [Zd, Jr, het]
    refine congrArg (fun l => some (HO.dK l)) (XU fun x _ => ?_)
    rw [ZeB]
    unfold mo1 ind
    by_cases c1 : x = en e.1
    ·subst c1
     rw [if_pos rfl, if_pos rfl]
     by_cases c2 : en e.1 = bg e.1
     ·rw [if_pos c2, if_pos c2.symm, c2, Int.mul_one, Int.sub_self]
      omega
     ·rw [if_neg c2, if_neg (Ne.symm c2), Int.mul_one, Int.mul_zero]
      omega
    ·rw [if_neg c1, if_neg (Ne.symm c1)]
     by_cases c2 : x = bg e.1
     ·subst c2
      rw [if_pos rfl, if_pos rfl, Int.mul_one, Int.mul_zero, Int.sub_zero]
     ·rw [if_neg c2, if_neg (Ne.symm c2), Int.mul_zero, Int.sub_zero]
      omega
  ·rintro σ H2 ⟨⟨z3, z4, rfl⟩, s2, ks, hk, hdd⟩
   rw [hpa.1, List.take_length] at hk hdd
   have hkl := hk.len
   have hfew := hF.few
   refine ⟨d, _, hdd, fun o => ?_⟩
   have hfz : (upd H2 d (.frz o (.dK (gD ks (mo es))))) d = some (.frz o (.dK (gD ks (mo es)))) := Zd
   refine ⟨_, rfl, d, o, _, rfl, hfz, Zb4 (gD ks (mo es)).length (fun i => ((gD ks (mo es)).map fun p => kV p.1).getD i .non) (fun i => decide (0 < mo es (ks.getD i ""))) (fun i v H => Zho (ks.getD i "") (mo es (ks.getD i "")) v H) (Zl (by rw [Yq]; omega)) (fun i v H H' hs ⟨b, e1, e2⟩ => ⟨b, e1, hs _ _ e2⟩) (ZhU hfz) ?_ ?_⟩
   ·intro i H3 Qt Qf hi hs ht hf
    rw [Yq] at hi
    have es1 : ks.getD i "" = ks[i] := by rw [List.getD_eq_getElem?_getD, List.getElem?_eq_getElem hi]; rfl
    have ek : ((gD ks (mo es)).map fun p => kV p.1).getD i .non = .str ks[i] := by
     unfold gD
     rw [List.map_map, List.getD_eq_getElem?_getD, List.getElem?_map, List.getElem?_eq_getElem hi]
     rfl
    rw [es1] at ht hf
    rw [ek]
    have hgt : ∀ H', Same (upd H2 d (.frz o (.dK (gD ks (mo es))))) H' → DGet H' d (kV (Sum.inr ks[i])) (some (.int (mo es ks[i]))) := fun H' s' => .inl ⟨_, Sum.inr ks[i], .inr ⟨o, s' _ _ hfz⟩, rfl, by rw [ZcL, if_pos (List.getElem_mem hi)]⟩
    refine ⟨_, rfl, _, rfl, d, _, rfl, hgt _ hs, _, _, rfl, rfl, _, rfl, ?_⟩
    by_cases c : 0 < mo es ks[i]
    ·refine Yx (decide_eq_true c) ⟨_, rfl, _, rfl, _, rfl, d, _, rfl, hgt _ hs, Zl (show 2 ≤ 1000 by decide), fun r hr => ht (decide_eq_true c) _ _ (Zb hr) ⟨r, rfl, Zd⟩⟩
    ·exact Yl (decide_eq_false c) (hf (decide_eq_false c) _ (Same.refl _))
   ·intro D2 vs2 H3 hl2 hR hs3 hD2 hDl
    refine ⟨hs3 _ _ hfz, ?_⟩
    have hpa2 : PA H3 vs2 ((ks.filter fun x => decide (0 < mo es x)).map fun x => (x, mo es x)) := by
     refine ZiF (p := fun x => decide (0 < mo es x)) (f := fun x => mo es x) ?_ ?_
     ·rw [Yq] at hl2; exact hl2
     ·rw [Yq] at hR; exact hR
    have ts : TSame H3 (upd H3 d (.dK (gD ks (mo es)))) := fun b xs e => by
     rw [Zg (fun z => by rw [z, hs3 _ _ hfz] at e; cases e)]
     exact e
    have hpa3 := hpa2.same ts
    have hD2d : D2 ≠ d := fun z => by rw [z, hfz] at hD2; cases hD2
    have s4 : Same H (upd H3 d (.dK (gD ks (mo es)))) := fun b u hb => by
     have nb := Zj hb hd
     rw [Zg nb]
     exact hs3 _ _ (by rw [Zg nb]; exact s2 _ _ hb)
    have hDl4 : (upd H3 d (.dK (gD ks (mo es)))) D2 = some (.lst vs2) := by rw [Zg hD2d]; exact hDl
    generalize upd H3 d (.dK (gD ks (mo es))) = H4 at hpa3 s4 hDl4 ts
    obtain ⟨fs, hfs⟩ : ∃ fs, fs = ks.filter fun x => decide (0 < mo es x) := ⟨_, rfl⟩
    rw [← hfs] at hpa3
    have hfnd : fs.Nodup := by rw [hfs]; exact hk.nd.filter _
    have hfl : fs.length ≤ 1000 := by
     rw [hfs]
     exact Nat.le_trans (List.length_filter_le _ _) (by omega)
    obtain ⟨rs, hrs1, hrs2, hrs3⟩ := Zhw hpa3
    refine ⟨D2, rs, rfl, by rw [← hrs1]; exact SqL.of hDl4, fun r hr => ⟨_, hrs3 r hr⟩, by rw [hrs2]; exact hfnd, by rw [← List.length_map (f := Prod.snd), hrs2]; exact hfl, fun p rs' hp hpm hsrt => ?_⟩
    refine ⟨p, _, rfl, .inl ⟨SqL.of Zd, fun l hl => ?_⟩⟩
    have s5 := (Zb (o := .lst (rs'.map fun r => V.ref r.1)) hp).trans (Zb (o := .tup (rs'.map fun r => V.ref r.1)) hl)
    refine k (.ref l) _ (rs'.map (·.2)) (s4.trans s5) ⟨l, _, rfl, Zd, ?_⟩ ?_ fun x => ?_
    ·refine ⟨by rw [List.length_map, List.length_map, List.length_map], fun i e he => ?_⟩
     rw [List.getElem?_map, List.getElem?_map] at he
     cases hri : rs'[i]? with
     | none => rw [hri] at he; cases he
     | some r =>
      rw [hri] at he
      cases he
      refine ⟨r.1, by rw [List.getElem?_map, hri]; rfl, s5 _ _ (hrs3 r (hpm.mem_iff.mp (List.mem_of_getElem? hri)))⟩
    ·rw [List.map_map]
     exact hsrt
    ·have : x ∈ rs'.map (·.2) ↔ x ∈ fs := by rw [(hpm.map Prod.snd).mem_iff, hrs2]
     rw [this, hfs, List.mem_filter, hk.mem]
     simp
abbrev ZdZ : Stmt := top 31
abbrev ZiT : List Str := ["_law_heap_here", "_law_come_here", "_law_many", "_law_piece", "_law_more"]
theorem scLCome : Zt ZiT ["_law_heap_here"] (Zk ZdZ) := ⟨rfl, rfl, rfl, by decide +kernel, rfl, by decide +kernel, by decide +kernel⟩
def ZgD : Sp := fun vs H Q _ => ∃ (v : V) (e : Str × Int) (es : Es), vs = [v] ∧ HeapV H v (e :: es) ∧ Zdo (e :: es) ∧ ∀ v' H' ps, Same H H' → TupS H' v' ps → (ps.map fun x => x.cps.toList).Pairwise (· < ·) → ps.length ≤ 602 → (∀ x, x ∈ ps ↔ Rch (e :: es) (bg e.1) x) → Q v' H'
theorem Zep (D : HasDef K mg "_law_come" ZdZ ["_law_heap_here"]) (B : Blt mg) : FOk P w K mg base 1 "_law_come" ["_law_heap_here"] ZgD := by
 refine D.ok scLCome (fun vs H Q E h => ?_) (fun f cdv A outer s H vs Q E hr h => ?_)
 ·obtain ⟨v, e, es, rfl, _⟩ := h
  rfl
 ·obtain ⟨v, e, es0, rfl, hV, hF, k⟩ := h
  have hu := ZaE hr
  obtain ⟨q, vs, rfl, hq, hpa⟩ := id hV
  refine ⟨_, (Zc (Zm (i := 1) scLCome.nd rfl (.inl rfl) (Zeg (Zct (Zu ZQ (ZF ix_tup (ZF ix_tup (pv 0) Ze (fun _ _ => rfl)) Ze (fun _ _ => rfl)) ZD (ZB (Xj Yn Ze))) Xk Zd9) rfl rfl (List.cons_ne_nil _ _) (by decide)))
   (Zc (Zm (i := 2) scLCome.nd rfl (.inl rfl) Ze)
   (Zc (XS PassesOwn.never (Zs Zhy (pv 2) (Zi Xr rfl B.len ZR (Za (pv 1) Zf)) (Zx _))
    (Zc (Zm (i := 2) scLCome.nd rfl (.inl rfl) (Zi Xr rfl B.len ZR (Za (pv 1) Zf)))
   (Zh (Yo PassesOwn.never rfl (YH (pv 0)) (Ye 2 K rfl (Zw (ZL (i := 3) scLCome.nd rfl (.inl rfl)) (Zw (ZL (i := 4) scLCome.nd rfl (.inl rfl)) Yd)))
    (Zh (Z2 (PW.pt (Zc3 (Zd8 (ZgI hu (Zu ZQ (pv 3) ZD (ZB (Xj Yn Ze))) (pv 1))) (Za5 (Zd8 (ZgI hu (Zu ZQ (pv 3) (ZB Ze) ZD) (pv 1)))))) (Zc (Ys hu (pv 1) (Zu ZQ (pv 3) ZD (ZB (Xj Yn Ze))) Xk rfl)
   (Zh (Ys hu (pv 1) (Zu ZQ (pv 3) (ZB Ze) ZD) Xk rfl))) Zy))))))
   (Zh (Zq (ZO ZE rfl B.tuple Yf (Za (Zi (YE rfl) rfl B.sorted Yj (Za (pv 1) Zf)) Zf))))))), ?_⟩
  obtain ⟨b0, eb0, hb0⟩ := hpa.2 0 e rfl
  obtain ⟨l1, l2⟩ := hF.long e (List.mem_cons_self ..)
  have hf2 := hF.few
  have hhead : e ∈ e :: es0 := List.mem_cons_self ..
  generalize hes : e :: es0 = es at *
  intro d hd
  have sd := Zb (o := .dK []) hd
  refine ⟨_, rfl, q, vs, 0, .ref b0, rfl, rfl, SqT.of (sd _ _ hq), YR (by decide) eb0, b0, _, 0, .str e.1, rfl, rfl, SqT.of (sd _ _ hb0), rfl, _, rfl, _, rfl, _, rfl, ZT l2, ?_⟩
  refine ⟨Zd, [((Sum.inr (bg e.1) : Key), V.bl true)], by rw [← Xe l1]; rfl, by simp, ?_⟩
  rw [Xu]
  have s2 : Same H (upd H d (.dK (YQ [] [((Sum.inr (bg e.1) : Key), V.bl true)]))) := Zb hd
  have hd2 : (upd H d (.dK (YQ [] [((Sum.inr (bg e.1) : Key), V.bl true)]))) d = some (.dK (bD [bg e.1])) := Zd
  generalize upd H d (.dK (YQ [] [((Sum.inr (bg e.1) : Key), V.bl true)])) = H2 at s2 hd2
  have sh : ∀ {H4 : Hp} (o : HO), Same H H4 → Same H (upd H4 d o) := fun o s b u hb => by
   rw [Zg (Zj hb hd)]
   exact s b u hb
  have hkl : (es.map (fun x => bg x.1) ++ es.map fun x => en x.1).length ≤ 602 := by
   rw [List.length_append, List.length_map, List.length_map]
   omega
  have hb : ∀ x ∈ es, bg x.1 ∈ es.map (fun x => bg x.1) ++ es.map fun x => en x.1 := fun x hx => List.mem_append_left _ (List.mem_map_of_mem hx)
  have hn : ∀ x ∈ es, en x.1 ∈ es.map (fun x => bg x.1) ++ es.map fun x => en x.1 := fun x hx => List.mem_append_right _ (List.mem_map_of_mem hx)
  generalize hks : (es.map (fun x => bg x.1) ++ es.map fun x => en x.1) = ks at hkl hb hn
  try dsimp only [JH]
  show Zhb (ZaV _ _) _ _ _ _
  refine ZZ (fun σ H4 => ∃ (F : List Str) (z2 z3 z4 : Option V), σ = [some (.ref q), some (.ref d), z2, z3, z4] ∧ Same H H4 ∧ H4 d = some (.dK (bD F)) ∧ Wk es (bg e.1) ks F [] ∧ ∀ x ∈ es, (bg x.1 ∈ F ∨ en x.1 ∈ F) → bg x.1 ∈ F ∧ en x.1 ∈ F) (fun R hR => ?_) ?_
  ·refine ⟨fun m σ H4 => ∃ (F : List Str) (n : Nat) (z3 z4 : Option V), σ = [some (.ref q), some (.ref d), some (.int (n : Int)), z3, z4] ∧ Same H H4 ∧ H4 d = some (.dK (bD F)) ∧ Wk es (bg e.1) ks F [] ∧ (n < F.length ∨ ∀ x ∈ es, (bg x.1 ∈ F ∨ en x.1 ∈ F) → bg x.1 ∈ F ∧ en x.1 ∈ F) ∧ m = 1000 - n,
    ⟨_, [bg e.1], 0, none, none, rfl, s2, hd2, ⟨by simp, by simp, (fun x hx => by rw [List.mem_singleton.mp hx]; exact .here), (fun x hx => by cases hx), fun x hx => by rw [List.mem_singleton.mp hx]; exact hb e hhead⟩, .inl (by simp), rfl⟩, ?_⟩
   rintro m σ H4 ⟨F, n, z3, z4, rfl, s4, hd4, hW, hor, hm⟩
   have hle := hW.le
   refine ⟨_, rfl, _, rfl, d, _, rfl, hd4, _, _, rfl, rfl, _, rfl, ?_⟩
   rw [Jy]
   by_cases c : ¬ n < F.length
   ·refine Yl (decide_eq_false (by omega)) (hR _ _ ⟨F, _, z3, z4, rfl, s4, hd4, hW, hor.resolve_left c⟩)
   have c := Classical.not_not.mp c
   refine Yx (decide_eq_true (by omega)) ?_
   refine ⟨fun σ' H' => ∃ m', m' < m ∧ ∃ (F : List Str) (n : Nat) (z3 z4 : Option V), σ' = [some (.ref q), some (.ref d), some (.int (n : Int)), z3, z4] ∧ Same H H' ∧ H' d = some (.dK (bD F)) ∧ Wk es (bg e.1) ks F [] ∧ (n < F.length ∨ ∀ x ∈ es, (bg x.1 ∈ F ∨ en x.1 ∈ F) → bg x.1 ∈ F ∧ en x.1 ∈ F) ∧ m' = 1000 - n, fun _ _ z => z, ?_⟩
   refine ⟨_, rfl, d, _, rfl, hd4, ?_⟩
   rw [Jy]
   refine ⟨_, rfl, q, rfl, ⟨_, SqT.of (s4 _ _ hq)⟩, ?_⟩
   refine XD (K := K) (a := q) (xs := vs) (fun j σ' H' => ∃ (F' : List Str) (z3 z4 : Option V), σ' = [some (.ref q), some (.ref d), some (.int (F.length : Int)), z3, z4] ∧ Same H H' ∧ H' d = some (.dK (bD F')) ∧ Wk es (bg e.1) ks F' [] ∧ (F' = F ∨ F.length < F'.length) ∧ (∀ x ∈ F, x ∈ F') ∧ ∀ x ∈ es.take j, (bg x.1 ∈ F ∨ en x.1 ∈ F) → bg x.1 ∈ F' ∧ en x.1 ∈ F')
    ⟨F, z3, z4, rfl, s4, hd4, hW, .inl rfl, fun x hx => hx, fun x hx => by rw [List.take_zero] at hx; cases hx⟩
    (fun i σ' H' _ ⟨_, _, _, _, s6, _⟩ => SqT.of (s6 _ _ hq)) ?_ ?_
   ·rintro i x σ' H6 hi ⟨F6, z3', z4', rfl, s6, hd6, hW6, hor6, hsub6, hcl6⟩
    have hiv : i < vs.length := (List.getElem?_eq_some_iff.mp hi).1
    have hie : i < es.length := by rw [← hpa.1]; exact hiv
    obtain ⟨b, e1, e2⟩ := hpa.2 i es[i] (List.getElem?_eq_getElem hie)
    rw [hi] at e1
    cases e1
    obtain ⟨m1, m2⟩ := hF.long es[i] (List.getElem_mem hie)
    have het : es.take (i + 1) = es.take i ++ [es[i]] := List.take_succ_eq_append_getElem hie
    have hmem : es[i] ∈ es := List.getElem_mem hie
    refine ⟨b, _, rfl, SqT.of (s6 _ _ e2), rfl, _, _, rfl, _, _, rfl, rfl, ?_⟩
    generalize es[i] = y at *
    have hle6 := hW6.le
    have eb := Xe m1
    have ee := Zag m1
    have stay : (bg y.1 ∈ F6 ∨ en y.1 ∈ F6) → bg y.1 ∈ ZV (ZV F6 (bg y.1)) (en y.1) ∧ Wk es (bg e.1) ks (ZV (ZV F6 (bg y.1)) (en y.1)) [] := fun hh => by
     have r1 : Rch es (bg e.1) (bg y.1) ∧ Rch es (bg e.1) (en y.1) := by
      rcases hh with z | z
      ·exact ⟨hW6.rch _ z, .step (hW6.rch _ z) ⟨y, hmem, .inl ⟨rfl, rfl⟩⟩⟩
      ·exact ⟨.step (hW6.rch _ z) ⟨y, hmem, .inr ⟨rfl, rfl⟩⟩, hW6.rch _ z⟩
     refine ⟨by simp [addK_mem], YV (YV hW6.nd), by simp [addK_mem, hW6.fst], fun x hx => ?_, (fun x hx => by cases hx), fun x hx => ?_⟩
     ·rcases addK_mem.mp hx with z | z
      ·rcases addK_mem.mp z with z | z
       ·exact hW6.rch _ z
       ·rw [z]; exact r1.1
      ·rw [z]; exact r1.2
     ·rcases addK_mem.mp hx with z | z
      ·rcases addK_mem.mp z with z | z
       ·exact hW6.inn _ z
       ·rw [z]; exact hb y hmem
      ·rw [z]; exact hn y hmem
    have fin : (bg y.1 ∈ F6 ∨ en y.1 ∈ F6) → ∃ (F' : List Str) (z3 z4 : Option V), [some (.ref q), some (.ref d), some (.int (F.length : Int)), some (V.str y.1), some (.int y.2)] = [some (.ref q), some (.ref d), some (.int (F.length : Int)), z3, z4] ∧ Same H (upd H6 d (.dK (bD (ZV (ZV F6 (bg y.1)) (en y.1))))) ∧ (upd H6 d (.dK (bD (ZV (ZV F6 (bg y.1)) (en y.1))))) d = some (.dK (bD F')) ∧ Wk es (bg e.1) ks F' [] ∧ (F' = F ∨ F.length < F'.length) ∧ (∀ x ∈ F, x ∈ F') ∧ ∀ x ∈ es.take (i + 1), (bg x.1 ∈ F ∨ en x.1 ∈ F) → bg x.1 ∈ F' ∧ en x.1 ∈ F' := fun hh => by
     refine ⟨_, _, _, rfl, sh _ s6, Zd, (stay hh).2, ?_, fun x hx => by simp [addK_mem, hsub6 x hx], fun x hx hx2 => ?_⟩
     ·have h1 := Zfg F6 (bg y.1)
      have h2 := Zfg (ZV F6 (bg y.1)) (en y.1)
      rcases h1 with h1 | h1 <;> rcases h2 with h2 | h2
      ·rw [h2, h1]
       exact hor6
      ·right
       rw [h1] at h2 ⊢
       rcases hor6 with z | z
       ·rw [z] at h2 ⊢
        exact h2
       ·omega
      ·right
       rw [h2]
       rcases hor6 with z | z
       ·rw [z] at h1 ⊢
        exact h1
       ·omega
      ·right
       rcases hor6 with z | z
       ·rw [← z]
        omega
       ·omega
     ·rw [het] at hx
      rcases List.mem_append.mp hx with z | z
      ·have := hcl6 x z hx2
       simp [addK_mem, this.1, this.2]
      ·rw [List.mem_singleton.mp z]
       simp [addK_mem]
    refine ⟨_, rfl, _, rfl, _, rfl, _, rfl, ZT m2, ?_⟩
    refine ⟨_, rfl, d, Y5 (bD F6) (Sum.inr (bg y.1)), rfl, .inl ⟨_, Sum.inr (bg y.1), .inl hd6, by rw [← eb]; rfl, rfl⟩, ?_⟩
    rw [ZcQ]
    by_cases c1 : bg y.1 ∈ F6
    ·rw [if_pos c1]
     refine ⟨_, rfl, Yx rfl (Yx rfl ?_)⟩
     refine ⟨_, rfl, _, rfl, _, rfl, _, rfl, _, rfl, ZT m2, d, _, rfl, .inl ⟨_, Sum.inr (bg y.1), hd6, by rw [← eb]; rfl, by rw [Jy]; exact Zr (by omega), rfl⟩, ?_⟩
     rw [ZbB]
     have hd7 : (upd H6 d (.dK (bD (ZV F6 (bg y.1))))) d = some (.dK (bD (ZV F6 (bg y.1)))) := Zd
     have hal := Yk F6 (bg y.1)
     refine ⟨_, rfl, _, rfl, _, rfl, _, rfl, ZT m2, d, _, rfl, .inl ⟨_, Sum.inr (en y.1), hd7, by rw [← ee]; rfl, by rw [Jy]; exact Zr (by omega), rfl⟩, ?_⟩
     rw [ZbB, Xu]
     exact fin (.inl c1)
    rw [if_neg c1]
    refine ⟨_, rfl, Yl rfl ⟨_, rfl, _, rfl, _, rfl, ZT m2, _, rfl, d, Y5 (bD F6) (Sum.inr (en y.1)), rfl, .inl ⟨_, Sum.inr (en y.1), .inl hd6, by rw [← ee]; rfl, rfl⟩, ?_⟩⟩
    rw [ZcQ]
    by_cases c2 : en y.1 ∈ F6
    ·rw [if_pos c2]
     refine ⟨_, rfl, Yx rfl ?_⟩
     refine ⟨_, rfl, _, rfl, _, rfl, _, rfl, _, rfl, ZT m2, d, _, rfl, .inl ⟨_, Sum.inr (bg y.1), hd6, by rw [← eb]; rfl, by rw [Jy]; exact Zr (by omega), rfl⟩, ?_⟩
     rw [ZbB]
     have hd7 : (upd H6 d (.dK (bD (ZV F6 (bg y.1))))) d = some (.dK (bD (ZV F6 (bg y.1)))) := Zd
     have hal := Yk F6 (bg y.1)
     refine ⟨_, rfl, _, rfl, _, rfl, _, rfl, ZT m2, d, _, rfl, .inl ⟨_, Sum.inr (en y.1), hd7, by rw [← ee]; rfl, by rw [Jy]; exact Zr (by omega), rfl⟩, ?_⟩
     rw [ZbB, Xu]
     exact fin (.inr c2)
    rw [if_neg c2]
    refine ⟨_, rfl, Yl rfl ⟨F6, _, _, rfl, s6, hd6, hW6, hor6, hsub6, fun x hx hx2 => ?_⟩⟩
    rw [het] at hx
    rcases List.mem_append.mp hx with z | z
    ·exact hcl6 x z hx2
    ·rw [List.mem_singleton.mp z] at hx2 ⊢
     rcases hx2 with w | w
     ·exact absurd (hsub6 _ w) c1
     ·exact absurd (hsub6 _ w) c2
   ·rintro σ' H6 ⟨F6, z3', z4', rfl, s6, hd6, hW6, hor6, hsub6, hcl6⟩
    rw [hpa.1, List.take_length] at hcl6
    refine ⟨_, ?_, F6, F.length, _, _, rfl, s6, hd6, hW6, ?_, rfl⟩
    ·omega
    ·rcases hor6 with z | z
     ·subst z
      exact .inr hcl6
     ·exact .inl z
  ·rintro σ H4 ⟨F, z2, z3, z4, rfl, s4, hd4, hW, hcl⟩
   have hle := hW.le
   refine ⟨_, rfl, d, F, fun _ => .bl true, rfl, hd4, by omega, fun p ss hp hpm hsrt => ?_⟩
   refine ⟨p, _, rfl, .inl ⟨SqL.of Zd, fun l hl => ?_⟩⟩
   refine k (.ref l) _ ss ((s4.trans (Zb hp)).trans (Zb hl)) ⟨l, rfl, Zd⟩ (ZcB (hpm.nodup_iff.mpr hW.nd) hsrt) (by rw [hpm.length_eq]; omega) fun x => ?_
   rw [hpm.mem_iff]
   refine ⟨hW.rch x, fun z => ?_⟩
   refine Rch.closed (F := fun x => x ∈ F) hW.fst (fun P' hP y hy => ?_) z
   obtain ⟨x', hx', ⟨q1, q2⟩ | ⟨q1, q2⟩⟩ := hy
   ·rw [← q2]
    exact (hcl x' hx' (.inl (q1 ▸ hP))).2
   ·rw [← q2]
    exact (hcl x' hx' (.inr (q1 ▸ hP))).1
end
theorem Zeu {l : List Str} (h : (l.map fun x => x.cps.toList).Pairwise (· < ·)) : l.Nodup := by
 rw [List.pairwise_map] at h
 refine h.imp fun {a b} q e => ?_
 rw [e] at q
 exact absurd q (List.lt_irrefl _)
theorem ZeR {es : Es} {L : Nat} {z : List Nat} {ks ss : List Str} (hF : Hpy es L) (hp : (pcs z L).Perm (Zv es)) (hk : Zjz (pcs z L) ks) (hpm : ss.Perm ks) (hs : (ss.map fun x => x.cps.toList).Pairwise (· < ·)) : (ss.map fun x => (x, cnt (pcs z L) x)) = es := by
 have e1 : ss = es.map (·.1) := X4 hs hF.srt fun x => by
  rw [hpm.mem_iff, hk.mem, hp.mem_iff, Yy hF.pos, List.mem_map]
 rw [e1, List.map_map]
 have nd : (es.map (·.1)).Nodup := Zeu hF.srt
 have h0 : ∀ e ∈ es, 0 ≤ e.2 := fun e he => by have := hF.pos e he; omega
 have : es.map ((fun x => (x, cnt (pcs z L) x)) ∘ fun e => e.1) = es.map id := List.map_congr_left fun e he => by
  show (e.1, cnt (pcs z L) e.1) = e
  unfold cnt
  rw [hp.count_eq, Ze6 nd h0 e he]
 rw [this, List.map_id]
theorem ZeY {e0 : Str × Int} {es0 : Es} {L : Nat} (hF : Hpy (e0 :: es0) L) : 0 < (Zv (e0 :: es0)).length := by
 have h := hF.pos e0 (List.mem_cons_self ..)
 rw [Y3, List.length_append, List.length_replicate]
 omega
theorem ZeZ {es : Es} {L : Nat} (hF : Hpy es L) : ∀ x ∈ Zv es, x.length = L := fun x hx => by
 obtain ⟨e, he, rfl⟩ := (Yy hF.pos x).mp hx
 exact hF.len e he
theorem Zbg : ∀ es : Es, (∀ e ∈ es, Cd e.1.cps.toList) → PyData.canLayAll0 (es.map fun e => .tuple [.str e.1, .int e.2]) = true ∧ PyData.depthAll (es.map fun e => .tuple [.str e.1, .int e.2]) ≤ 1
 | [], _ => by simp [PyData.canLayAll0, PyData.depthAll]
 | e :: es, h => by
  obtain ⟨h1, h2⟩ := Zbg es fun d hd => h d (List.mem_cons_of_mem _ hd)
  rw [List.map_cons, PyData.canLayAll0, PyData.depthAll, h1]
  refine ⟨by simp [PyData.canLay0, PyData.canLayAll0, Zcj (h e List.mem_cons_self)], ?_⟩
  simp [PyData.depth, PyData.depthAll]
  exact Nat.max_le.mpr ⟨Nat.le_refl _, h2⟩
theorem Za2 {es : Es} (h : ∀ e ∈ es, Cd e.1.cps.toList) : SeqAt.shaped (Za7 es) = true := by
 obtain ⟨h1, h2⟩ := Zbg es h
 unfold SeqAt.shaped Za7
 rw [Bool.and_eq_true]
 constructor
 ·rw [PyData.canLay0]
  exact h1
 ·refine decide_eq_true ?_
  rw [PyData.depth]
  omega
theorem Zji {d : PyData} (h : SeqAt.shaped d = true) : PyData.eqv d d = true := SeqAt.eqv_refl d (SeqAt.canLay_of_shaped h)
theorem Zf8 (y : Str) (ps : List Str) : inV (.str y) (ps.map V.str) = decide (y ∈ ps) := by
 unfold inV
 rw [Bool.eq_iff_iff, List.any_eq_true, decide_eq_true_eq]
 constructor
 ·rintro ⟨v, hv, e⟩
  obtain ⟨p, hp, rfl⟩ := List.mem_map.mp hv
  have : p = y := by first | exact of_decide_eq_true e | exact (of_decide_eq_true e).symm
  rw [← this]
  exact hp
 ·intro h
  exact ⟨.str y, List.mem_map_of_mem h, decide_eq_true rfl⟩
section
variable {P : Program} {w : World} {K : PySem.W.Frag} {mg : Str → Option Value} {base : Heap}
abbrev Xg : Stmt := top 32
abbrev Zay : List Str := ["_law_heap_here", "_law_told", "_law_begins_here", "_law_come_here"]
theorem scLJudged : Zt Zay ["_law_heap_here"] (Zk Xg) := ⟨rfl, rfl, rfl, by decide +kernel, rfl, by decide +kernel, by decide +kernel⟩
def Zcp : Sp := fun vs H Q _ => ∃ (v : V) (e0 : Str × Int) (es0 : Es) (L : Nat), vs = [v] ∧ HeapV H v (e0 :: es0) ∧ Hpy (e0 :: es0) L ∧ ∀ H', Same H H' → Q (.bl true) H'
theorem ZbT (D : HasDef K mg "_law_judged" Xg ["_law_heap_here"]) (B : Blt mg) (g26_ : FOk P w K mg base 5 "verdict" ["H"] X5) (g1_ : FOk P w K mg base 5 "_law_begins" ["_law_heap_here"] Za0) (g0_ : FOk P w K mg base 5 "_law_alike" ["_law_found", "_law_due"] (Zfw 2)) (g2_ : FOk P w K mg base 5 "_law_come" ["_law_heap_here"] ZgD) (g11_ : FOk P w K mg base 5 "_law_torn" ["_law_signs_here", "_law_long"] ZdE) : FOk P w K mg base 6 "_law_judged" ["_law_heap_here"] Zcp := by
 refine D.ok scLJudged (fun vs H Q E h => ?_) (fun f cdv A outer s H vs Q E hr h => ?_)
 ·obtain ⟨v, e0, es0, L, rfl, _⟩ := h
  rfl
 ·obtain ⟨v, e0, es0, L, rfl, hV, hF, k⟩ := h
  have hu := ZaE hr
  refine ⟨_, (Zc (Zm (i := 1) scLJudged.nd rfl (.inl rfl) (ZA g26_ hr (Za (pv 0) Zf)))
   (Zc (Z2 (PW.pt (Zc3 (Ja (YM (Zi Z5 rfl B.isi ZaQ (Za (pv 1) (Za (Zau rfl B.tuple Yf) Zf))))) (Zc3 (Zs Zej (Zi Zo rfl B.len ZR (Za (pv 1) Zf)) Ze (Zx _)) (Za5 (Ja (YM (Zi Z5 rfl B.isi ZaQ (Za (ZF ix_tup (pv 1) Ze (fun _ _ => rfl)) (Za (Zau rfl B.str Zgq) Zf))))))))) (Zh (Zq Xk)) Zy)
   (Zc (Zm (i := 2) scLJudged.nd rfl (.inl rfl) (ZA g1_ hr (Za (pv 0) Zf)))
   (Zc (Z2 (Zs Jh (Zi (Zbv rfl) rfl B.sum Zjq (Za (Yp (Zk Xg) Zay ["_law_point", "_law_more"] [] rfl (YH (pv 2)) (fun _ _ _ _ _ => Ye 2 K rfl (Zw (Xi 0) (Zw (Xi 1) Yd))) (fun _ _ _ _ _ => Je) (fun _ _ _ _ _ => (pv 1))) Zf)) Ze (Zx _)) (Zh (Zq (Jd (YB Xc (ZF ix_tup (pv 1) Ze (fun _ _ => rfl)) YO (Zx _)) (JP (ZA g0_ hr (Za (ZF ix_tup (pv 1) Ze (fun _ _ => rfl)) (Za (pv 2) Zf))))))) Zy)
   (Zc (Zm (i := 3) scLJudged.nd rfl (.inr rfl) (ZA g2_ hr (Za (pv 0) Zf)))
   (Zc (Z2 (Zs (Zcu hr.units) (Yp (Zk Xg) Zay ["_law_piece", "_law_many"] [3] rfl (YH (pv 0)) (fun _ _ _ _ _ => Ye 2 K rfl (Zw (Xi 0) (Zw (Xi 1) Yd))) (fun _ _ _ _ _ => ZbO (Zs (Zax K) (Zu ZQ (pv 0) ZD (ZB (Xj Yn Ze))) (pv 2) rfl)) (fun _ _ _ _ _ => (pv 0))) (ZU Zf) (Zx _)) (Zh (Zq (Jd (YB Xc (ZF ix_tup (pv 1) Ze (fun _ _ => rfl)) YO (Zx _)) (JP (ZA g0_ hr (Za (ZF ix_tup (pv 1) Ze (fun _ _ => rfl)) (Za (pv 3) Zf))))))) Zy)
   (Zc (Z2 (PW.pt (Zc3 (Zs Zej (ZF ix_tup (pv 1) Ze (fun _ _ => rfl)) YO (Zx _)) (Za5 (Ja (YM (Zi Z5 rfl B.isi ZaQ (Za (ZF ix_tup (pv 1) Ze (fun _ _ => rfl)) (Za (Zau rfl B.str Zgq) Zf)))))))) (Zh (Zq Xk)) Zy)
   (Zh (Zq (YB (ZiI hr.units) (ZO ZE rfl B.tuple Yf (Za (Zi (Yi rfl) rfl B.sorted Yj (Za (XT (ZA g11_ hr (Za (ZF ix_tup (pv 1) Ze (fun _ _ => rfl)) (Za (Zi Zo rfl B.len ZR (Za (ZF ix_tup (ZF ix_tup (pv 0) Ze (fun _ _ => rfl)) Ze (fun _ _ => rfl)) Zf)) Zf)))) Zf)) Zf)) (pv 0) (Zx _))))))))))), ?_⟩
  have hfew := hF.fine.few
  refine ⟨_, rfl, v, e0, es0, L, rfl, hV, hF, fun v' H1 s1 hver => ?_⟩
  obtain ⟨q, wd, x, ss, rfl, hq, hss, hcase⟩ := id hver
  have hssl := hss.pts.len
  refine ⟨_, rfl, .ref q, "tuple", "tuple", rfl, by decide, .tup hq, _, rfl, Yl (by decide) ?_⟩
  refine ⟨_, rfl, .ref q, _, rfl, .inr ⟨_, SqT.of hq, rfl⟩, rfl, _, rfl, Yl (by rw [Jp (show (([V.str wd, x].length : Nat) : Int) = 2 from rfl)]; rfl) ?_⟩
  refine ⟨_, rfl, q, _, 0, .str wd, rfl, rfl, SqT.of hq, rfl, .str wd, "str", "str", rfl, by decide, .str wd, _, rfl, Yl (by decide) ?_⟩
  have hV1 := hV.same s1
  refine ⟨_, rfl, v, _, rfl, hV1, hF.fine, fun vb H2 us s2 hvb hus hum => ?_⟩
  have eu := Zg7 hss hus hum
  rw [eu] at hvb
  obtain ⟨b1, b2, b3⟩ := Zab hF.fine (f := mo (e0 :: es0)) (fun _ => rfl) hss
  obtain ⟨qb, vbs, rfl, hqb, hpab⟩ := id hvb
  refine ⟨_, rfl, qb, rfl, ⟨_, SqT.of hqb⟩, ZgN rfl hqb hpab b3 fun D1 H3 s3 hD => ⟨D1, _, rfl, SqL.of hD, b1, b2, _, _, rfl, rfl, _, rfl, ?_⟩⟩
  show if decide (1 < sm (ups (mo (e0 :: es0)) ss)) = true then _ else _
  have s23 := s2.trans s3
  have hq3 := s23 _ _ hq
  by_cases c1 : 1 < sm (ups (mo (e0 :: es0)) ss)
  ·refine Yx (decide_eq_true c1) ?_
   rcases hcase with ⟨rfl, _, hx⟩ | ⟨_, c, _⟩ | ⟨_, c, _⟩
   ·refine ⟨_, rfl, q, _, 0, .str "begins", rfl, rfl, SqT.of hq3, rfl, rfl, _, rfl, Yx (by decide) ?_⟩
    refine ⟨_, rfl, q, _, 1, x, rfl, rfl, SqT.of hq3, rfl, _, rfl, 2, Nat.le_refl _, x, .ref qb, Za7 (ups (mo (e0 :: es0)) ss), rfl, Y2 (hx.same s23), Y2 (hvb.same s3), JV b3, fun H4 s4 => k _ ((s1.trans s23).trans s4)⟩
   ·exact absurd c1 c
   ·exact absurd c1 c
  refine Yl (decide_eq_false c1) ?_
  have hV3 := hV1.same s23
  refine ⟨_, rfl, v, e0, es0, rfl, hV3, hF.fine, fun vc H4 ps s4 hps hpsr hpl hpm => ?_⟩
  obtain ⟨qc, rfl, hqc⟩ := id hps
  have hV4 := hV3.same s4
  have s14 := (s1.trans s23).trans s4
  have hq4 := s4 _ _ hq3
  obtain ⟨qv, vs, rfl, hqv, hpa⟩ := id hV4
  have hvl := hpa.1
  have hhang : Zh8 e0 es0 ↔ ∀ e ∈ e0 :: es0, bg e.1 ∈ ps := ⟨fun h e he => (hpm _).mpr (h e he), fun h e he => (hpm _).mp (h e he)⟩
  refine ⟨_, rfl, qv, rfl, ⟨_, SqT.of hqv⟩, Zb4 vs.length (fun i => vs.getD i .non) (fun i => !decide (bg ((e0 :: es0).getD i ("", 0)).1 ∈ ps)) (fun i v _ => v = .str ((e0 :: es0).getD i ("", 0)).1) (Zl (by omega)) (fun _ _ _ _ _ r => r) (Zbh (SqT.of hqv)) ?_ ?_⟩
  ·intro i H5 Qt Qf hi hs ht hf
   have hie : i < (e0 :: es0).length := by omega
   obtain ⟨b, e1, e2⟩ := hpa.2 i (e0 :: es0)[i] (List.getElem?_eq_getElem hie)
   have ev : vs.getD i .non = .ref b := by rw [List.getD_eq_getElem?_getD, e1]; rfl
   have ee : (e0 :: es0).getD i ("", 0) = (e0 :: es0)[i] := by rw [List.getD_eq_getElem?_getD, List.getElem?_eq_getElem hie]; rfl
   obtain ⟨l1, l2⟩ := hF.fine.long (e0 :: es0)[i] (List.getElem_mem hie)
   rw [ee] at ht hf
   rw [ev]
   have eb := Xe l1
   refine ⟨b, _, rfl, SqT.of (hs _ _ e2), rfl, _, _, rfl, _, _, rfl, rfl, _, rfl, _, rfl, _, rfl, _, rfl, ZT l2, _, rfl, qc, _, rfl, .inr (SqT.of (hs _ _ hqc)), rfl, Zgj ps, _, rfl, ?_⟩
   rw [eb]
   show if (!inV (.str (bg (e0 :: es0)[i].1)) (ps.map V.str)) = true then _ else _
   rw [Zf8]
   by_cases c : bg (e0 :: es0)[i].1 ∈ ps
   ·exact Yl (by rw [decide_eq_true c]; rfl) (hf (by rw [decide_eq_true c]; rfl) _ (Same.refl _))
   ·exact Yx (by rw [decide_eq_false c]; rfl) ⟨_, rfl, ht (by rw [decide_eq_false c]; rfl) _ _ (Same.refl _) rfl⟩
  intro D2 vs2 H5 hl2 hR2 s5 hD2 hDl2
  obtain ⟨fs, rfl, hfs, hfl⟩ := Zfs hl2 (fun i hi => by have := List.mem_range.mp (List.mem_filter.mp hi).1; omega) hR2
  refine ⟨Zl (show 0 ≤ 1000 by decide), fun p0 hp0 => ?_⟩
  have s6 := Zb (o := .lst []) hp0
  refine ⟨.list (fs.map PyData.str), .list (([] : List Str).map PyData.str), Za4 (s6 _ _ hDl2), Za4 (ps := []) Zd, X7 (fun p hp => ?_), X7 (fun p hp => by cases hp), _, rfl, ?_⟩
  ·obtain ⟨e', he', rfl⟩ := hfs p hp
   exact Zcj (hF.cd e' he')
  rw [Zgm]
  have s56 := s5.trans s6
  have s16 := s14.trans s56
  have hq6 := s56 _ _ hq4
  have hqc6 := s56 _ _ hqc
  have hV6 := hV4.same s56
  generalize upd H5 p0 (.lst []) = H6 at s16 hq6 hqc6 hV6 s56
  have hemp : fs.isEmpty = true ↔ Zh8 e0 es0 := by
   rw [hhang, List.isEmpty_iff]
   constructor
   ·intro h e' he'
    obtain ⟨i, hi, rfl⟩ := List.mem_iff_getElem.mp he'
    rw [h] at hfl
    have h0 := List.filter_eq_nil_iff.mp (List.length_eq_zero_iff.mp hfl.symm) i (List.mem_range.mpr (by omega))
    rw [List.getD_eq_getElem?_getD, List.getElem?_eq_getElem hi, Option.getD_some] at h0
    refine Classical.byContradiction fun z => h0 ?_
    rw [decide_eq_false z]
    rfl
   ·intro h
    apply List.eq_nil_of_length_eq_zero
    rw [hfl, List.length_eq_zero_iff, List.filter_eq_nil_iff]
    intro i hi
    have hi' : i < (e0 :: es0).length := by have := List.mem_range.mp hi; omega
    rw [List.getD_eq_getElem?_getD, List.getElem?_eq_getElem hi', Option.getD_some, decide_eq_true (h _ (List.getElem_mem hi'))]
    decide
  by_cases c2 : Zh8 e0 es0
  rotate_left
  ·have hf : fs.isEmpty = false := by
    cases hh : fs.isEmpty with
    | true => exact absurd (hemp.mp hh) c2
    | false => rfl
   refine Yx (by rw [hf]; rfl) ?_
   rcases hcase with ⟨_, c, _⟩ | ⟨rfl, _, _, ps2, hps2, hps2r, hps2l, hps2m⟩ | ⟨_, _, c, _⟩
   ·exact absurd c c1
   ·have ep : ps2 = ps := X4 hps2r hpsr fun y => by rw [hps2m, hpm]
    subst ep
    refine ⟨_, rfl, q, _, 0, .str "apart", rfl, rfl, SqT.of hq6, rfl, rfl, _, rfl, Yx (by decide) ?_⟩
    refine ⟨_, rfl, q, _, 1, x, rfl, rfl, SqT.of hq6, rfl, _, rfl, 1, by decide, x, .ref qc, .tuple (ps2.map PyData.str), rfl, XR (hps2.same ((s23.trans s4).trans s56)), XR ⟨qc, rfl, hqc6⟩, ZeX (by omega), fun H7 s7 => k _ (s16.trans s7)⟩
   ·exact absurd c c2
  refine Yl (by rw [hemp.mpr c2]; rfl) ?_
  rcases hcase with ⟨_, c, _⟩ | ⟨_, _, c, _⟩ | ⟨rfl, _, _, b, X, rfl, hb, hX, hE, hbl⟩
  ·exact absurd c c1
  ·exact absurd c2 c
  refine ⟨_, rfl, q, _, 0, .str "text", rfl, rfl, SqT.of hq6, rfl, rfl, _, rfl, Yl (by decide) ?_⟩
  refine ⟨_, rfl, q, _, 1, .str (tx (spell (e0 :: es0) b X)), rfl, rfl, SqT.of hq6, rfl, .str (tx (spell (e0 :: es0) b X)), "str", "str", rfl, by decide, .str _, _, rfl, Yl (by decide) ?_⟩
  have hfp := ZeY hF
  have hperm := ZcX hF.l1 (ZeZ hF) hE hbl hfp
  have hXl : X.length = (Zv (e0 :: es0)).length := by rw [hE.1.length_eq, List.length_range, Yc]
  have hsl : (spell (e0 :: es0) b X).length = L - 1 + X.length := by
   unfold spell
   rw [List.length_append, List.length_map, Z3, hbl]
  have hl1 := hF.l1
  have hl3 := hF.l3
  have htot := hF.tot
  generalize spell (e0 :: es0) b X = z at *
  obtain ⟨qv', vs', eqv', hqv6, hpa6⟩ := id hV6
  cases eqv'
  obtain ⟨b0, f1, f2⟩ := hpa6.2 0 e0 rfl
  obtain ⟨l1, l2⟩ := hF.fine.long e0 (List.mem_cons_self ..)
  have hlen0 := hF.len e0 (List.mem_cons_self ..)
  refine ⟨_, rfl, q, _, 1, .str (tx z), rfl, rfl, SqT.of hq6, rfl, _, rfl, qv, vs', 0, .ref b0, rfl, rfl, SqT.of hqv6, YR (by decide) f1, b0, _, 0, .str e0.1, rfl, rfl, SqT.of f2, rfl, .str e0.1, e0.1.length, rfl, ⟨ZT l2, rfl⟩, z, e0.1.length, rfl, l1, by omega, by omega, fun d H7 ks hd s7 hdd hk => ?_⟩
  rw [hlen0] at hdd hk
  have hpl2 := hk.len
  rw [hperm.length_eq] at hpl2
  refine ⟨d, _, rfl, hdd, fun p2 hp2 => ⟨p2, d, ks, fun x => .int (cnt (pcs z L) x), rfl, Zd, Zb hp2 _ _ hdd, hk.nd, by omega, fun D3 H10 vs3 ss3 s10 hpm3 hsrt3 hD3 hvl3 hv3 => ⟨D3, vs3, rfl, .inl ⟨SqL.of hD3, fun q3 hq3' => ?_⟩⟩⟩⟩
  have s11 := Zb (o := .tup vs3) hq3'
  have hVn : HeapV (upd H10 q3 (.tup vs3)) (.ref q3) (ss3.map fun x => (x, cnt (pcs z L) x)) := ⟨q3, vs3, rfl, Zd, (Zaw hvl3 hv3).same s11.tup⟩
  rw [ZeR hF hperm hk hpm3 hsrt3] at hVn
  have s711 := ((s7.trans (Zb hp2)).trans s10).trans s11
  have hsh := Za2 hF.cd
  refine ⟨_, rfl, Za7 (e0 :: es0), Za7 (e0 :: es0), Y2 hVn, Y2 (hV6.same s711), hsh, hsh, ?_⟩
  rw [Zji hsh]
  exact k _ (s16.trans s711)
end
theorem ZiD {z : List Nat} {L : Nat} (h : Cd z) : ∀ x ∈ pcs z L, Cd x.cps.toList := fun x hx => by
 unfold pcs at hx
 obtain ⟨i, _, rfl⟩ := List.mem_map.mp hx
 rw [ZI]
 exact fun c hc => h c (List.mem_of_mem_drop (List.mem_of_mem_take hc))
theorem ZfM {z : List Nat} {L : Nat} (h1 : 1 ≤ L) (h2 : L ≤ z.length) : ∀ x ∈ pcs z L, x.length = L := fun x hx => by
 unfold pcs at hx
 obtain ⟨i, hi, rfl⟩ := List.mem_map.mp hx
 have := List.mem_range.mp hi
 rw [Zz, List.length_take, List.length_drop]
 omega
def tN (ks : List Str) (g : Str → Int) : Nat := (ks.map fun x => (g x).toNat).sum
theorem ZK (x : Str) (ks : List Str) (g : Str → Int) : tN (x :: ks) g = (g x).toNat + tN ks g := by
 unfold tN
 rw [List.map_cons, List.sum_cons]
theorem ZaX (ks ls : List Str) (g : Str → Int) : tN (ks ++ ls) g = tN ks g + tN ls g := by
 unfold tN
 rw [List.map_append, List.sum_append]
theorem ZbE {ks ls : List Str} (h : ks.Perm ls) (g : Str → Int) : tN ks g = tN ls g := by
 induction h with
 | nil => rfl
 | cons x _ ih => rw [ZK, ZK, ih]
 | swap x y l => rw [ZK, ZK, ZK, ZK]; omega
 | trans _ _ a b => exact a.trans b
theorem Zhd {ks : List Str} {g g' : Str → Int} (h : ∀ x ∈ ks, g' x ≤ g x) : tN ks g' ≤ tN ks g := by
 induction ks with
 | nil => exact Nat.le_refl _
 | cons x ks ih =>
  rw [ZK, ZK]
  have h1 := h x (List.mem_cons_self ..)
  have h2 := ih fun y hy => h y (List.mem_cons_of_mem _ hy)
  omega
theorem ZaW {ks : List Str} {g : Str → Int} (p : Str → Bool) : tN (ks.filter p) g ≤ tN ks g := by
 induction ks with
 | nil => exact Nat.le_refl _
 | cons x ks ih =>
  rw [List.filter_cons]
  split
  ·rw [ZK, ZK]; omega
  ·rw [ZK]; omega
theorem Zig {ks : List Str} {g : Str → Int} {x : Str} (h : x ∈ ks) : (g x).toNat ≤ tN ks g := by
 induction ks with
 | nil => cases h
 | cons y ks ih =>
  rw [ZK]
  rcases List.mem_cons.mp h with z | z
  ·rw [z]; omega
  ·have := ih z; omega
theorem Zih {ks : List Str} {g : Str → Int} (h : ∀ x ∈ ks, 1 ≤ g x) : ks.length ≤ tN ks g := by
 induction ks with
 | nil => exact Nat.zero_le _
 | cons y ks ih =>
  rw [ZK, List.length_cons]
  have h1 := h y (List.mem_cons_self ..)
  have h2 := ih fun x hx => h x (List.mem_cons_of_mem _ hx)
  omega
theorem Zdx {o : Str} {n : Int} {g : Str → Int} (h0 : 0 ≤ g o) (hn : g o ≤ n) : ∀ {ks : List Str}, ks.Nodup → tN ks (fun x => if x = o then n else g x) ≤ tN ks g + (n - g o).toNat
 | [], _ => by show 0 ≤ _; omega
 | y :: ks, nd => by
  have nd' := List.nodup_cons.mp nd
  rw [ZK, ZK]
  by_cases c : y = o
  ·subst c
   rw [if_pos rfl]
   have : tN ks (fun x => if x = y then n else g x) ≤ tN ks g := Zhd fun x hx => by
    rw [if_neg (fun e : x = y => nd'.1 (e ▸ hx))]
    exact Int.le_refl _
   omega
  ·rw [if_neg c]
   have := Zdx h0 hn nd'.2
   omega
theorem Zgk (ss : List Str) (g : Str → Int) : (Zv (ss.map fun x => (x, g x))).length = tN ss g := by
 induction ss with
 | nil => rfl
 | cons x ss ih =>
  rw [List.map_cons, Y3, List.length_append, List.length_replicate, ih, ZK]
structure DG (ks : List Str) (g : Str → Int) (L : Nat) : Prop where
 nd : ks.Nodup
 len : ∀ x ∈ ks, x.length = L
 pos : ∀ x ∈ ks, 1 ≤ g x
 zero : ∀ x, x ∉ ks → g x = 0
 cd : ∀ x ∈ ks, Cd x.cps.toList
 tot : tN ks g ≤ 301
 l1 : 1 ≤ L
 l3 : L ≤ 300
theorem DG.few {ks : List Str} {g : Str → Int} {L : Nat} (h : DG ks g L) : ks.length ≤ 301 := Nat.le_trans (Zih h.pos) h.tot
theorem DG.hpy {ks ss : List Str} {g : Str → Int} {L : Nat} (h : DG ks g L) (hne : ks ≠ []) (p : ss.Perm ks) (hs : (ss.map fun x => x.cps.toList).Pairwise (· < ·)) : Hpy (ss.map fun x => (x, g x)) L := by
 have hm : ∀ e ∈ ss.map fun x => (x, g x), e.1 ∈ ks ∧ e.2 = g e.1 := fun e he => by
  obtain ⟨x, hx, rfl⟩ := List.mem_map.mp he
  exact ⟨p.mem_iff.mp hx, rfl⟩
 have hl1 := h.l1
 have hl3 := h.l3
 have htot := h.tot
 refine ⟨⟨by rw [List.length_map, p.length_eq]; exact h.few, fun e he => ?_, fun e he => ?_⟩, fun z => ?_, fun e he => h.len _ (hm e he).1, h.l1, h.l3, fun e he => ?_, ?_, ?_, fun e he => h.cd _ (hm e he).1⟩
 ·obtain ⟨h1, h2⟩ := hm e he
  rw [h2]
  have := h.pos _ h1
  have := Zig (g := g) h1
  omega
 ·have := h.len _ (hm e he).1
  omega
 ·have := congrArg List.length z
  rw [List.length_map, p.length_eq] at this
  exact hne (List.length_eq_zero_iff.mp this)
 ·rw [(hm e he).2]
  exact h.pos _ (hm e he).1
 ·rw [Zgk, ZbE p]
  omega
 ·rw [List.map_map, List.map_map]
  exact hs
theorem DG.gone {ks : List Str} {g : Str → Int} {L : Nat} (h : DG ks g L) (o : Str) : DG (ks.filter fun x => decide (x ≠ o)) (fun x => if x = o then 0 else g x) L := by
 have hm : ∀ x, x ∈ (ks.filter fun x => decide (x ≠ o)) ↔ x ∈ ks ∧ x ≠ o := fun x => by rw [List.mem_filter]; simp
 refine ⟨h.nd.filter _, fun x hx => h.len x ((hm x).mp hx).1, fun x hx => ?_, fun x hx => ?_, fun x hx => h.cd x ((hm x).mp hx).1, Nat.le_trans (Nat.le_trans (ZaW _) (Zhd fun x hx => ?_)) h.tot, h.l1, h.l3⟩
 ·show 1 ≤ if x = o then 0 else g x
  rw [if_neg ((hm x).mp hx).2]
  exact h.pos x ((hm x).mp hx).1
 ·show (if x = o then 0 else g x) = 0
  by_cases c : x = o
  ·rw [if_pos c]
  ·rw [if_neg c]
   exact h.zero x fun z => hx ((hm x).mpr ⟨z, c⟩)
 ·show (if x = o then 0 else g x) ≤ g x
  have := h.pos x hx
  by_cases c : x = o
  ·rw [if_pos c]; omega
  ·rw [if_neg c]; exact Int.le_refl _
theorem DG.nn {ks : List Str} {g : Str → Int} {L : Nat} (h : DG ks g L) (x : Str) : 0 ≤ g x := by
 by_cases c : x ∈ ks
 ·have := h.pos x c; omega
 ·rw [h.zero x c]; exact Int.le_refl _
theorem DG.more {ks : List Str} {g : Str → Int} {L : Nat} (h : DG ks g L) {o : Str} {n : Int} (ol : o.length = L) (oc : Cd o.cps.toList) (hn : g o < n) (ht : tN ks g + (n - g o).toNat ≤ 301) : DG (ZV ks o) (fun x => if x = o then n else g x) L := by
 have h0 := h.nn o
 have hadd : tN (ZV ks o) (fun x => if x = o then n else g x) ≤ tN ks g + (n - g o).toNat := by
  have := Zdx h0 (Int.le_of_lt hn) (YV (x := o) h.nd)
  refine Nat.le_trans this ?_
  have e : tN (ZV ks o) g = tN ks g := by
   unfold ZV
   split
   ·rfl
   ·rename_i c
    rw [ZaX, ZK, h.zero o c]
    rfl
  rw [e]
  exact Nat.le_refl _
 refine ⟨YV h.nd, fun x hx => ?_, fun x hx => ?_, fun x hx => ?_, fun x hx => ?_, Nat.le_trans hadd ht, h.l1, h.l3⟩
 ·rcases addK_mem.mp hx with z | z
  ·exact h.len x z
  ·rw [z]; exact ol
 ·show 1 ≤ if x = o then n else g x
  by_cases c : x = o
  ·rw [if_pos c]; omega
  ·rw [if_neg c]
   exact h.pos x ((addK_mem.mp hx).resolve_right c)
 ·rw [addK_mem, not_or] at hx
  show (if x = o then n else g x) = 0
  rw [if_neg hx.2]
  exact h.zero x hx.1
 ·rcases addK_mem.mp hx with z | z
  ·exact h.cd x z
  ·rw [z]; exact oc
theorem Zgw {ws : List Str} : ∀ {ks : List Str}, ks.Nodup → (∀ x ∈ ws, x ∈ ks) → tN ks (cnt ws) = ws.length := by
 induction ws with
 | nil =>
  intro ks nd _
  induction ks with
  | nil => rfl
  | cons x ks ih => rw [ZK, ih (List.nodup_cons.mp nd).2 (fun x hx => by cases hx)]; rfl
 | cons w ws ih =>
  intro ks nd hm
  have hw := hm w (List.mem_cons_self ..)
  have ih' := ih nd fun x hx => hm x (List.mem_cons_of_mem _ hx)
  have p := List.perm_cons_erase hw
  have e1 : tN ks (cnt (w :: ws)) = tN (w :: ks.erase w) (cnt (w :: ws)) := ZbE p _
  have e2 : tN ks (cnt ws) = tN (w :: ks.erase w) (cnt ws) := ZbE p _
  have nd2 := p.nodup_iff.mp nd
  have nd3 := List.nodup_cons.mp nd2
  have e3 : tN (ks.erase w) (cnt (w :: ws)) = tN (ks.erase w) (cnt ws) := by
   unfold tN
   congr 1
   refine List.map_congr_left fun x hx => ?_
   unfold cnt
   rw [List.count_cons_of_ne (fun e : w = x => nd3.1 (e ▸ hx))]
  rw [e2, ZK] at ih'
  rw [e1, ZK, e3, List.length_cons]
  have e4 : cnt (w :: ws) w = cnt ws w + 1 := by
   unfold cnt
   rw [List.count_cons_self]
   push_cast
   rfl
  have : 0 ≤ cnt ws w := by unfold cnt; omega
  rw [e4]
  omega
theorem Zha {z : List Nat} {L : Nat} {ks : List Str} (h1 : 1 ≤ L) (h2 : L ≤ z.length) (h3 : z.length ≤ 300) (hc : Cd z) (hk : Zjz (pcs z L) ks) : DG ks (cnt (pcs z L)) L where
 nd := hk.nd
 len := fun x hx => ZfM h1 h2 x ((hk.mem x).mp hx)
 pos := fun x hx => by
  unfold cnt
  have := List.count_pos_iff.mpr ((hk.mem x).mp hx)
  omega
 zero := fun x hx => by
  unfold cnt
  rw [List.count_eq_zero_of_not_mem fun q => hx ((hk.mem x).mpr q)]
  rfl
 cd := fun x hx => ZiD hc x ((hk.mem x).mp hx)
 tot := by
  rw [Zgw hk.nd fun x hx => (hk.mem x).mpr hx, Jf]
  omega
 l1 := h1
 l3 := by omega
def SB (D : Addr) (H H' : Hp) : Prop := ∀ b u, b ≠ D → H b = some u → H' b = some u
theorem SB.refl (D : Addr) (H : Hp) : SB D H H := fun _ _ _ e => e
theorem SB.trans {D : Addr} {H H1 H2 : Hp} (a : SB D H H1) (b : SB D H1 H2) : SB D H H2 := fun c u hc e => b c u hc (a c u hc e)
theorem ZfE {D : Addr} {H H' : Hp} (s : Same H H') : SB D H H' := fun b u _ e => s b u e
theorem SB.upd {D : Addr} {H : Hp} {o : HO} : SB D H (upd H D o) := fun b u hb e => by rw [Zg hb]; exact e
def DK (H : Hp) (D : Addr) (n : Nat) : Prop := ∃ ns : List Int, H D = some (.lst (ns.map V.int)) ∧ n ≤ ns.length ∧ ∀ x ∈ ns, 0 ≤ x ∧ x < 10 ^ 18
theorem DK.same {H H' : Hp} {D : Addr} {n : Nat} (h : DK H D n) (s : Same H H') : DK H' D n := by
 obtain ⟨ns, e, r⟩ := h
 exact ⟨ns, s _ _ e, r⟩
theorem DK.less {H : Hp} {D : Addr} {n m : Nat} (h : DK H D n) (hm : m ≤ n) : DK H D m := by
 obtain ⟨ns, e, r, t⟩ := h
 exact ⟨ns, e, by omega, t⟩
theorem DK.pop {H : Hp} {D : Addr} {n : Nat} (h : DK H D (n + 1)) : ∃ (ns : List Int) (c : Int), H D = some (.lst ((ns ++ [c]).map V.int)) ∧ 0 ≤ c ∧ c < 10 ^ 18 ∧ DK (upd H D (.lst (ns.map V.int))) D n := by
 obtain ⟨ns, e, l, b⟩ := h
 rcases List.eq_nil_or_concat ns with z | ⟨r, c, z⟩
 ·rw [z] at l
  simp at l
 ·rw [List.concat_eq_append] at z
  subst z
  have hc := b c (by simp)
  rw [List.length_append, List.length_singleton] at l
  exact ⟨r, c, e, hc.1, hc.2, r, Zd, by omega, fun x hx => b x (List.mem_append_left _ hx)⟩
theorem ZW (ns : List Int) (c : Int) : ((ns ++ [c]).map V.int)[((ns ++ [c]).map V.int).length - 1]? = some (V.int c) := by
 rw [List.map_append, List.map_singleton]
 simp
theorem ZX (ns : List Int) (c : Int) : ((ns ++ [c]).map V.int).dropLast = ns.map V.int := by
 rw [List.map_append, List.map_singleton, List.dropLast_concat]
theorem Zcq {H : Hp} : ∀ ns : List Int, RepA H (ns.map PyData.int) (ns.map V.int)
 | [] => by rw [List.map_nil, RepA]; rfl
 | p :: ps => by
  rw [List.map_cons, RepA]
  exact ⟨.int p, ps.map V.int, rfl, by rw [RepD], Zcq ps⟩
theorem Yv {H : Hp} {a : Addr} {ns : List Int} (h : H a = some (.lst (ns.map V.int))) : RepD H (.list (ns.map PyData.int)) (.ref a) := by
 rw [RepD]
 exact ⟨a, _, rfl, h, Zcq ns⟩
theorem ZcG : ∀ ns : List Int, PyData.canLayAll0 (ns.map PyData.int) = true
 | [] => by simp [PyData.canLayAll0]
 | p :: ps => by
  rw [List.map_cons, PyData.canLayAll0, ZcG ps]
  simp [PyData.canLay0]
theorem JY : ∀ ns : List Int, PyData.depthAll (ns.map PyData.int) ≤ 1
 | [] => by simp [PyData.depthAll]
 | p :: ps => by
  rw [List.map_cons, PyData.depthAll]
  have := JY ps
  simp [PyData.depth]
  exact this
theorem Z6 (ns : List Int) : SeqAt.shaped (.list (ns.map PyData.int)) = true := by
 unfold SeqAt.shaped
 rw [Bool.and_eq_true]
 constructor
 ·rw [PyData.canLay0]
  exact ZcG ns
 ·refine decide_eq_true ?_
  have := JY ns
  rw [PyData.depth]
  omega
theorem ZaJ (ns : List Int) : PyData.eqv (.list (ns.map PyData.int)) (.list (([] : List Int).map PyData.int)) = ns.isEmpty := by
 cases ns with
 | nil => simp [PyData.eqv, PyData.eqvAll]
 | cons n r => simp [PyData.eqv, PyData.eqvAll]
theorem ZcY {z : List Nat} {i : Int} (h0 : 0 ≤ i) (h1 : i ≤ z.length) : Txt.slice (tx z) (some i) none = tx (z.drop i.toNat) := by
 apply Z4
 rw [YF h0 (by rw [Zz]; exact h1), ZI, ZI]
section
variable {P : Program} {w : World} {K : PySem.W.Frag} {mg : Str → Option Value} {base : Heap}
abbrev ZbL : Stmt := top 21
abbrev ZhG : List Str := ["_law_row", "_law_k", "_law_cell"]
theorem scLMixed : Zt ZhG ["_law_row", "_law_k"] (Zk ZbL) := ⟨rfl, rfl, rfl, by decide +kernel, rfl, by decide +kernel, by decide +kernel⟩
def ZdH : Sp := fun vs H Q _ => ∃ (r : Addr) (ns : List Int) (k : Int), vs = [.ref r, .int k] ∧ H r = some (.lst (ns.map V.int)) ∧ ns.length ≤ 63 ∧ 0 ≤ k ∧ k < 1000 ∧ ∀ n H', 0 ≤ n → n < 2147483629 → Same H H' → Q (.int n) H'
theorem Zda (D : HasDef K mg "_law_mixed" ZbL ["_law_row", "_law_k"]) (B : Blt mg) : FOk P w K mg base 1 "_law_mixed" ["_law_row", "_law_k"] ZdH := by
 refine D.ok scLMixed (fun vs H Q E h => ?_) (fun f cdv A outer s H vs Q E hr h => ?_)
 ·obtain ⟨r, ns, k, rfl, _⟩ := h
  rfl
 ·obtain ⟨r, ns, k, rfl, hr0, hn, k0, k1, kk⟩ := h
  refine ⟨_, (Zc (Zm (i := 2) scLMixed.nd rfl (.inl rfl) (Zn ZP (Zn Xl Ze (pv 1)) Ze))
   (Zc (Z2 (Zs (Zcu hr.units) (pv 0) (ZU Zf) (Zx _)) (Zh (Zm (i := 2) scLMixed.nd rfl (.inl rfl) (Zn ZP (Zn ZP (Zn ZC (ZF ix_list (pv 0) (Zn ZC (pv 1) (Zi Zo rfl B.len ZR (Za (pv 0) Zf))) (fun _ _ => rfl)) Ze) (Zn Xl (Zn Z7 (pv 1) (Zi Zo rfl B.len ZR (Za (pv 0) Zf))) Ze)) Ze))) Zy)
   (Zc (Zm (i := 2) scLMixed.nd rfl (.inl rfl) (Zn ZC (Zn ZP (Zn ZP (Zn Xl (pv 2) Ze) (Zn Xl (Zn Xl (pv 1) (pv 1)) Ze)) Ze) Ze))
   (Zh (Zq (Zn ZC (Zn ZP (Zn ZP (Zn Xl (pv 2) (pv 2)) (Zn Xl (Zn Xl (Zn Xl (pv 1) (pv 1)) (pv 1)) Ze)) Ze) Ze)))))), ?_⟩
  refine ⟨_, rfl, _, _, rfl, rfl, .inl ⟨by decide, by decide⟩, _, _, rfl, rfl, ?_⟩
  dsimp only
  refine ZZ (fun σ H2 => Same H H2 ∧ ∃ c : Int, σ = [some (.ref r), some (.int k), some (.int c)]) (fun R hR => ?_) ?_
  ·refine ⟨_, rfl, Zl (show 0 ≤ 1000 by decide), fun p0 hp0 => ?_⟩
   have s0 := Zb (o := .lst []) hp0
   have hr1 := s0 _ _ hr0
   refine ⟨.list (ns.map PyData.int), .list (([] : List Int).map PyData.int), Yv hr1, Yv (ns := []) Zd, Z6 ns, Z6 [], _, rfl, ?_⟩
   rw [ZaJ]
   cases ns with
   | nil => exact Yl rfl (hR _ _ ⟨s0, _, rfl⟩)
   | cons x xs =>
    refine Yx rfl ?_
    have hms : (x :: xs).length ≠ 0 := by simp
    generalize x :: xs = ms at *
    generalize upd H p0 (.lst []) = H1 at s0 hr1
    have hlp : (0 : Int) < ((ms.map V.int).length : Int) := by rw [List.length_map]; omega
    have mb := ZJ k hlp
    have hat := Zb2 (ns := ms) (i := k % ((ms.map V.int).length : Int)) mb.1 (by have := mb.2; rw [List.length_map] at this ⊢; exact this)
    refine ⟨_, rfl, _, rfl, _, rfl, .ref r, _, rfl, .inl ⟨_, SqL.of hr1, rfl⟩, _, _, rfl, rfl, hlp, r, _, _, _, rfl, rfl, SqL.of hr1, hat, _, _, rfl, rfl, (by show (0 : Int) < 2147483629; decide), _, rfl, _, rfl, .ref r, _, rfl, .inl ⟨_, SqL.of hr1, rfl⟩, _, _, rfl, rfl, ⟨hlp, by rw [List.length_map]; omega⟩, _, _, rfl, rfl, .inr ⟨by decide, by decide⟩, _, _, rfl, rfl, _, _, rfl, rfl, ?_⟩
    exact hR _ _ ⟨s0, _, rfl⟩
  rintro σ H2 ⟨s2, c, rfl⟩
  refine ⟨_, rfl, _, _, rfl, rfl, .inr ⟨by decide, by decide⟩, _, rfl, _, rfl, _, _, rfl, rfl, .inl ⟨by omega, by omega⟩, _, _, rfl, rfl, .inr ⟨by decide, by decide⟩, _, _, rfl, rfl, _, _, rfl, rfl, _, _, rfl, rfl, (by show (0 : Int) < 2147483647; decide), ?_⟩
  have m1 := ZJ (c * 48271 + k * k * 16807 + 3) (show (0 : Int) < 2147483647 by decide)
  dsimp only
  generalize (c * 48271 + k * k * 16807 + 3) % 2147483647 = c2 at m1
  have m2 := ZJ (c2 * c2 + k * k * k * 69621 + 5) (show (0 : Int) < 2147483629 by decide)
  refine ⟨_, rfl, _, rfl, _, _, rfl, rfl, .inl ⟨by omega, by omega⟩, _, rfl, _, rfl, _, _, rfl, rfl, .inl ⟨by omega, by omega⟩, _, rfl, _, _, rfl, rfl, .inr ⟨by omega, by omega⟩, _, _, rfl, rfl, .inr ⟨by decide, by decide⟩, _, _, rfl, rfl, _, _, rfl, rfl, _, _, rfl, rfl, (by show (0 : Int) < 2147483629; decide), ?_⟩
  exact kk _ _ m2.1 m2.2 s2
abbrev X9 : Stmt := top 23
abbrev Zex : List Str := ["_law_deck_here", "_law_few", "_law_some", "_law_number", "_law_found", "_law_k", "_law_at"]
theorem scLLetters : Zt Zex ["_law_deck_here", "_law_few"] (Zk X9) := ⟨rfl, rfl, rfl, by decide +kernel, rfl, by decide +kernel, by decide +kernel⟩
def ZdI : Sp := fun vs H Q _ => ∃ (D : Addr) (few n : Nat), vs = [.ref D, .int few] ∧ 2 ≤ few ∧ few ≤ 26 ∧ DK H D (n + 1) ∧ ∀ (z : List Nat) H', SB D H H' → DK H' D n → z.length = few → Cd z → Q (.str (tx z)) H'
theorem Zju : ("abcdefghijklmnopqrstuvwxyz" : Str) = tx ((List.range 26).map (· + 97)) := by decide +kernel
theorem Zba (D : HasDef K mg "_law_letters" X9 ["_law_deck_here", "_law_few"]) (B : Blt mg) : FOk P w K mg base 1 "_law_letters" ["_law_deck_here", "_law_few"] ZdI := by
 refine D.ok scLLetters (fun vs H Q E h => ?_) (fun f cdv A outer s H vs Q E hr h => ?_)
 ·obtain ⟨D, few, n, rfl, _⟩ := h
  rfl
 ·obtain ⟨Dk, few, n, rfl, f2, f26, hD, k⟩ := h
  refine ⟨_, (Zc (Zm (i := 2) scLLetters.nd rfl (.inl rfl) YO)
   (Zc (Zm (i := 3) scLLetters.nd rfl (.inl rfl) (Ym F.plainAttrs_list F.slot_list_pop F.type_list_pop Z0 (pv 0)))
   (Zc (Zm (i := 4) scLLetters.nd rfl (.inl rfl) YO)
   (Zc (Yo PassesOwn.never rfl (YN rfl B.range (Za (Zi (Xq rfl) rfl B.min Zgr (Za (pv 1) (Za Ze Zf))) Zf)) (ZL (i := 5) scLLetters.nd rfl (.inl rfl))
    (Zc (Zm (i := 6) scLLetters.nd rfl (.inl rfl) (Zn ZC (pv 3) (Zi Zo rfl B.len ZR (Za (pv 2) Zf))))
   (Zc (Zm (i := 4) scLLetters.nd rfl (.inl rfl) (Zn Z8 (pv 4) (ZF ZcJ (pv 2) (pv 6) (fun _ _ => rfl))))
   (Zc (Zm (i := 3) scLLetters.nd rfl (.inl rfl) (Zn Z7 (pv 3) (Zi Zo rfl B.len ZR (Za (pv 2) Zf))))
   (Zh (Zm (i := 2) scLLetters.nd rfl (.inl rfl) (Zn Z8 (Zu ZQ (pv 2) ZD (ZB (pv 6))) (Zu ZQ (pv 2) (ZB (Zn ZP (pv 6) Ze)) ZD))))))))
   (Zh (Zq (Zn Z8 (pv 4) (Zu ZQ (pv 2) ZD (ZB (Zn XI (pv 1) (Zi Zo rfl B.len ZR (Za (pv 4) Zf)))))))))))), ?_⟩
  obtain ⟨ns, c, hDn, c0, c1, hD2⟩ := hD.pop
  refine ⟨_, rfl, .inl ⟨rfl, _, SqL.of hDn⟩, Dk, _, .int c, rfl, rfl, hDn, ZW ns c, ?_⟩
  rw [ZX]
  have sb : SB Dk H (upd H Dk (.lst (ns.map V.int))) := SB.upd
  generalize upd H Dk (.lst (ns.map V.int)) = H1 at sb hD2
  rw [Zju]
  have hmn : (if (6 : Int) < (few : Int) then (6 : Int) else (few : Int)).toNat = min few 6 := by split <;> omega
  refine ⟨_, rfl, _, 6, rfl, _, rfl, by split <;> omega, by split <;> omega, ?_⟩
  rw [hmn]
  refine YS (n := min few 6) (fun i σ H2 => H2 = H1 ∧ ∃ (y x : List Nat) (nb : Int) (z5 z6 : Option V), σ = [some (.ref Dk), some (.int few), some (.str (tx y)), some (.int nb), some (.str (tx x)), z5, z6] ∧ y.length = 26 - i ∧ x.length = i ∧ Cd y ∧ Cd x)
   ⟨rfl, (List.range 26).map (· + 97), [], c, none, none, rfl, by simp, rfl, fun c hc => by obtain ⟨j, hj, rfl⟩ := List.mem_map.mp hc; have := List.mem_range.mp hj; omega, fun c hc => by cases hc⟩ ?_ ?_
  ·rintro i σ H2 hi ⟨rfl, y, x, nb, z5, z6, rfl, hy, hx, yc, xc⟩
   have hlp : (0 : Int) < ((tx y).length : Int) := by rw [Zz]; omega
   have hlen : ∀ H', Zia K (.str (tx y)) H' (tx y).length := fun H' => ⟨ZM (by omega), rfl⟩
   have mb := ZJ nb hlp
   refine ⟨_, rfl, _, rfl, .str (tx y), _, rfl, hlen _, _, _, rfl, rfl, hlp, ?_⟩
   dsimp only
   generalize nb % ((tx y).length : Int) = a_ at mb
   rw [Zz] at mb
   refine ⟨_, rfl, _, rfl, _, rfl, tx y, _, _, rfl, rfl, ZM (by omega), Zff mb.1 (by omega), _, _, rfl, rfl, ?_, ?_⟩
   ·rw [Zz]
    exact Zl (by show x.length + 1 ≤ 1000; omega)
   rw [show ({ cps := #[y.getD a_.toNat 0] } : Str) = tx [y.getD a_.toNat 0] from rfl, X1]
   refine ⟨_, rfl, _, rfl, .str (tx y), _, rfl, hlen _, _, _, rfl, rfl, ⟨hlp, by rw [Zz]; omega⟩, ?_⟩
   refine ⟨_, rfl, _, rfl, _, rfl, _, rfl, ZM (by omega), _, rfl, _, rfl, _, _, rfl, rfl, _, rfl, _, rfl, ZM (by omega), ?_⟩
   rw [ZS mb.1, ZcY (by omega) (by omega)]
   refine ⟨_, _, rfl, rfl, ?_, ?_⟩
   ·rw [Zz, Zz, List.length_take, List.length_drop]
    exact Zl (by omega)
   rw [X1]
   refine ⟨rfl, _, _, _, _, _, rfl, ?_, by rw [List.length_append, hx]; rfl, fun c hc => ?_, fun c hc => ?_⟩
   ·rw [List.length_append, List.length_take, List.length_drop]
    omega
   ·rcases List.mem_append.mp hc with q | q
    ·exact yc c (List.mem_of_mem_take q)
    ·exact yc c (List.mem_of_mem_drop q)
   ·rcases List.mem_append.mp hc with q | q
    ·exact xc c q
    ·rw [List.mem_singleton.mp q]
     refine yc _ ?_
     rw [List.getD_eq_getElem?_getD, List.getElem?_eq_getElem (by omega)]
     exact List.getElem_mem _
  ·rintro σ H2 ⟨rfl, y, x, nb, z5, z6, rfl, hy, hx, yc, xc⟩
   refine ⟨_, rfl, _, rfl, _, rfl, _, rfl, .str (tx x), _, rfl, ⟨ZM (by omega), rfl⟩, _, _, rfl, rfl, _, rfl, _, rfl, ZM (by omega), ?_⟩
   rw [ZS (by rw [Zz]; omega)]
   refine ⟨_, _, rfl, rfl, ?_, ?_⟩
   ·rw [Zz, Zz, List.length_take]
    exact Zl (by omega)
   rw [X1]
   refine k _ _ sb hD2 ?_ fun c hc => ?_
   ·rw [List.length_append, List.length_take, Zz]
    omega
   ·rcases List.mem_append.mp hc with q | q
    ·exact xc c q
    ·exact yc c (List.mem_of_mem_take q)
abbrev ZbK : Stmt := top 24
abbrev ZhF : List Str := ["_law_deck_here", "_law_some", "_law_long", "_law_made", "_law_number", "_law_k"]
theorem scLSigns : Zt ZhF ["_law_deck_here", "_law_some", "_law_long"] (Zk ZbK) := ⟨rfl, rfl, rfl, by decide +kernel, rfl, by decide +kernel, by decide +kernel⟩
def Zae : Sp := fun vs H Q _ => ∃ (D : Addr) (y : List Nat) (L n : Nat), vs = [.ref D, .str (tx y), .int L] ∧ 1 ≤ y.length ∧ y.length ≤ 100 ∧ Cd y ∧ L ≤ 300 ∧ DK H D (n + (L + 11) / 12) ∧ ∀ (z : List Nat) H', SB D H H' → DK H' D n → z.length = L → Cd z → Q (.str (tx z)) H'
theorem Zc9 (D : HasDef K mg "_law_signs" ZbK ["_law_deck_here", "_law_some", "_law_long"]) (B : Blt mg) : FOk P w K mg base 1 "_law_signs" ["_law_deck_here", "_law_some", "_law_long"] Zae := by
 refine D.ok scLSigns (fun vs H Q E h => ?_) (fun f cdv A outer s H vs Q E hr h => ?_)
 ·obtain ⟨D, y, L, n, rfl, _⟩ := h
  rfl
 ·obtain ⟨Dk, y, L, n, rfl, y1, y2, yc, hL, hD, k⟩ := h
  refine ⟨_, (Zc (Zm (i := 3) scLSigns.nd rfl (.inl rfl) YO)
   (Zc (XS PassesOwn.never (Zs Zhy (Zi Zo rfl B.len ZR (Za (pv 3) Zf)) (pv 2) (Zx _))
    (Zc (Zm (i := 4) scLSigns.nd rfl (.inl rfl) (Ym F.plainAttrs_list F.slot_list_pop F.type_list_pop Z0 (pv 0)))
   (Zh (Yo PassesOwn.never rfl (YN rfl B.range (Za (Zi (Xq rfl) rfl B.min Zgr (Za Ze (Za (Zn XI (pv 2) (Zi Zo rfl B.len ZR (Za (pv 3) Zf))) Zf))) Zf)) (ZL (i := 5) scLSigns.nd rfl (.inl rfl))
    (Zc (Zm (i := 3) scLSigns.nd rfl (.inl rfl) (Zn Z8 (pv 3) (ZF ZcJ (pv 1) (Zn ZC (pv 4) (Zi Zo rfl B.len ZR (Za (pv 1) Zf))) (fun _ _ => rfl))))
   (Zh (Zm (i := 4) scLSigns.nd rfl (.inl rfl) (Zn Z7 (pv 4) (Zi Zo rfl B.len ZR (Za (pv 1) Zf))))))))))
   (Zh (Zq (pv 3))))), ?_⟩
  have hlp : (0 : Int) < ((tx y).length : Int) := by rw [Zz]; omega
  have hleny : ∀ H', Zia K (.str (tx y)) H' (tx y).length := fun H' => ⟨ZM (by omega), rfl⟩
  dsimp only [JH]
  rw [show ("" : Str) = tx [] from rfl]
  show Zhb (ZaV _ _) _ _ _ _
  refine ZZ (fun σ H4 => ∃ (z : List Nat) (z4 z5 : Option V), σ = [some (.ref Dk), some (.str (tx y)), some (.int L), some (.str (tx z)), z4, z5] ∧ SB Dk H H4 ∧ DK H4 Dk n ∧ z.length = L ∧ Cd z) (fun R hR => ?_) ?_
  ·refine ⟨fun m σ H4 => ∃ (z : List Nat) (z4 z5 : Option V), σ = [some (.ref Dk), some (.str (tx y)), some (.int L), some (.str (tx z)), z4, z5] ∧ SB Dk H H4 ∧ DK H4 Dk (n + (L - z.length + 11) / 12) ∧ z.length ≤ L ∧ Cd z ∧ m = L - z.length,
    ⟨_, [], none, none, rfl, SB.refl _ _, hD, Nat.zero_le _, (fun c hc => by cases hc), rfl⟩, ?_⟩
   rintro m σ H4 ⟨z, z4, z5, rfl, sb4, hD4, hz, zc, hm⟩
   have hlenz : ∀ H', Zia K (.str (tx z)) H' (tx z).length := fun H' => ⟨ZM (by omega), rfl⟩
   refine ⟨_, rfl, .str (tx z), _, rfl, hlenz _, _, rfl, _, _, rfl, rfl, _, rfl, ?_⟩
   rw [Zz]
   by_cases c : z.length < L
   rotate_left
   ·have e : z.length = L := by omega
    refine Yl (decide_eq_false (by omega)) (hR _ _ ⟨z, z4, z5, rfl, sb4, hD4.less (by omega), e, zc⟩)
   refine Yx (decide_eq_true (by omega)) ?_
   refine ⟨fun σ' H' => ∃ m', m' < m ∧ ∃ (z : List Nat) (z4 z5 : Option V), σ' = [some (.ref Dk), some (.str (tx y)), some (.int L), some (.str (tx z)), z4, z5] ∧ SB Dk H H' ∧ DK H' Dk (n + (L - z.length + 11) / 12) ∧ z.length ≤ L ∧ Cd z ∧ m' = L - z.length, fun _ _ z => z, ?_⟩
   have hD5 : DK H4 Dk (n + (L - z.length + 11) / 12 - 1 + 1) := hD4.less (by omega)
   obtain ⟨ns, cc, hDn, c0, c1, hD6⟩ := hD5.pop
   refine ⟨_, rfl, .inl ⟨rfl, _, SqL.of hDn⟩, Dk, _, .int cc, rfl, rfl, hDn, ZW ns cc, ?_⟩
   rw [ZX]
   have sb6 : SB Dk H (upd H4 Dk (.lst (ns.map V.int))) := sb4.trans SB.upd
   generalize upd H4 Dk (.lst (ns.map V.int)) = H6 at sb6 hD6
   have hmn : (if (L : Int) - ((tx z).length : Int) < 12 then (L : Int) - ((tx z).length : Int) else 12).toNat = min (L - z.length) 12 := by rw [Zz]; split <;> omega
   refine ⟨_, rfl, _, rfl, .str (tx z), _, rfl, hlenz _, _, _, rfl, rfl, 12, _, rfl, _, rfl, by rw [Zz]; split <;> omega, by rw [Zz]; split <;> omega, ?_⟩
   rw [hmn]
   refine YS (n := min (L - z.length) 12) (fun i σ H7 => H7 = H6 ∧ ∃ (u : List Nat) (nb : Int) (z5 : Option V), σ = [some (.ref Dk), some (.str (tx y)), some (.int L), some (.str (tx u)), some (.int nb), z5] ∧ u.length = z.length + i ∧ Cd u)
    ⟨rfl, z, cc, z5, rfl, rfl, zc⟩ ?_ ?_
   ·rintro i σ H7 hi ⟨rfl, u, nb, z5', rfl, hul, uc⟩
    have mb := ZJ nb hlp
    have hmy : (nb % ((tx y).length : Int)).toNat < y.length := by rw [Zz] at mb ⊢; omega
    have hat := Zff (z := y) (i := nb % ((tx y).length : Int)) mb.1 (by rw [Zz] at mb ⊢; exact mb.2)
    refine ⟨_, rfl, _, rfl, _, rfl, _, rfl, .str (tx y), _, rfl, hleny _, _, _, rfl, rfl, hlp, tx y, _, _, rfl, rfl, ZM (by omega), hat, _, _, rfl, rfl, ?_, ?_⟩
    ·rw [Zz]
     exact Zl (by show u.length + 1 ≤ 1000; omega)
    generalize nb % ((tx y).length : Int) = ix at hmy
    rw [show ({ cps := #[y.getD ix.toNat 0] } : Str) = tx [y.getD ix.toNat 0] from rfl, X1]
    refine ⟨_, rfl, _, rfl, .str (tx y), _, rfl, hleny _, _, _, rfl, rfl, ⟨hlp, by rw [Zz]; omega⟩, ?_⟩
    refine ⟨rfl, _, _, _, rfl, by rw [List.length_append, hul]; rfl, fun c hc => ?_⟩
    rcases List.mem_append.mp hc with q | q
    ·exact uc c q
    ·rw [List.mem_singleton.mp q]
     refine yc _ ?_
     rw [List.getD_eq_getElem?_getD, List.getElem?_eq_getElem hmy]
     exact List.getElem_mem _
   ·rintro σ H7 ⟨rfl, u, nb, z5', rfl, hul, uc⟩
    refine ⟨_, ?_, u, _, _, rfl, sb6, hD6.less (by omega), by omega, uc, rfl⟩
    omega
  ·rintro σ H4 ⟨z, z4, z5, rfl, sb4, hD4, hz, zc⟩
   exact ⟨_, rfl, k z H4 sb4 hD4 hz zc⟩
abbrev ZdY : Stmt := top 22
abbrev ZiS : List Str := ["_law_script", "_law_many", "_law_row", "_law_left", "_law_found", "_law_k", "_law_number"]
theorem scLDeck : Zt ZiS ["_law_script", "_law_many"] (Zk ZdY) := ⟨rfl, rfl, rfl, by decide +kernel, rfl, by decide +kernel, by decide +kernel⟩
def ZgC (K : PySem.W.Frag) : Sp := fun vs H Q _ => ∃ (a : Addr) (ns : List Int) (m : Nat), vs = [.ref a, .int m] ∧ SqL K H a (ns.map V.int) ∧ ns.length ≤ 63 ∧ m ≤ 600 ∧ ∀ D H', Same H H' → DK H' D m → Q (.ref D) H'
theorem Zeo (D : HasDef K mg "_law_deck" ZdY ["_law_script", "_law_many"]) (B : Blt mg) (g7_ : FOk P w K mg base 1 "_law_mixed" ["_law_row", "_law_k"] ZdH) : FOk P w K mg base 2 "_law_deck" ["_law_script", "_law_many"] (ZgC K) := by
 refine D.ok scLDeck (fun vs H Q E h => ?_) (fun f cdv A outer s H vs Q E hr h => ?_)
 ·obtain ⟨a, ns, m, rfl, _⟩ := h
  rfl
 ·obtain ⟨a, ns, m, rfl, ha, hn, hm, k⟩ := h
  refine ⟨_, (Zc (Zm (i := 2) scLDeck.nd rfl (.inl rfl) (ZO Zbw rfl B.list Zfd (Za (Zu ZdO (pv 0) ZD (ZB Ze)) Zf)))
   (Zc (Zm (i := 3) scLDeck.nd rfl (.inl rfl) (ZU Zf))
   (Zc (Z2 (PW.pt (Zcr (Zs (Zcu hr.units) (pv 2) (ZU Zf) (Zx _)) (Zar (Zs Xc (Zn ZC (ZF ix_list (pv 2) Ze (fun _ _ => rfl)) Ze) Ze (Zx _))))) (Zh (Zm (i := 3) scLDeck.nd rfl (.inl rfl) (Zn ZgL (ZU (Za (Zn Z7 (ZF ix_list (pv 2) Ze (fun _ _ => rfl)) Ze) Zf)) (Zu ZdO (pv 2) (ZB Ze) ZD)))) Zy)
   (Zc (Zm (i := 4) scLDeck.nd rfl (.inl rfl) (ZU Zf))
   (Zc (Yo PassesOwn.never rfl (YN rfl B.range (Za (pv 1) Zf)) (ZL (i := 5) scLDeck.nd rfl (.inl rfl))
    (Zc (Zm (i := 6) scLDeck.nd rfl (.inl rfl) (ZA g7_ hr (Za (pv 2) (Za (pv 5) Zf))))
   (Zc (Z2 (PW.pt (Zcr (Zs (Zcu hr.units) (pv 3) (ZU Zf) (Zx _)) (Zar (Zs XJ (ZF ix_list (pv 3) (Zn ZC (pv 5) (Zi Zo rfl B.len ZR (Za (pv 3) Zf))) (fun _ _ => rfl)) (Jc (Za Ze (Za (Xj Yn Ze) Zf))) rfl)))) (Zc (Zm (i := 6) scLDeck.nd rfl (.inl rfl) (Zn ZC (ZF ix_list (pv 3) (Zn ZC (pv 5) (Zi Zo rfl B.len ZR (Za (pv 3) Zf))) (fun _ _ => rfl)) (Zn ZgK Ze Ze)))
   (Zh (Ziu (Zn ZfN (ZF ix_list (pv 3) (Zn ZC (pv 5) (Zi Zo rfl B.len ZR (Za (pv 3) Zf))) (fun _ _ => rfl)) (Zn ZgK Ze Ze)) (Ziy (pv 3) (Zn ZC (pv 5) (Zi Zo rfl B.len ZR (Za (pv 3) Zf))) ZfC)))) Zy)
   (Zh (YA (JC F.plainAttrs_list F.slot_list_append F.type_list_append Z9 (pv 4) (Za (pv 6) Zf)))))))
   (Zh (Zq (ZbM rfl rfl B.list rfl B.rev (pv 4))))))))), ?_⟩
  refine ⟨_, rfl, _, rfl, a, _, rfl, ha, fun p1 hp1 => ?_⟩
  rw [Zkd (ns.map V.int) (by rw [List.length_map]; exact hn)]
  refine ⟨p1, _, rfl, .inl (SqL.of Zd), fun r hr1 => ?_⟩
  have s1 := (Zb (o := .lst (ns.map V.int)) hp1).trans (Zb (o := .lst (ns.map V.int)) hr1)
  have hrow : (upd (upd H p1 (.lst (ns.map V.int))) r (.lst (ns.map V.int))) r = some (.lst (ns.map V.int)) := Zd
  generalize upd (upd H p1 (.lst (ns.map V.int))) r (.lst (ns.map V.int)) = H1 at s1 hrow
  refine ⟨Zl (show 0 ≤ 1000 by decide), fun lf hlf => ?_⟩
  have s2 := Zb (o := .lst []) hlf
  have hlr : lf ≠ r := fun e => by rw [e, hrow] at hlf; cases hlf
  have hlfn : H lf = none := s1.free hlf
  have hrow2 := s2 _ _ hrow
  have hlf2 : (upd H1 lf (.lst [])) lf = some (.lst (([] : List Int).map V.int)) := Zd
  have s12 := s1.trans s2
  generalize upd H1 lf (.lst []) = H2 at s12 hrow2 hlf2
  clear s2 hlf s1 hrow hr1 hp1
  dsimp only
  refine ZZ (fun σ H3 => ∃ (lf : Addr) (ls : List Int), σ = [some (.ref a), some (.int m), some (.ref r), some (.ref lf), none, none, none] ∧ Same H H3 ∧ H3 r = some (.lst (ns.map V.int)) ∧ H3 lf = some (.lst (ls.map V.int)) ∧ ls.length ≤ 64 ∧ H lf = none ∧ lf ≠ r) (fun R hR => ?_) ?_
  ·refine ⟨_, rfl, Zl (show 0 ≤ 1000 by decide), fun p0 hp0 => ?_⟩
   have s3 := Zb (o := .lst []) hp0
   have hrow3 := s3 _ _ hrow2
   have hlf3 := s3 _ _ hlf2
   refine ⟨.list (ns.map PyData.int), .list (([] : List Int).map PyData.int), Yv hrow3, Yv (ns := []) Zd, Z6 ns, Z6 [], _, rfl, ?_⟩
   rw [ZaJ]
   have s13 := s12.trans s3
   generalize upd H2 p0 (.lst []) = H3 at s13 hrow3 hlf3
   cases ns with
   | nil => exact Yl rfl (Yl rfl (hR _ _ ⟨lf, [], rfl, s13, hrow3, hlf3, by decide, hlfn, hlr⟩))
   | cons x xs =>
    refine Yx rfl ?_
    have h0 : atI ((x :: xs).map V.int) 0 = some (.int x) := YR (by decide) rfl
    refine ⟨_, rfl, r, _, 0, .int x, rfl, rfl, SqL.of hrow3, h0, _, _, rfl, rfl, (by show (0 : Int) < 2; decide), rfl, _, rfl, ?_⟩
    by_cases c : x % 2 = 1
    rotate_left
    ·exact Yl (Jo c) (hR _ _ ⟨lf, [], rfl, s13, hrow3, hlf3, by decide, hlfn, hlr⟩)
    refine Yx (Jp c) ?_
    refine ⟨_, rfl, r, _, 0, .int x, rfl, rfl, SqL.of hrow3, h0, _, _, rfl, rfl, ⟨by decide, by decide⟩, Zl (show 1 ≤ 1000 by decide), fun q1 hq1 => ?_⟩
    have t1 := Zb (o := .lst [.int (x / 2)]) hq1
    refine ⟨_, rfl, _, rfl, r, _, rfl, SqL.of (t1 _ _ hrow3), fun q2 hq2 => ?_⟩
    rw [show Zgo ((x :: xs).map V.int) (some 1) none = xs.map V.int from Zgn (i := 1) (by simp)]
    have t2 := Zb (o := .lst (xs.map V.int)) hq2
    refine ⟨q1, q2, _, _, rfl, rfl, t2 _ _ Zd, Zd, Zl (by rw [List.length_map, List.length_singleton]; rw [List.length_cons] at hn; omega), fun q3 hq3 => ?_⟩
    have t3 := Zb (o := .lst ([.int (x / 2)] ++ xs.map V.int)) hq3
    have hrow6 := t3 _ _ (t2 _ _ (t1 _ _ hrow3))
    refine hR _ _ ⟨q3, x / 2 :: xs, rfl, s13.trans ((t1.trans t2).trans t3), hrow6, Zd, by rw [List.length_cons] at hn ⊢; omega, s13.free ((t1.trans t2).free hq3), fun e => ?_⟩
    rw [e, (t1.trans t2) _ _ hrow3] at hq3
    cases hq3
  clear hlf2 hrow2 s12 hlr hlfn
  clear lf H2
  rintro σ H3 ⟨lf, ls, rfl, s3, hrow, hlf, hls, hlfn, hlr⟩
  refine ⟨Zl (show 0 ≤ 1000 by decide), fun fd hfd => ?_⟩
  have t4 := Zb (o := .lst []) hfd
  have hfr : fd ≠ r := fun e => by rw [e, hrow] at hfd; cases hfd
  have hfl : fd ≠ lf := fun e => by rw [e, hlf] at hfd; cases hfd
  have hfn : H fd = none := s3.free hfd
  refine ⟨_, rfl, _, rfl, by omega, by omega, ?_⟩
  rw [Int.toNat_natCast]
  refine YS (n := m) (fun i σ H5 => ∃ (ls fs : List Int) (z5 z6 : Option V), σ = [some (.ref a), some (.int m), some (.ref r), some (.ref lf), some (.ref fd), z5, z6] ∧ Same H H5 ∧ H5 r = some (.lst (ns.map V.int)) ∧ H5 lf = some (.lst (ls.map V.int)) ∧ ls.length ≤ 64 ∧ H5 fd = some (.lst (fs.map V.int)) ∧ fs.length = i ∧ ∀ x ∈ fs, 0 ≤ x ∧ x < 10 ^ 18)
   ⟨ls, [], none, none, rfl, s3.trans t4, t4 _ _ hrow, t4 _ _ hlf, hls, Zd, rfl, fun x hx => by cases hx⟩ ?_ ?_
  ·clear t4 hfd hlf hrow s3 hls
   clear ls H3
   rintro i σ H5 hi ⟨ls, fs, z5, z6, rfl, s5, hrow, hlf, hls, hfd, hfs, hfb⟩
   refine ⟨_, rfl, _, rfl, r, ns, 0 + (i : Int), rfl, hrow, hn, by omega, by omega, fun n0 H6 b0 b1 s6 => ?_⟩
   have s56 := s5.trans s6
   have hrow6 := s6 _ _ hrow
   have hlf6 := s6 _ _ hlf
   have hfd6 := s6 _ _ hfd
   dsimp only
   refine ZZ (fun σ H7 => ∃ (ls : List Int) (n : Int), σ = [some (.ref a), some (.int m), some (.ref r), some (.ref lf), some (.ref fd), some (.int (0 + (i : Int))), some (.int n)] ∧ Same H H7 ∧ H7 r = some (.lst (ns.map V.int)) ∧ H7 lf = some (.lst (ls.map V.int)) ∧ ls.length ≤ 64 ∧ H7 fd = some (.lst (fs.map V.int)) ∧ 0 ≤ n ∧ n < 10 ^ 18) (fun R hR => ?_) ?_
   ·refine ⟨_, rfl, Zl (show 0 ≤ 1000 by decide), fun p0 hp0 => ?_⟩
    have t7 := Zb (o := .lst []) hp0
    have hlf7 := t7 _ _ hlf6
    have hrow7 := t7 _ _ hrow6
    have hfd7 := t7 _ _ hfd6
    refine ⟨.list (ls.map PyData.int), .list (([] : List Int).map PyData.int), Yv hlf7, Yv (ns := []) Zd, Z6 ls, Z6 [], _, rfl, ?_⟩
    rw [ZaJ]
    have s57 := s56.trans t7
    generalize upd H6 p0 (.lst []) = H7 at s57 hlf7 hrow7 hfd7
    by_cases hne : ls.length = 0
    ·rw [List.length_eq_zero_iff.mp hne] at hlf7 ⊢
     exact Yl rfl (Yl rfl (hR _ _ ⟨[], n0, rfl, s57, hrow7, hlf7, by decide, hfd7, b0, by omega⟩))
    refine Yx (by cases ls with | nil => exact absurd rfl hne | cons _ _ => rfl) ?_
    have hlp : (0 : Int) < ((ls.map V.int).length : Int) := by rw [List.length_map]; omega
    have mb := ZJ (0 + (i : Int)) hlp
    have hat := Zb2 (ns := ls) (i := (0 + (i : Int)) % ((ls.map V.int).length : Int)) mb.1 (by have := mb.2; rw [List.length_map] at this ⊢; exact this)
    refine ⟨_, rfl, _, rfl, _, rfl, .ref lf, _, rfl, .inl ⟨_, SqL.of hlf7, rfl⟩, _, _, rfl, rfl, hlp, lf, _, _, _, rfl, rfl, SqL.of hlf7, hat, _, rfl, Zl (show 2 ≤ 1000 by decide), fun t ht => ?_⟩
    have t8 := Zb (o := .tup [.int 0, .int (-1)]) ht
    have hlf8 := t8 _ _ hlf7
    have hrow8 := t8 _ _ hrow7
    have hfd8 := t8 _ _ hfd7
    have s58 := s57.trans t8
    refine ⟨t, _, rfl, .inr (SqT.of Zd), rfl, rfl, _, rfl, ?_⟩
    generalize upd H7 t (.tup [.int 0, .int (-1)]) = H8 at s58 hlf8 hrow8 hfd8
    refine Zjg (fun _ => ?_) (fun _ => hR _ _ ⟨ls, n0, rfl, s58, hrow8, hlf8, hls, hfd8, b0, by omega⟩)
    refine ⟨_, rfl, _, rfl, _, rfl, .ref lf, _, rfl, .inl ⟨_, SqL.of hlf8, rfl⟩, _, _, rfl, rfl, hlp, lf, _, _, _, rfl, rfl, SqL.of hlf8, hat, _, _, rfl, rfl, ⟨by decide, by decide, by decide⟩, _, _, rfl, rfl, (by show (0 : Int) < 10 ^ 18; decide), ?_⟩
    have md := ZJ (ls.getD ((0 + (i : Int)) % ((ls.map V.int).length : Int)).toNat 0) (show (0 : Int) < 10 ^ 18 by decide)
    refine ⟨_, rfl, _, rfl, _, rfl, .ref lf, _, rfl, .inl ⟨_, SqL.of hlf8, rfl⟩, _, _, rfl, rfl, hlp, lf, _, _, _, rfl, rfl, SqL.of hlf8, hat, _, _, rfl, rfl, ⟨by decide, by decide, by decide⟩, _, _, rfl, rfl, ⟨by decide, by decide +kernel⟩, ?_⟩
    refine ⟨_, rfl, _, rfl, _, rfl, .ref lf, _, rfl, .inl ⟨_, SqL.of hlf8, rfl⟩, _, _, rfl, rfl, hlp, lf, _, _, ((0 + (i : Int)) % ((ls.map V.int).length : Int)).toNat, rfl, rfl, hlf8, ?_, ?_⟩
    ·unfold ixN
     rw [if_pos mb.1, if_pos mb.2]
    refine hR _ _ ⟨ls.set ((0 + (i : Int)) % ((ls.map V.int).length : Int)).toNat ((ls.getD ((0 + (i : Int)) % ((ls.map V.int).length : Int)).toNat 0).fdiv (10 ^ 18)), _, rfl, fun b u hb => ?_, ?_, ?_, ?_, ?_, md.1, md.2⟩
    ·rw [Zg (Zj hb hlfn)]
     exact s58 b u hb
    ·rw [Zg (Ne.symm hlr)]
     exact hrow8
    ·rw [Zd, List.map_set]
     rfl
    ·rw [List.length_set]
     exact hls
    ·rw [Zg hfl]
     exact hfd8
   clear hlf6 hrow6 hfd6 s56 s6 hlf hls hfd s5 hrow b0 b1
   clear ls H6 n0
   rintro σ H7 ⟨ls, n, rfl, s7, hrow, hlf, hls, hfd, n0, n1⟩
   refine ⟨_, rfl, .inl ⟨rfl, _, SqL.of hfd⟩, _, rfl, fd, _, .int n, rfl, rfl, hfd, by rw [List.length_map]; exact Zr (by omega), ?_⟩
   refine ⟨ls, fs ++ [n], _, _, rfl, fun b u hb => ?_, ?_, ?_, hls, ?_, by rw [List.length_append, hfs]; rfl, fun x hx => ?_⟩
   ·rw [Zg (Zj hb hfn)]
    exact s7 b u hb
   ·rw [Zg (Ne.symm hfr)]
    exact hrow
   ·rw [Zg (Ne.symm hfl)]
    exact hlf
   ·rw [Zd, List.map_append]
    rfl
   ·rcases List.mem_append.mp hx with z | z
    ·exact hfb x z
    ·rw [List.mem_singleton.mp z]
     exact ⟨n0, n1⟩
  ·rintro σ H5 ⟨ls, fs, z5, z6, rfl, s5, hrow, hlf, hls, hfd, hfs, hfb⟩
   refine ⟨_, rfl, fd, _, rfl, SqL.of hfd, fun Dk hDk => ?_⟩
   exact k Dk _ (s5.trans (Zb hDk)) ⟨fs.reverse, by rw [Zd, List.map_reverse], by rw [List.length_reverse]; omega, fun x hx => hfb x (List.mem_reverse.mp hx)⟩
end
theorem Zgf {ns : List Int} {j : Nat} (h : j < ns.length) : ns.getD j 0 ∈ ns := by
 rw [List.getD_eq_getElem?_getD, List.getElem?_eq_getElem h]
 exact List.getElem_mem h
theorem Zf0 {ns : List Int} {i : Int} {lo hi : Int} (h0 : 0 ≤ i) (h1 : i < ns.length) (hb : ∀ x ∈ ns, lo ≤ x ∧ x ≤ hi) (hl : 0 ≤ lo) : ∃ v : Nat, atI (ns.map V.int) i = some (.int (v : Int)) ∧ lo ≤ v ∧ (v : Int) ≤ hi := by
 have hm := Zgf (ns := ns) (j := i.toNat) (by omega)
 have := hb _ hm
 refine ⟨(ns.getD i.toNat 0).toNat, ?_, by omega, by omega⟩
 rw [Zb2 h0 h1, Int.toNat_of_nonneg (by omega)]
theorem DG.tput {ks : List Str} {g : Str → Int} {L : Nat} (h : DG ks g L) {o : Str} {n : Int} (hn : g o ≤ n) : tN (ZV ks o) (fun x => if x = o then n else g x) ≤ tN ks g + (n - g o).toNat := by
 have h0 := h.nn o
 have := Zdx h0 hn (YV (x := o) h.nd)
 refine Nat.le_trans this ?_
 have e : tN (ZV ks o) g = tN ks g := by
  unfold ZV
  split
  ·rfl
  ·rename_i c
   rw [ZaX, ZK, h.zero o c]
   rfl
 rw [e]
 exact Nat.le_refl _
section
variable {P : Program} {w : World} {K : PySem.W.Frag} {mg : Str → Option Value} {base : Heap}
abbrev ZdW : Stmt := top 25
abbrev ZiQ : List Str := ["_law_deck_here", "_law_most", "_law_some", "_law_signs_here", "_law_way", "_law_cell"]
theorem scLText : Zt ZiQ ["_law_deck_here", "_law_most"] (Zk ZdW) := ⟨rfl, rfl, rfl, by decide +kernel, rfl, by decide +kernel, by decide +kernel⟩
def Zgz : Sp := fun vs H Q _ => ∃ (D : Addr) (most n : Nat), vs = [.ref D, .int most] ∧ 1 ≤ most ∧ most ≤ 300 ∧ DK H D (n + 30) ∧ ∀ (z : List Nat) H', SB D H H' → DK H' D n → 1 ≤ z.length → z.length ≤ 300 → Cd z → Q (.str (tx z)) H'
theorem Zem (D : HasDef K mg "_law_text" ZdW ["_law_deck_here", "_law_most"]) (B : Blt mg) (g6_ : FOk P w K mg base 1 "_law_letters" ["_law_deck_here", "_law_few"] ZdI) (g9_ : FOk P w K mg base 1 "_law_signs" ["_law_deck_here", "_law_some", "_law_long"] Zae) : FOk P w K mg base 2 "_law_text" ["_law_deck_here", "_law_most"] Zgz := by
 refine D.ok scLText (fun vs H Q E h => ?_) (fun f cdv A outer s H vs Q E hr h => ?_)
 ·obtain ⟨D, most, n, rfl, _⟩ := h
  rfl
 ·obtain ⟨Dk, most, n, rfl, m1, m3, hD, k⟩ := h
  refine ⟨_, (Zc (Zm (i := 2) scLText.nd rfl (.inl rfl) (ZA g6_ hr (Za (pv 0) (Za (ZF ix_list (ZU (Za Ze (Za Ze (Za Ze (Za Ze (Za Ze Zf)))))) (Zn ZC (Ym F.plainAttrs_list F.slot_list_pop F.type_list_pop Z0 (pv 0)) Ze) (fun _ _ => rfl)) Zf))))
   (Zc (Zm (i := 3) scLText.nd rfl (.inl rfl) (ZA g9_ hr (Za (pv 0) (Za (pv 2) (Za (Zn ZP Ze (Zn ZC (Ym F.plainAttrs_list F.slot_list_pop F.type_list_pop Z0 (pv 0)) (pv 1))) Zf)))))
   (Zc (Zm (i := 4) scLText.nd rfl (.inl rfl) (Zn ZC (Ym F.plainAttrs_list F.slot_list_pop F.type_list_pop Z0 (pv 0)) Ze))
   (Zc (Zm (i := 5) scLText.nd rfl (.inl rfl) (Ym F.plainAttrs_list F.slot_list_pop F.type_list_pop Z0 (pv 0)))
   (Zc (Z2 (Zs Xc (pv 4) Ze (Zx _)) (Zh (Zm (i := 3) scLText.nd rfl (.inl rfl) (Zu ZQ (Zn Zhx (Zu ZQ (pv 3) ZD (ZB (Zn ZP Ze (Zn ZC (pv 5) Ze)))) Ze) ZD (ZB (Zn ZP Ze (Zn ZC (Zn Z7 (pv 5) Ze) Ze)))))) Zy)
   (Zc (Z2 (Zs Xc (pv 4) Ze (Zx _)) (Zh (Zm (i := 3) scLText.nd rfl (.inl rfl) (Zn Z8 (Zu ZQ (pv 3) ZD (ZB Ze)) (JC F.plainAttrs_str F.slot_str_join F.type_str_join Zez YO (Za (Zc5 rfl rfl B.list rfl B.rev (Zu ZQ (pv 3) ZD (ZB Ze))) Zf))))) Zy)
   (Zc (Z2 (Zs Xc (pv 4) Ze (Zx _)) (Zh (Zm (i := 3) scLText.nd rfl (.inl rfl) (Zn Z8 (Zu ZQ (pv 3) ZD (ZB Ze)) (Zu ZQ (pv 3) ZD (ZB (Zn ZP Ze (Zn ZC (pv 5) Ze))))))) Zy)
   (Zh (Zq (pv 3)))))))))), ?_⟩
  refine ⟨_, rfl, Zl (show 5 ≤ 1000 by decide), fun p hp => ?_⟩
  have s1 := Zb (o := .lst [.int 2, .int 2, .int 3, .int 4, .int 26]) hp
  have hD1 : DK (upd H p (.lst [.int 2, .int 2, .int 3, .int 4, .int 26])) Dk (n + 29 + 1) := hD.same s1
  have hp1 : (upd H p (.lst [.int 2, .int 2, .int 3, .int 4, .int 26])) p = some (.lst (([2, 2, 3, 4, 26] : List Int).map V.int)) := Zd
  have hpD : p ≠ Dk := fun e => by
   obtain ⟨_, e2, _⟩ := hD
   rw [← e, hp] at e2
   cases e2
  have sb1 : SB Dk H (upd H p (.lst [.int 2, .int 2, .int 3, .int 4, .int 26])) := (ZfE s1)
  generalize upd H p (.lst [.int 2, .int 2, .int 3, .int 4, .int 26]) = H1 at hD1 hp1 sb1
  obtain ⟨ns, c, hDn, c0, c1, hD2⟩ := hD1.pop
  refine ⟨_, rfl, .inl ⟨rfl, _, SqL.of hDn⟩, Dk, _, .int c, rfl, rfl, hDn, ZW ns c, ?_⟩
  rw [ZX]
  have hp2 : (upd H1 Dk (.lst (ns.map V.int))) p = some (.lst (([2, 2, 3, 4, 26] : List Int).map V.int)) := by rw [Zg hpD]; exact hp1
  have sb2 := sb1.trans (SB.upd (o := .lst (ns.map V.int)))
  generalize upd H1 Dk (.lst (ns.map V.int)) = H2 at hD2 hp2 sb2
  have m5 := ZJ c (show (0 : Int) < 5 by decide)
  obtain ⟨few, hat, fl, fh⟩ := Zf0 (ns := [2, 2, 3, 4, 26]) (lo := 2) (hi := 26) m5.1 m5.2 (by decide) (by decide)
  refine ⟨_, _, rfl, rfl, (by show (0 : Int) < 5; decide), p, _, _, _, rfl, rfl, SqL.of hp2, hat, Dk, few, n + 28, rfl, by omega, by omega, hD2, fun y H3 sb3 hD3 hy yc => ?_⟩
  have sb13 := sb2.trans sb3
  have hD3' : DK H3 Dk (n + 27 + 1) := hD3
  obtain ⟨ns2, c2, hDn2, _, _, hD4⟩ := hD3'.pop
  refine ⟨_, rfl, _, rfl, _, rfl, .inl ⟨rfl, _, SqL.of hDn2⟩, Dk, _, .int c2, rfl, rfl, hDn2, ZW ns2 c2, ?_⟩
  rw [ZX]
  have sb4 := sb13.trans (SB.upd (H := H3) (o := .lst (ns2.map V.int)))
  generalize upd H3 Dk (.lst (ns2.map V.int)) = H4 at hD4 sb4
  have mm := ZJ c2 (show (0 : Int) < (most : Int) by omega)
  obtain ⟨L, eL⟩ : ∃ L : Nat, 1 + c2 % (most : Int) = (L : Int) := ⟨(1 + c2 % (most : Int)).toNat, by omega⟩
  refine ⟨_, rfl, _, _, rfl, rfl, (by show (0 : Int) < (most : Int); omega), _, _, rfl, rfl, Dk, y, L, n + 2, (by rw [← eL]; rfl), by omega, by omega, yc, by omega, hD4.less (by omega), fun z H5 sb5 hD5 hz zc => ?_⟩
  have sb15 := sb4.trans sb5
  have hD5' : DK H5 Dk (n + 1 + 1) := hD5
  obtain ⟨ns3, c3, hDn3, _, _, hD6⟩ := hD5'.pop
  refine ⟨_, rfl, .inl ⟨rfl, _, SqL.of hDn3⟩, Dk, _, .int c3, rfl, rfl, hDn3, ZW ns3 c3, ?_⟩
  rw [ZX]
  have sb6 := sb15.trans (SB.upd (H := H5) (o := .lst (ns3.map V.int)))
  generalize upd H5 Dk (.lst (ns3.map V.int)) = H6 at hD6 sb6
  refine ⟨_, _, rfl, rfl, (by show (0 : Int) < 6; decide), ?_⟩
  obtain ⟨ns4, c4, hDn4, _, _, hD7⟩ := hD6.pop
  refine ⟨_, rfl, .inl ⟨rfl, _, SqL.of hDn4⟩, Dk, _, .int c4, rfl, rfl, hDn4, ZW ns4 c4, ?_⟩
  rw [ZX]
  have sb7 := sb6.trans (SB.upd (H := H6) (o := .lst (ns4.map V.int)))
  generalize upd H6 Dk (.lst (ns4.map V.int)) = H7 at hD7 sb7
  have z1 : 1 ≤ z.length := by omega
  have z3 : z.length ≤ 300 := by omega
  dsimp only
  clear hD6 hD5 hD5' hD4 hD3 hD3' hD2 hDn hDn2 hDn3 hDn4 sb6 sb15 sb5 sb4 sb13 sb3 sb2 sb1 hp2 hp1 hat
  generalize c3 % 6 = wy
  refine ZZ (fun σ H8 => ∃ z : List Nat, σ = [some (.ref Dk), some (.int most), some (.str (tx y)), some (.str (tx z)), some (.int wy), some (.int c4)] ∧ H8 = H7 ∧ 1 ≤ z.length ∧ z.length ≤ 300 ∧ Cd z) (fun R hR => ?_) ?_
  ·refine ⟨_, rfl, rfl, _, rfl, Zjg (fun e => ?_) (fun e => hR _ _ ⟨z, rfl, rfl, z1, z3, zc⟩)⟩
   have m7 := ZJ c4 (show (0 : Int) < 7 by decide)
   have m60 := ZJ (c4 / 7) (show (0 : Int) < 60 by decide)
   refine ⟨_, rfl, _, rfl, _, _, rfl, rfl, (by show (0 : Int) < 7; decide), _, _, rfl, rfl, _, rfl, _, rfl, ZM (by omega), ?_⟩
   dsimp only
   rw [ZS (by omega)]
   have hz' : (z.take (1 + c4 % 7).toNat).length ≤ 7 ∧ 1 ≤ (z.take (1 + c4 % 7).toNat).length := by
    rw [List.length_take]
    omega
   have hyc : Cd (z.take (1 + c4 % 7).toNat) := fun c hc => zc c (List.mem_of_mem_take hc)
   generalize z.take (1 + c4 % 7).toNat = u at hz' hyc
   have em : Txt.mul (tx u) 50 = tx ((List.replicate 50 u).flatten) := by
    apply Z4
    rw [Zey (by decide) (by rw [Zz]; omega), ZI, ZI]
    rfl
   refine ⟨_, _, rfl, rfl, L2.mulOk_of (by decide) (by decide) (by rw [Zz]; omega), ?_⟩
   rw [em]
   have hrl := Zhp 50 u
   refine ⟨_, rfl, _, _, rfl, rfl, ⟨by decide, by decide⟩, _, _, rfl, rfl, (by show (0 : Int) < 60; decide), _, _, rfl, rfl, _, rfl, _, rfl, ZM (by omega), ?_⟩
   dsimp only
   rw [ZS (by omega)]
   refine hR _ _ ⟨_, rfl, rfl, ?_, ?_, fun c hc => ?_⟩
   ·rw [List.length_take]; omega
   ·rw [List.length_take]; omega
   ·obtain ⟨q, hq, hcq⟩ := List.mem_flatten.mp (List.mem_of_mem_take hc)
    rw [(List.mem_replicate.mp hq).2] at hcq
    exact hyc c hcq
  clear z1 z3 zc hz
  clear z
  rintro σ H8 ⟨z, rfl, rfl, z1, z3, zc⟩
  refine ZZ (fun σ H9 => ∃ z : List Nat, σ = [some (.ref Dk), some (.int most), some (.str (tx y)), some (.str (tx z)), some (.int wy), some (.int c4)] ∧ Same H8 H9 ∧ 1 ≤ z.length ∧ z.length ≤ 300 ∧ Cd z) (fun R hR => ?_) ?_
  ·refine ⟨_, rfl, rfl, _, rfl, Zjg (fun e => ?_) (fun e => hR _ _ ⟨z, rfl, Same.refl _, z1, z3, zc⟩)⟩
   refine ⟨_, rfl, _, rfl, _, rfl, ZM (by omega), rfl, _, rfl, _, rfl, _, rfl, ZM (by omega), _, rfl, ?_, fun p hp => ?_⟩
   ·rw [ZS (by decide)]
    exact ZM (by rw [List.length_take]; omega)
   rw [ZS (by decide), ZI]
   have hz' : (z.take (30 : Int).toNat).length ≤ 30 ∧ 1 ≤ (z.take (30 : Int).toNat).length := by
    rw [List.length_take]
    have : (30 : Int).toNat = 30 := rfl
    omega
   have hyc : Cd (z.take (30 : Int).toNat) := fun c hc => zc c (List.mem_of_mem_take hc)
   generalize z.take (30 : Int).toNat = u at hz' hyc
   have s6 := Zb (o := .lst (u.reverse.map fun c => V.str (tx [c]))) hp
   have em : (u.reverse.map fun c => V.str (tx [c])) = (u.reverse.map fun c => tx [c]).map V.str := by rw [List.map_map]; rfl
   refine ⟨"", p, u.reverse.map fun c => tx [c], rfl, rfl, SqL.of (by rw [Zd, em]), Zcv u.reverse (by rw [List.length_reverse]; omega), ?_⟩
   rw [Zbi]
   refine ⟨_, _, rfl, rfl, ?_, ?_⟩
   ·rw [Zz, Zz, List.length_reverse]; exact Zl (by omega)
   rw [X1]
   refine hR _ _ ⟨_, rfl, s6, ?_, ?_, fun c hc => ?_⟩
   ·rw [List.length_append]; omega
   ·rw [List.length_append, List.length_reverse]; omega
   ·rcases List.mem_append.mp hc with q | q
    ·exact hyc c q
    ·exact hyc c (List.mem_reverse.mp q)
  clear z1 z3 zc
  clear z
  rintro σ H9 ⟨z, rfl, s9, z1, z3, zc⟩
  refine ZZ (fun σ H10 => ∃ z : List Nat, σ = [some (.ref Dk), some (.int most), some (.str (tx y)), some (.str (tx z)), some (.int wy), some (.int c4)] ∧ H10 = H9 ∧ 1 ≤ z.length ∧ z.length ≤ 300 ∧ Cd z) (fun R hR => ?_) ?_
  ·refine ⟨_, rfl, rfl, _, rfl, Zjg (fun e => ?_) (fun e => hR _ _ ⟨z, rfl, rfl, z1, z3, zc⟩)⟩
   have m6 := ZJ c4 (show (0 : Int) < 6 by decide)
   refine ⟨_, rfl, _, rfl, _, rfl, ZM (by omega), _, rfl, _, rfl, _, _, rfl, rfl, (by show (0 : Int) < 6; decide), _, _, rfl, rfl, _, rfl, _, rfl, ZM (by omega), ?_⟩
   dsimp only
   rw [ZS (by decide), ZS (by omega)]
   have b1 : (z.take (40 : Int).toNat).length ≤ 40 ∧ 1 ≤ (z.take (40 : Int).toNat).length := by
    rw [List.length_take]
    have : (40 : Int).toNat = 40 := rfl
    omega
   have b2 : (z.take (1 + c4 % 6).toNat).length ≤ 6 := by
    rw [List.length_take]; omega
   refine ⟨_, _, rfl, rfl, ?_, ?_⟩
   ·rw [Zz, Zz]; exact Zl (by omega)
   rw [X1]
   refine hR _ _ ⟨_, rfl, rfl, ?_, ?_, fun c hc => ?_⟩
   ·rw [List.length_append]; omega
   ·rw [List.length_append]; omega
   ·rcases List.mem_append.mp hc with q | q
    ·exact zc c (List.mem_of_mem_take q)
    ·exact zc c (List.mem_of_mem_take q)
  clear z1 z3 zc
  clear z
  rintro σ H10 ⟨z, rfl, rfl, z1, z3, zc⟩
  exact ⟨_, rfl, k z _ (sb7.trans (ZfE s9)) (hD7.same s9) z1 z3 zc⟩
abbrev Zal : Stmt := top 27
abbrev ZfU : List Str := ["_law_deck_here", "_law_most", "_law_some", "_law_cell", "_law_long", "_law_found", "_law_room", "_law_k", "_law_piece", "_law_many"]
theorem scLPieces : Zt ZfU ["_law_deck_here", "_law_most"] (Zk Zal) := ⟨rfl, rfl, rfl, by decide +kernel, rfl, by decide +kernel, by decide +kernel⟩
def Zco : Sp := fun vs H Q _ => ∃ (D : Addr) (most n : Nat), vs = [.ref D, .int most] ∧ 1 ≤ most ∧ most ≤ 60 ∧ DK H D (n + 4 + 6 * most) ∧ ∀ d H' ks g L, SB D H H' → DK H' D n → H' d = some (.dK (gD ks g)) → DG ks g L → ks ≠ [] → Q (.ref d) H'
theorem ZbS (D : HasDef K mg "_law_pieces" Zal ["_law_deck_here", "_law_most"]) (B : Blt mg) (g6_ : FOk P w K mg base 1 "_law_letters" ["_law_deck_here", "_law_few"] ZdI) (g9_ : FOk P w K mg base 1 "_law_signs" ["_law_deck_here", "_law_some", "_law_long"] Zae) : FOk P w K mg base 2 "_law_pieces" ["_law_deck_here", "_law_most"] Zco := by
 refine D.ok scLPieces (fun vs H Q E h => ?_) (fun f cdv A outer s H vs Q E hr h => ?_)
 ·obtain ⟨D, most, n, rfl, _⟩ := h
  rfl
 ·obtain ⟨Dk, most, n, rfl, m1, m3, hD, k⟩ := h
  have hu := ZaE hr
  refine ⟨_, (Zc (Zm (i := 2) scLPieces.nd rfl (.inl rfl) (ZA g6_ hr (Za (pv 0) (Za (ZF ix_list (ZU (Za Ze (Za Ze (Za Ze (Za Ze (Za Ze Zf)))))) (Zn ZC (Ym F.plainAttrs_list F.slot_list_pop F.type_list_pop Z0 (pv 0)) Ze) (fun _ _ => rfl)) Zf))))
   (Zc (Zm (i := 3) scLPieces.nd rfl (.inl rfl) (Ym F.plainAttrs_list F.slot_list_pop F.type_list_pop Z0 (pv 0)))
   (Zc (Zm (i := 4) scLPieces.nd rfl (.inl rfl) (ZF ix_list (ZU (Za Ze (Za Ze (Za Ze (Za Ze (Za Ze (Za Ze (Za Ze (Za Ze (Za (Zn ZP Ze (Zn ZC (Zn Z7 (pv 3) Ze) Ze)) Zf)))))))))) (Zn ZC (pv 3) Ze) (fun _ _ => rfl)))
   (Zc (Zm (i := 5) scLPieces.nd rfl (.inl rfl) YZ)
   (Zc (Zm (i := 6) scLPieces.nd rfl (.inl rfl) (Zn XI Ze (pv 4)))
   (Zc (Yo PassesOwn.never rfl (YN rfl B.range (Za (Zn ZP Ze (Zn ZC (Ym F.plainAttrs_list F.slot_list_pop F.type_list_pop Z0 (pv 0)) (pv 1))) Zf)) (ZL (i := 7) scLPieces.nd rfl (.inl rfl))
    (Zc (Zm (i := 8) scLPieces.nd rfl (.inl rfl) (ZA g9_ hr (Za (pv 0) (Za (pv 2) (Za (pv 4) Zf)))))
   (Zc (Zm (i := 3) scLPieces.nd rfl (.inl rfl) (Ym F.plainAttrs_list F.slot_list_pop F.type_list_pop Z0 (pv 0)))
   (Zc (Zm (i := 9) scLPieces.nd rfl (.inl rfl) (Zi (Xq rfl) rfl B.min Zgr (Za (pv 6) (Za (ZF ix_list (ZU (Za Ze (Za Ze (Za Ze (Za Ze (Za (Zn ZP Ze (Zn ZC (Zn Z7 (pv 3) Ze) Ze)) (Za (Zn ZP Ze (Zn ZC (Zn Z7 (pv 3) Ze) Ze)) Zf))))))) (Zn ZC (pv 3) Ze) (fun _ _ => rfl)) Zf))))
   (Zh (Z2 (Zs Jh (pv 9) Ze (Zx _)) (Zc (Ys hu (pv 5) (pv 8) (Zn ZP (Yh hu (pv 5) (pv 8) Ze ⟨rfl, rfl, rfl, rfl⟩) (pv 9)) rfl)
   (Zh (Zm (i := 6) scLPieces.nd rfl (.inl rfl) (Zn XI (pv 6) (pv 9))))) Zy))))))
   (Zh (Zq (pv 5))))))))), ?_⟩
  refine ⟨_, rfl, Zl (show 5 ≤ 1000 by decide), fun p hp => ?_⟩
  have s1 := Zb (o := .lst [.int 2, .int 2, .int 3, .int 4, .int 26]) hp
  have hD1 : DK (upd H p (.lst [.int 2, .int 2, .int 3, .int 4, .int 26])) Dk (n + 3 + 6 * most + 1) := (hD.same s1).less (by omega)
  have hp1 : (upd H p (.lst [.int 2, .int 2, .int 3, .int 4, .int 26])) p = some (.lst (([2, 2, 3, 4, 26] : List Int).map V.int)) := Zd
  have hnD : ∀ {b : Addr}, H b = none → b ≠ Dk := fun {b} hb e => by
   obtain ⟨_, e2, _⟩ := hD
   rw [← e, hb] at e2
   cases e2
  have sb1 : SB Dk H (upd H p (.lst [.int 2, .int 2, .int 3, .int 4, .int 26])) := (ZfE s1)
  have hpD := hnD hp
  generalize upd H p (.lst [.int 2, .int 2, .int 3, .int 4, .int 26]) = H1 at hD1 hp1 sb1
  obtain ⟨ns, c, hDn, c0, c1, hD2⟩ := hD1.pop
  refine ⟨_, rfl, .inl ⟨rfl, _, SqL.of hDn⟩, Dk, _, .int c, rfl, rfl, hDn, ZW ns c, ?_⟩
  rw [ZX]
  have hp2 : (upd H1 Dk (.lst (ns.map V.int))) p = some (.lst (([2, 2, 3, 4, 26] : List Int).map V.int)) := by rw [Zg hpD]; exact hp1
  have sb2 := sb1.trans (SB.upd (o := .lst (ns.map V.int)))
  generalize upd H1 Dk (.lst (ns.map V.int)) = H2 at hD2 hp2 sb2
  have m5 := ZJ c (show (0 : Int) < 5 by decide)
  obtain ⟨few, hat, fl, fh⟩ := Zf0 (ns := [2, 2, 3, 4, 26]) (lo := 2) (hi := 26) m5.1 m5.2 (by decide) (by decide)
  refine ⟨_, _, rfl, rfl, (by show (0 : Int) < 5; decide), p, _, _, _, rfl, rfl, SqL.of hp2, hat, Dk, few, n + 2 + 6 * most, rfl, by omega, by omega, hD2.less (by omega), fun y H3 sb3 hD3 hy yc => ?_⟩
  have sb13 := sb2.trans sb3
  have hD3' : DK H3 Dk (n + 1 + 6 * most + 1) := hD3.less (by omega)
  obtain ⟨ns2, cl, hDn2, _, _, hD4⟩ := hD3'.pop
  refine ⟨_, rfl, .inl ⟨rfl, _, SqL.of hDn2⟩, Dk, _, .int cl, rfl, rfl, hDn2, ZW ns2 cl, ?_⟩
  rw [ZX]
  have sb4 := sb13.trans (SB.upd (H := H3) (o := .lst (ns2.map V.int)))
  generalize upd H3 Dk (.lst (ns2.map V.int)) = H4 at hD4 sb4
  have m9 := ZJ cl (show (0 : Int) < 9 by decide)
  have m60 := ZJ (cl / 9) (show (0 : Int) < 60 by decide)
  obtain ⟨L, hatL, L1, L60⟩ := Zf0 (ns := [1, 2, 2, 2, 3, 3, 4, 6, 1 + cl / 9 % 60]) (lo := 1) (hi := 60) m9.1 m9.2 (fun x hx => by
   simp only [List.mem_cons, List.not_mem_nil, or_false] at hx
   omega) (by decide)
  refine ⟨_, rfl, _, _, rfl, rfl, ⟨by decide, by decide⟩, _, _, rfl, rfl, (by show (0 : Int) < 60; decide), _, _, rfl, rfl, Zl (show 9 ≤ 1000 by decide), fun p3 hp3 => ?_⟩
  have s5 := Zb (o := .lst [.int 1, .int 2, .int 2, .int 2, .int 3, .int 3, .int 4, .int 6, .int (1 + cl / 9 % 60)]) hp3
  have hp3' : (upd H4 p3 (.lst [.int 1, .int 2, .int 2, .int 2, .int 3, .int 3, .int 4, .int 6, .int (1 + cl / 9 % 60)])) p3 = some (.lst (([1, 2, 2, 2, 3, 3, 4, 6, 1 + cl / 9 % 60] : List Int).map V.int)) := Zd
  refine ⟨_, rfl, _, _, rfl, rfl, (by show (0 : Int) < 9; decide), p3, _, _, _, rfl, rfl, SqL.of hp3', hatL, ?_⟩
  have hD5 : DK (upd H4 p3 (.lst [.int 1, .int 2, .int 2, .int 2, .int 3, .int 3, .int 4, .int 6, .int (1 + cl / 9 % 60)])) Dk (n + 1 + 6 * most) := hD4.same s5
  have sb5 : SB Dk H (upd H4 p3 (.lst [.int 1, .int 2, .int 2, .int 2, .int 3, .int 3, .int 4, .int 6, .int (1 + cl / 9 % 60)])) := sb4.trans (ZfE s5)
  generalize upd H4 p3 (.lst [.int 1, .int 2, .int 2, .int 2, .int 3, .int 3, .int 4, .int 6, .int (1 + cl / 9 % 60)]) = H5 at hD5 sb5
  intro d hd
  have hdD : d ≠ Dk := fun e => by
   obtain ⟨_, e2, _⟩ := hD5
   rw [← e, hd] at e2
   cases e2
  have hdn : H d = none := by
   cases e : H d with
   | none => rfl
   | some u =>
    rw [sb5 _ _ hdD e] at hd
    cases hd
  have s6 := Zb (o := .dK []) hd
  have hD6 : DK (upd H5 d (.dK [])) Dk (n + 6 * most + 1) := (hD5.same s6).less (by omega)
  have sb6 : SB Dk H (upd H5 d (.dK [])) := sb5.trans (ZfE s6)
  have hd6 : (upd H5 d (.dK [])) d = some (.dK (gD [] fun _ => 0)) := Zd
  generalize upd H5 d (.dK []) = H6 at hD6 sb6 hd6
  refine ⟨_, rfl, _, _, rfl, rfl, ?_⟩
  obtain ⟨ns3, cn, hDn3, _, _, hD7⟩ := hD6.pop
  refine ⟨_, rfl, .inl ⟨rfl, _, SqL.of hDn3⟩, Dk, _, .int cn, rfl, rfl, hDn3, ZW ns3 cn, ?_⟩
  rw [ZX]
  have sb7 := sb6.trans (SB.upd (H := H6) (o := .lst (ns3.map V.int)))
  have hd7 : (upd H6 Dk (.lst (ns3.map V.int))) d = some (.dK (gD [] fun _ => 0)) := by rw [Zg hdD]; exact hd6
  generalize upd H6 Dk (.lst (ns3.map V.int)) = H7 at hD7 sb7 hd7
  have mm := ZJ cn (show (0 : Int) < (most : Int) by omega)
  refine ⟨_, rfl, _, _, rfl, rfl, (by show (0 : Int) < (most : Int); omega), _, _, rfl, rfl, _, rfl, by omega, by omega, ?_⟩
  have hN : 1 ≤ (1 + cn % (most : Int)).toNat ∧ (1 + cn % (most : Int)).toNat ≤ most := by omega
  generalize (1 + cn % (most : Int)).toNat = N at hN
  have eroom : (301 : Int) - (L : Int) = ((301 - L : Nat) : Int) := by omega
  refine YS (n := N) (fun i σ H8 => ∃ (ks : List Str) (g : Str → Int) (rm : Nat) (z3 z7 z8 z9 : Option V), σ = [some (.ref Dk), some (.int most), some (.str (tx y)), z3, some (.int (L : Int)), some (.ref d), some (.int (rm : Int)), z7, z8, z9] ∧ SB Dk H H8 ∧ DK H8 Dk (n + 6 * (N - i)) ∧ H8 d = some (.dK (gD ks g)) ∧ DG ks g L ∧ tN ks g + rm ≤ 301 - L ∧ (i = 0 → rm = 301 - L) ∧ (1 ≤ i → ks ≠ []))
   ⟨[], fun _ => 0, 301 - L, _, none, none, none, (by rw [← eroom]; rfl), sb7, hD7.less (by omega), hd7, ⟨List.nodup_nil, (fun x h => by cases h), (fun x h => by cases h), (fun x _ => rfl), (fun x h => by cases h), Nat.zero_le _, by omega, by omega⟩, by show 0 + (301 - L) ≤ _; omega, (fun _ => rfl), fun h => absurd h (by decide)⟩ ?_ ?_
  ·clear hd7 hd6 hD7 hD6 hD5 hD4 hD3 hD2 hD1 hDn hDn2 hDn3 hD3'
   rintro i σ H8 hi ⟨ks, g, rm, z3, z7, z8, z9, rfl, sb8, hD8, hdd, hG, hrm, hr0, hks⟩
   have hkf := hG.few
   refine ⟨_, rfl, _, rfl, _, rfl, Dk, y, L, n + 6 * (N - i) - 5, rfl, by omega, by omega, yc, by omega, hD8.less (by omega), fun z H9 sb9 hD9 hz zc => ?_⟩
   have hdd9 := sb9 _ _ hdD hdd
   have sb89 := sb8.trans sb9
   have hD9' : DK H9 Dk (n + 6 * (N - (i + 1)) + 1) := hD9.less (by omega)
   obtain ⟨ns4, c4, hDn4, _, _, hD10⟩ := hD9'.pop
   refine ⟨_, rfl, .inl ⟨rfl, _, SqL.of hDn4⟩, Dk, _, .int c4, rfl, rfl, hDn4, ZW ns4 c4, ?_⟩
   rw [ZX]
   have sb10 := sb89.trans (SB.upd (H := H9) (o := .lst (ns4.map V.int)))
   have hdd10 : (upd H9 Dk (.lst (ns4.map V.int))) d = some (.dK (gD ks g)) := by rw [Zg hdD]; exact hdd9
   generalize upd H9 Dk (.lst (ns4.map V.int)) = H10 at hD10 sb10 hdd10
   have m6 := ZJ c4 (show (0 : Int) < 6 by decide)
   have m12 := ZJ (c4 / 6) (show (0 : Int) < 12 by decide)
   have m300 := ZJ (c4 / 6) (show (0 : Int) < 300 by decide)
   obtain ⟨v, hatv, v1, v300⟩ := Zf0 (ns := [1, 1, 1, 2, 1 + c4 / 6 % 12, 1 + c4 / 6 % 300]) (lo := 1) (hi := 300) m6.1 m6.2 (fun x hx => by
    simp only [List.mem_cons, List.not_mem_nil, or_false] at hx
    omega) (by decide)
   refine ⟨_, rfl, _, rfl, _, _, rfl, rfl, ⟨by decide, by decide⟩, _, _, rfl, rfl, (by show (0 : Int) < 12; decide), _, _, rfl, rfl, _, rfl, _, _, rfl, rfl, ⟨by decide, by decide⟩, _, _, rfl, rfl, (by show (0 : Int) < 300; decide), _, _, rfl, rfl, Zl (show 6 ≤ 1000 by decide), fun p5 hp5 => ?_⟩
   have s11 := Zb (o := .lst [.int 1, .int 1, .int 1, .int 2, .int (1 + c4 / 6 % 12), .int (1 + c4 / 6 % 300)]) hp5
   have hp5' : (upd H10 p5 (.lst [.int 1, .int 1, .int 1, .int 2, .int (1 + c4 / 6 % 12), .int (1 + c4 / 6 % 300)])) p5 = some (.lst (([1, 1, 1, 2, 1 + c4 / 6 % 12, 1 + c4 / 6 % 300] : List Int).map V.int)) := Zd
   have hD11 : DK (upd H10 p5 (.lst [.int 1, .int 1, .int 1, .int 2, .int (1 + c4 / 6 % 12), .int (1 + c4 / 6 % 300)])) Dk (n + 6 * (N - (i + 1))) := hD10.same s11
   have sb11 : SB Dk H (upd H10 p5 (.lst [.int 1, .int 1, .int 1, .int 2, .int (1 + c4 / 6 % 12), .int (1 + c4 / 6 % 300)])) := sb10.trans (ZfE s11)
   have hdd11 := s11 _ _ hdd10
   refine ⟨_, rfl, _, _, rfl, rfl, (by show (0 : Int) < 6; decide), p5, _, _, _, rfl, rfl, SqL.of hp5', hatv, _, _, rfl, ?_⟩
   obtain ⟨mn, emn, hmn, hmn0⟩ : ∃ mn : Nat, (if (v : Int) < (rm : Int) then (v : Int) else (rm : Int)) = (mn : Int) ∧ mn ≤ rm ∧ (mn = 0 → rm = 0) := ⟨(if (v : Int) < (rm : Int) then (v : Int) else (rm : Int)).toNat, by split <;> omega, by split <;> omega, by split <;> omega⟩
   generalize upd H10 p5 (.lst [.int 1, .int 1, .int 1, .int 2, .int (1 + c4 / 6 % 12), .int (1 + c4 / 6 % 300)]) = H11 at hD11 sb11 hdd11
   dsimp only [JH]
   rw [emn]
   refine ⟨_, rfl, _, _, rfl, rfl, _, rfl, ?_⟩
   by_cases c : mn = 0
   ·have := hmn0 c
    refine Yl (decide_eq_false (by omega)) ⟨ks, g, rm, _, _, _, _, rfl, sb11, hD11, hdd11, hG, hrm, (fun h => absurd h (by omega)), fun _ => ?_⟩
    by_cases ci : 1 ≤ i
    ·exact hks ci
    ·have := hr0 (by omega)
     omega
   ·refine Yx (decide_eq_true (by omega)) ?_
    have hgt := Js (ks := ks) (g := g) (y := tx z) fun hP => hG.zero _ hP
    refine ⟨_, rfl, d, rfl, .inl ⟨_, .inl hdd11⟩, _, rfl, _, DGet.k (k := Sum.inr (tx z)) hdd11, _, rfl, _, _, hgt, rfl, _, rfl, _, rfl, d, _, rfl, DPut.k (k := Sum.inr (tx z)) hdd11 (by rw [Yq]; exact Zr (by omega)), ?_⟩
    rw [Jr]
    refine ⟨_, rfl, _, rfl, _, _, rfl, rfl, ?_⟩
    have hG2 := hG.more (o := tx z) (n := g (tx z) + (mn : Int)) (by rw [Zz]; exact hz) (by rw [ZI]; exact zc) (by omega) (by omega)
    refine ⟨ZV ks (tx z), _, rm - mn, some (.int c4), some (.int (0 + (i : Int))), some (.str (tx z)), some (.int (mn : Int)), ?_, fun b u hb he => ?_, ?_, Zd, hG2, ?_, (fun h => absurd h (by omega)), fun _ e => ?_⟩
    ·rw [show ((rm - mn : Nat) : Int) = (rm : Int) - (mn : Int) by omega]
     rfl
    ·rw [Zg (Zj he hdn)]
     exact sb11 b u hb he
    ·obtain ⟨l, e1, e2⟩ := hD11
     exact ⟨l, by rw [Zg (Ne.symm hdD)]; exact e1, e2⟩
    ·have := hG.tput (o := tx z) (n := g (tx z) + (mn : Int)) (by omega)
     omega
    ·have : tx z ∈ ZV ks (tx z) := addK_mem.mpr (.inr rfl)
     rw [e] at this
     cases this
  ·rintro σ H8 ⟨ks, g, rm, z3, z7, z8, z9, rfl, sb8, hD8, hdd, hG, hrm, hr0, hks⟩
   exact ⟨_, rfl, k d H8 ks g L sb8 (hD8.less (by omega)) hdd hG (hks hN.1)⟩
end
theorem Zgd {ks : List Str} {p : Str} (nd : ks.Nodup) (h : 1 < ks.length) : (ks.filter fun x => decide (x ≠ p)) ≠ [] := fun e => by
 have hh : ∀ x ∈ ks, x = p := fun x hx => by
  have := List.filter_eq_nil_iff.mp e x hx
  simpa using this
 cases ks with
 | nil => simp at h
 | cons a l =>
  cases l with
  | nil => simp at h
  | cons b l =>
   have ha := hh a (by simp)
   have hb := hh b (by simp)
   rw [ha, hb] at nd
   simp at nd
theorem Zg6 {H : Hp} {v1 v2 : V} {e0 : Str × Int} {es0 : Es} {L : Nat} (hF : Zdo (e0 :: es0)) (h1 : VerV H v1 e0 es0 L) (h2 : VerV H v2 e0 es0 L) : ∃ d, RepD H d v1 ∧ RepD H d v2 ∧ Zfk 3 d := by
 obtain ⟨q1, w1, x1, s1, rfl, hq1, p1, c1⟩ := h1
 obtain ⟨q2, w2, x2, s2, rfl, hq2, p2, c2⟩ := h2
 have es := SPts.one p1 p2
 subst es
 have two : ∀ (wd : Str) (d : PyData), w1 = wd → w2 = wd → RepD H d x1 → RepD H d x2 → Zfk 2 d → ∃ d, RepD H d (.ref q1) ∧ RepD H d (.ref q2) ∧ Zfk 3 d := by
  intro wd d e1 e2 r1 r2 f
  rw [e1] at hq1
  rw [e2] at hq2
  refine ⟨.tuple [.str wd, d], ?_, ?_, .tup 2 _ (fun d' hd' => ?_) (by simp)⟩
  ·rw [RepD]
   refine ⟨q1, _, rfl, hq1, ?_⟩
   rw [RepA]
   refine ⟨_, _, rfl, by rw [RepD], ?_⟩
   rw [RepA]
   exact ⟨_, _, rfl, r1, by rw [RepA]⟩
  ·rw [RepD]
   refine ⟨q2, _, rfl, hq2, ?_⟩
   rw [RepA]
   refine ⟨_, _, rfl, by rw [RepD], ?_⟩
   rw [RepA]
   exact ⟨_, _, rfl, r2, by rw [RepA]⟩
  ·rcases List.mem_cons.mp hd' with z | z
   ·rw [z]; exact .str 2 _
   ·rw [List.mem_singleton.mp z]; exact f
 have b3 := (Zab hF (fun _ => rfl) p1).2.2
 rcases c1 with ⟨a, b, c⟩ | ⟨a, b, c, ps, d, f, g, m⟩ | ⟨a, b, c, b', X, ex, eb, eX, _⟩
 ·rcases c2 with ⟨a2, b2, cc2⟩ | ⟨a2, b2, _⟩ | ⟨a2, b2, _⟩
  ·exact two _ _ a a2 (Y2 c) (Y2 cc2) (JV b3)
  ·exact absurd b b2
  ·exact absurd b b2
 ·rcases c2 with ⟨a2, b2, _⟩ | ⟨a2, b2, _, ps2, d2, f2, _, m2⟩ | ⟨a2, _, cc2, _⟩
  ·exact absurd b2 b
  ·have : ps = ps2 := X4 f f2 fun x => by rw [m, m2]
   subst this
   refine two _ (.tuple (ps.map PyData.str)) a a2 (XR d) (XR d2) (.tup 1 _ (fun d' hd' => ?_) (by rw [List.length_map]; omega))
   obtain ⟨y, _, rfl⟩ := List.mem_map.mp hd'
   exact .str 1 _
  ·exact absurd cc2 c
 ·rcases c2 with ⟨a2, b2, _⟩ | ⟨a2, _, cc2, _⟩ | ⟨a2, _, _, b2', X2, ex2, eb2, eX2, _⟩
  ·exact absurd b2 b
  ·exact absurd c cc2
  ·subst eb eb2 eX eX2
   exact two _ (.str _) a a2 (by rw [ex, RepD]) (by rw [ex2, RepD]) (.str 2 _)
section
variable {P : Program} {w : World} {K : PySem.W.Frag} {mg : Str → Option Value} {base : Heap}
abbrev ZdX : Stmt := top 28
abbrev ZiR : List Str := ["_law_deck_here", "_law_most", "_law_cell", "_law_signs_here", "_law_long", "_law_found", "_law_piece"]
theorem scLHeap : Zt ZiR ["_law_deck_here", "_law_most"] (Zk ZdX) := ⟨rfl, rfl, rfl, by decide +kernel, rfl, by decide +kernel, by decide +kernel⟩
def ZgB : Sp := fun vs H Q _ => ∃ (D : Addr) (most n : Nat), vs = [.ref D, .int most] ∧ 12 ≤ most ∧ most ≤ 60 ∧ DK H D (n + 5 + 6 * most) ∧ ∀ d H' ks g L, SB D H H' → DK H' D n → H' d = some (.dK (gD ks g)) → DG ks g L → ks ≠ [] → Q (.ref d) H'
theorem Zen (D : HasDef K mg "_law_heap" ZdX ["_law_deck_here", "_law_most"]) (B : Blt mg) (g8_ : FOk P w K mg base 4 "_law_pieces" ["_law_deck_here", "_law_most"] Zco) (g10_ : FOk P w K mg base 4 "_law_text" ["_law_deck_here", "_law_most"] Zgz) (g11_ : FOk P w K mg base 4 "_law_torn" ["_law_signs_here", "_law_long"] ZdE) (g9_ : FOk P w K mg base 4 "_law_signs" ["_law_deck_here", "_law_some", "_law_long"] Zae) : FOk P w K mg base 5 "_law_heap" ["_law_deck_here", "_law_most"] ZgB := by
 refine D.ok scLHeap (fun vs H Q E h => ?_) (fun f cdv A outer s H vs Q E hr h => ?_)
 ·obtain ⟨D, most, n, rfl, _⟩ := h
  rfl
 ·obtain ⟨Dk, most, n, rfl, m1, m3, hD, k⟩ := h
  have hu := ZaE hr
  refine ⟨_, (Zc (Zm (i := 2) scLHeap.nd rfl (.inl rfl) (Ym F.plainAttrs_list F.slot_list_pop F.type_list_pop Z0 (pv 0)))
   (Zc (Z2 (Zs Xc (Zn ZC (pv 2) Ze) Ze (Zx _)) (Zh (Zq (ZA g8_ hr (Za (pv 0) (Za (pv 1) Zf))))) Zy)
   (Zc (Zm (i := 3) scLHeap.nd rfl (.inl rfl) (ZA g10_ hr (Za (pv 0) (Za (ZF ix_list (ZU (Za Ze (Za Ze Zf))) (ZO Zfb rfl B.int Zjr (Za (Jd (YB Xc (Zn ZC (Zn Z7 (pv 2) Ze) Ze) Ze (Zx _)) (JP (YB Jh (pv 1) Ze (Zx _)))) Zf)) (fun _ _ => rfl)) Zf))))
   (Zc (Zm (i := 4) scLHeap.nd rfl (.inl rfl) (Zn ZP Ze (Zn ZC (Zn Z7 (pv 2) Ze) (Zi (Xq rfl) rfl B.min Zgr (Za Ze (Za (Zi Zo rfl B.len ZR (Za (pv 3) Zf)) Zf))))))
   (Zc (Z2 (Zs Xc (Zn ZC (Zn Z7 (pv 2) Ze) Ze) Ze (Zx _)) (Zh (Zm (i := 4) scLHeap.nd rfl (.inl rfl) (Zn ZP Ze (Zn ZC (Zn Z7 (pv 2) Ze) (Zi Zo rfl B.len ZR (Za (pv 3) Zf)))))) Zy)
   (Zc (Zm (i := 5) scLHeap.nd rfl (.inl rfl) (ZA g11_ hr (Za (pv 3) (Za (pv 4) Zf))))
   (Zc (Zm (i := 2) scLHeap.nd rfl (.inl rfl) (Ym F.plainAttrs_list F.slot_list_pop F.type_list_pop Z0 (pv 0)))
   (Zc (Z2 (PW.pt (Zcr (Zs Xc (Zn ZC (pv 2) Ze) Ze (Zx _)) (Zar (Zs Jh (Zi Xr rfl B.len ZR (Za (pv 5) Zf)) Ze (Zx _))))) (Zh (YA (ZfL (pv 5) (ZF ix_list (Zi (YE rfl) rfl B.sorted Yj (Za (pv 5) Zf)) (Zn ZC (Zn Z7 (pv 2) Ze) (Zi Xr rfl B.len ZR (Za (pv 5) Zf))) (fun _ _ => rfl)) ⟨rfl, rfl, rfl, rfl⟩))) Zy)
   (Zc (Z2 (PW.pt (Zcr (Zs Xc (Zn ZC (pv 2) Ze) Ze (Zx _)) (Zar (Zs Zhy (Zi Zo rfl B.len ZR (Za (pv 3) Zf)) Ze (Zx _))))) (Zc (Zm (i := 6) scLHeap.nd rfl (.inl rfl) (ZA g9_ hr (Za (pv 0) (Za (Zu ZQ (pv 3) ZD (ZB Ze)) (Za (pv 4) Zf)))))
   (Zh (Ys hu (pv 5) (pv 6) (Zn ZP (Yh hu (pv 5) (pv 6) Ze ⟨rfl, rfl, rfl, rfl⟩) Ze) rfl))) Zy)
   (Zh (Zq (pv 5)))))))))))), ?_⟩
  have hD0 : DK H Dk (n + 4 + 6 * most + 1) := hD.less (by omega)
  obtain ⟨ns, c, hDn, c0, c1, hD1⟩ := hD0.pop
  refine ⟨_, rfl, .inl ⟨rfl, _, SqL.of hDn⟩, Dk, _, .int c, rfl, rfl, hDn, ZW ns c, ?_⟩
  rw [ZX]
  have sb1 : SB Dk H (upd H Dk (.lst (ns.map V.int))) := SB.upd
  have hnD : ∀ {b : Addr}, H b = none → b ≠ Dk := fun {b} hb e => by
   obtain ⟨_, e2, _⟩ := hD
   rw [← e, hb] at e2
   cases e2
  generalize upd H Dk (.lst (ns.map V.int)) = H1 at sb1 hD1
  dsimp only
  refine ⟨_, rfl, _, _, rfl, rfl, (by show (0 : Int) < 2; decide), rfl, _, rfl, ?_⟩
  by_cases ev : c % 2 = 0
  ·exact Yx (Jp ev) ⟨_, rfl, _, rfl, Dk, most, n, rfl, by omega, by omega, hD1, fun d H' ks g L sb hD' hd hG hne => k d H' ks g L (sb1.trans sb) hD' hd hG hne⟩
  refine Yl (Jo ev) ?_
  dsimp only [Zif]
  refine ZZ (fun σ H2 => ∃ z : List Nat, σ = [some (.ref Dk), some (.int most), some (.int c), some (.str (tx z)), none, none, none] ∧ SB Dk H H2 ∧ DK H2 Dk (n + 27) ∧ 1 ≤ z.length ∧ z.length ≤ 300 ∧ Cd z) (fun R hR => ?_) ?_
  ·refine ⟨_, rfl, Zl (show 2 ≤ 1000 by decide), fun p hp => ?_⟩
   have s2 := Zb (o := .lst [.int 63, .int 300]) hp
   have hp2 : (upd H1 p (.lst [.int 63, .int 300])) p = some (.lst [.int 63, .int 300]) := Zd
   have hD2 : DK (upd H1 p (.lst [.int 63, .int 300])) Dk (n + 27 + 30) := (hD1.same s2).less (by omega)
   have sb2 : SB Dk H (upd H1 p (.lst [.int 63, .int 300])) := sb1.trans (ZfE s2)
   generalize upd H1 p (.lst [.int 63, .int 300]) = H2 at hp2 hD2 sb2
   have hx : ∀ b : Bool, ∃ v : Nat, atI [V.int 63, V.int 300] (if b = true then 1 else 0) = some (.int (v : Int)) ∧ 1 ≤ v ∧ v ≤ 300 := fun b => by
    cases b
    ·exact ⟨63, rfl, by decide, by decide⟩
    ·exact ⟨300, rfl, by decide, by decide⟩
   refine ⟨_, rfl, _, _, rfl, rfl, ⟨by decide, by decide⟩, _, _, rfl, rfl, (by show (0 : Int) < 8; decide), rfl, _, rfl, Zjg (fun e => ?_) (fun e => ?_)⟩
   ·obtain ⟨v, hat, v1, v3⟩ := hx (decide ((12 : Int) < (most : Int)))
    exact ⟨_, rfl, _, _, rfl, rfl, .inr ⟨_, rfl, p, _, _, _, rfl, rfl, SqL.of hp2, hat, Dk, v, n + 27, rfl, v1, v3, hD2, fun z H3 sb3 hD3 z1 z3 zc => hR _ _ ⟨z, rfl, sb2.trans sb3, hD3, z1, z3, zc⟩⟩⟩
   ·obtain ⟨v, hat, v1, v3⟩ := hx false
    exact .inr ⟨_, rfl, p, _, _, _, rfl, rfl, SqL.of hp2, hat, Dk, v, n + 27, rfl, v1, v3, hD2, fun z H3 sb3 hD3 z1 z3 zc => hR _ _ ⟨z, rfl, sb2.trans sb3, hD3, z1, z3, zc⟩⟩
  clear sb1 hD1 hDn
  rintro σ H2 ⟨z, rfl, sb2, hD2, z1, z3, zc⟩
  have hzl : (tx z).length = z.length := Zz z
  have hlen : ∀ H', Zia K (.str (tx z)) H' (tx z).length := fun H' => ⟨ZM (by omega), rfl⟩
  have hm6 : (0 : Int) < (if ((tx z).length : Int) < 6 then ((tx z).length : Int) else 6) ∧ (if ((tx z).length : Int) < 6 then ((tx z).length : Int) else 6) ≤ (z.length : Int) := by split <;> omega
  refine ⟨_, rfl, _, _, rfl, rfl, ⟨by decide, by decide⟩, _, rfl, .str (tx z), _, rfl, hlen _, 6, _, rfl, _, _, rfl, rfl, hm6.1, _, _, rfl, rfl, ?_⟩
  have mb := ZJ (c / 16) hm6.1
  obtain ⟨L0, eL0⟩ : ∃ L0 : Nat, 1 + c / 16 % (if ((tx z).length : Int) < 6 then ((tx z).length : Int) else 6) = (L0 : Int) := ⟨(1 + c / 16 % (if ((tx z).length : Int) < 6 then ((tx z).length : Int) else 6)).toNat, by omega⟩
  have hL0 : 1 ≤ L0 ∧ L0 ≤ z.length := by omega
  dsimp only
  refine ZZ (fun σ H5 => H5 = H2 ∧ ∃ L : Nat, σ = [some (.ref Dk), some (.int most), some (.int c), some (.str (tx z)), some (.int (L : Int)), none, none] ∧ 1 ≤ L ∧ L ≤ z.length) (fun R hR => ?_) ?_
  ·refine ⟨_, rfl, _, _, rfl, rfl, ⟨by decide, by decide⟩, _, _, rfl, rfl, (by show (0 : Int) < 5; decide), rfl, _, rfl, ?_⟩
   by_cases c5 : c / 96 % 5 = 0
   ·have hlz : (0 : Int) < ((tx z).length : Int) := by omega
    refine Yx (Jp c5) ⟨_, rfl, _, _, rfl, rfl, ⟨by decide, by decide⟩, _, rfl, .str (tx z), _, rfl, hlen _, _, _, rfl, rfl, hlz, _, _, rfl, rfl, ?_⟩
    have mb3 := ZJ (c / 480) hlz
    obtain ⟨L1, eL1⟩ : ∃ L1 : Nat, 1 + c / 480 % ((tx z).length : Int) = (L1 : Int) := ⟨(1 + c / 480 % ((tx z).length : Int)).toNat, by omega⟩
    refine hR _ _ ⟨rfl, L1, ?_, by omega, by omega⟩
    rw [← eL1]
    rfl
   ·refine Yl (Jo c5) (hR _ _ ⟨rfl, L0, ?_, hL0.1, hL0.2⟩)
    rw [← eL0]
    rfl
  rintro σ H5 ⟨rfl, L, rfl, L1, L2⟩
  clear hL0 eL0 mb hm6 L0
  refine ⟨_, rfl, _, rfl, z, L, rfl, L1, L2, by omega, fun d H6 ks hd s6 hdd hk => ?_⟩
  have hO := Zha L1 L2 z3 zc hk
  have hksne : ks ≠ [] := fun e => by
   have := (hk.mem (tx ((z.drop 0).take L))).mpr (List.mem_map.mpr ⟨0, List.mem_range.mpr (by omega), rfl⟩)
   rw [e] at this
   cases this
  have htot : tN ks (cnt (pcs z L)) ≤ z.length := by rw [Zgw hk.nd fun x hx => (hk.mem x).mpr hx, Jf]; omega
  have hdD : d ≠ Dk := fun e => by
   obtain ⟨_, e2, _⟩ := hD2
   rw [← e, hd] at e2
   cases e2
  have hdn : H d = none := by
   cases e : H d with
   | none => rfl
   | some u =>
    rw [sb2 _ _ hdD e] at hd
    cases hd
  have hD6 : DK H6 Dk (n + 26 + 1) := hD2.same s6
  have sb6 : SB Dk H H6 := sb2.trans (ZfE s6)
  clear hk s6 hD2 sb2 hd
  generalize cnt (pcs z L) = g at hO htot hdd
  obtain ⟨ns2, c2, hDn2, _, _, hD7⟩ := hD6.pop
  refine ⟨_, rfl, .inl ⟨rfl, _, SqL.of hDn2⟩, Dk, _, .int c2, rfl, rfl, hDn2, ZW ns2 c2, ?_⟩
  rw [ZX]
  have sb7 := sb6.trans (SB.upd (H := H6) (o := .lst (ns2.map V.int)))
  have hd7 : (upd H6 Dk (.lst (ns2.map V.int))) d = some (.dK (gD ks g)) := by rw [Zg hdD]; exact hdd
  generalize upd H6 Dk (.lst (ns2.map V.int)) = H7 at hD7 sb7 hd7
  clear hdd hDn2 hD6 sb6
  dsimp only
  refine ZZ (fun σ H8 => σ = [some (.ref Dk), some (.int most), some (.int c2), some (.str (tx z)), some (.int (L : Int)), some (.ref d), none] ∧ SB Dk H H8 ∧ DK H8 Dk (n + 26) ∧ ∃ ks g, H8 d = some (.dK (gD ks g)) ∧ DG ks g L ∧ ks ≠ [] ∧ tN ks g ≤ z.length) (fun R hR => ?_) ?_
  ·refine ⟨_, rfl, _, _, rfl, rfl, (by show (0 : Int) < 3; decide), rfl, _, rfl, ?_⟩
   by_cases e3 : c2 % 3 = 0
   rotate_left
   ·exact Yl (Jo e3) (Yl rfl (hR _ _ ⟨rfl, sb7, hD7, ks, g, hd7, hO, hksne, htot⟩))
   refine Yx (Jp e3) ⟨_, rfl, d, _, rfl, hd7, _, _, rfl, rfl, _, rfl, ?_⟩
   rw [Yq]
   have hkf := hO.few
   by_cases e4 : 1 < ks.length
   rotate_left
   ·exact Yl (decide_eq_false (by omega)) (hR _ _ ⟨rfl, sb7, hD7, ks, g, hd7, hO, hksne, htot⟩)
   refine Yx (decide_eq_true (by omega)) ⟨_, rfl, d, rfl, .inl ⟨_, .inl hd7⟩, _, rfl, d, ks, fun x => .int (g x), rfl, hd7, by omega, fun p ss hp pm srt => ?_⟩
   have s8 := Zb (o := .lst (ss.map V.str)) hp
   have hp8 : (upd H7 p (.lst (ss.map V.str))) p = some (.lst (ss.map V.str)) := Zd
   have hd8 := s8 _ _ hd7
   have hD8 : DK (upd H7 p (.lst (ss.map V.str))) Dk (n + 26) := hD7.same s8
   have sb8 : SB Dk H (upd H7 p (.lst (ss.map V.str))) := sb7.trans (ZfE s8)
   generalize upd H7 p (.lst (ss.map V.str)) = H8 at hp8 hd8 hD8 sb8
   have hlk : (0 : Int) < ((gD ks g).length : Int) := by rw [Yq]; omega
   have mk := ZJ (c2 / 3) hlk
   obtain ⟨t, ht, hat⟩ := Zj0 (ts := ss) (i := c2 / 3 % ((gD ks g).length : Int)) mk.1 (by rw [pm.length_eq]; rw [Yq] at mk ⊢; exact mk.2)
   refine ⟨_, rfl, _, _, rfl, rfl, ⟨by decide, by decide⟩, _, rfl, d, _, rfl, hd8, _, _, rfl, rfl, hlk, p, _, _, _, rfl, rfl, SqL.of hp8, hat, _, Sum.inr t, .int (g t), hd8, rfl, by rw [ZcL, if_pos (pm.mem_iff.mp ht)], ?_⟩
   rw [ZhY]
   refine hR _ _ ⟨rfl, fun b u hb he => ?_, ?_, _, (fun x => if x = t then 0 else g x), ?_, hO.gone t, Zgd hO.nd e4, ?_⟩
   ·rw [Zg (Zj he hdn)]
    exact sb8 b u hb he
   ·obtain ⟨l, e1, e2⟩ := hD8
    exact ⟨l, by rw [Zg (Ne.symm hdD)]; exact e1, e2⟩
   ·rw [Zd]
    refine congrArg (fun l => some (HO.dK l)) (XU fun x hx => ?_)
    have := (List.mem_filter.mp hx).2
    simp only [decide_eq_true_eq] at this
    rw [if_neg this]
   ·refine Nat.le_trans (Nat.le_trans (ZaW _) (Zhd fun x hx => ?_)) htot
    show (if x = t then 0 else g x) ≤ g x
    have := hO.pos x hx
    by_cases c : x = t
    ·rw [if_pos c]; omega
    ·rw [if_neg c]; exact Int.le_refl _
  clear hd7 hO hksne htot sb7 hD7
  clear ks g
  rintro σ H8 ⟨rfl, sb8, hD8, ks, g, hd8, hO, hksne, htot⟩
  have hkf := hO.few
  refine ZZ (fun σ H9 => (∃ z6 : Option V, σ = [some (.ref Dk), some (.int most), some (.int c2), some (.str (tx z)), some (.int (L : Int)), some (.ref d), z6]) ∧ SB Dk H H9 ∧ DK H9 Dk n ∧ ∃ ks g, H9 d = some (.dK (gD ks g)) ∧ DG ks g L ∧ ks ≠ []) (fun R hR => ?_) ?_
  ·refine ⟨_, rfl, _, _, rfl, rfl, (by show (0 : Int) < 3; decide), rfl, _, rfl, ?_⟩
   by_cases e3 : c2 % 3 = 1
   rotate_left
   ·exact Yl (Jo e3) (Yl rfl (hR _ _ ⟨⟨_, rfl⟩, sb8, hD8.less (by omega), ks, g, hd8, hO, hksne⟩))
   refine Yx (Jp e3) ⟨_, rfl, .str (tx z), _, rfl, hlen _, _, _, rfl, rfl, _, rfl, ?_⟩
   by_cases e4 : z.length < 300
   rotate_left
   ·exact Yl (decide_eq_false (by omega)) (hR _ _ ⟨⟨_, rfl⟩, sb8, hD8.less (by omega), ks, g, hd8, hO, hksne⟩)
   refine Yx (decide_eq_true (by omega)) ?_
   refine ⟨_, rfl, _, rfl, _, rfl, _, rfl, ZM (by omega), _, rfl, ?_⟩
   rw [ZS (by decide)]
   have t26 : (26 : Int).toNat = 26 := rfl
   refine ⟨Dk, z.take (26 : Int).toNat, L, n, rfl, by rw [List.length_take]; omega, by rw [List.length_take]; omega, fun c hc => zc c (List.mem_of_mem_take hc), by omega, hD8.less (by omega), fun y H9 sb9 hD9 yl yc => ?_⟩
   have hd9 := sb9 _ _ hdD hd8
   have hgt := Js (ks := ks) (g := g) (y := tx y) fun hP => hO.zero _ hP
   refine ⟨_, rfl, d, rfl, .inl ⟨_, .inl hd9⟩, _, rfl, _, DGet.k (k := Sum.inr (tx y)) hd9, _, _, hgt, rfl, _, rfl, _, rfl, d, _, rfl, DPut.k (k := Sum.inr (tx y)) hd9 (by rw [Yq]; exact Zr (by omega)), ?_⟩
   rw [Jr]
   refine hR _ _ ⟨⟨_, rfl⟩, fun b u hb he => ?_, ?_, ZV ks (tx y), _, Zd, hO.more (by rw [Zz]; exact yl) (by rw [ZI]; exact yc) (by omega) (by omega), fun e => ?_⟩
   ·rw [Zg (Zj he hdn)]
    exact (sb8.trans sb9) b u hb he
   ·obtain ⟨l, e1, e2⟩ := hD9
    exact ⟨l, by rw [Zg (Ne.symm hdD)]; exact e1, e2⟩
   ·have : tx y ∈ ZV ks (tx y) := addK_mem.mpr (.inr rfl)
    rw [e] at this
    cases this
  rintro σ H9 ⟨⟨z6, rfl⟩, sb9, hD9, ks', g', hd9, hO', hne'⟩
  exact ⟨_, rfl, k d H9 ks' g' L sb9 hD9 hd9 hO' hne'⟩
end
def TB (H H' : Hp) : Prop := ∀ b vs, H b = some (.tup vs) → H' b = some (.tup vs)
theorem ZjQ {D : Addr} {H H' : Hp} {n : Nat} (s : SB D H H') (h : DK H D n) : TB H H' := fun b vs e => by
 obtain ⟨ns, e2, _⟩ := h
 refine s b _ (fun z => ?_) e
 rw [z, e2] at e
 cases e
theorem ZgU {H H' : Hp} {v : V} {es : Es} (h : HeapV H v es) (t : TB H H') : HeapV H' v es := by
 obtain ⟨q, vs, e, hq, p⟩ := h
 exact ⟨q, vs, e, t _ _ hq, p.same t⟩
theorem ZjE {H H' : Hp} {v : V} {e0 : Str × Int} {es0 : Es} {L : Nat} (h : VerV H v e0 es0 L) (t : TB H H') : VerV H' v e0 es0 L := by
 obtain ⟨q, wd, x, ss, e1, e2, e3, h⟩ := h
 refine ⟨q, wd, x, ss, e1, t _ _ e2, e3, ?_⟩
 rcases h with ⟨a, b, c⟩ | ⟨a, b, c, ps, ⟨q2, e4, e5⟩, f⟩ | h
 ·exact .inl ⟨a, b, ZgU c t⟩
 ·exact .inr (.inl ⟨a, b, c, ps, ⟨q2, e4, t _ _ e5⟩, f⟩)
 ·exact .inr (.inr h)
section
variable {P : Program} {w : World} {K : PySem.W.Frag} {mg : Str → Option Value} {base : Heap}
abbrev ZfF : Stmt := top 33
abbrev ZkQ : List Str := ["_law_script", "_law_deck_here", "_law_heap_here", "_law_told", "_law_other"]
theorem scLaw : Zt ZkQ ["_law_script"] (Zk ZfF) := ⟨rfl, rfl, rfl, by decide +kernel, rfl, by decide +kernel, by decide +kernel⟩
def Zfv (K : PySem.W.Frag) : Sp := fun vs H Q _ => ∃ (a : Addr) (ns : List Int), vs = [.ref a] ∧ SqL K H a (ns.map V.int) ∧ ns.length ≤ 63 ∧ ∀ H', Q (.bl true) H'
theorem ZiK {fa : Addr} {fd : FuncData} (Fl : Fun K "law" "law" ZfF fa fd) (B : Blt mg) (g3_ : FOk P w K mg base 6 "_law_deck" ["_law_script", "_law_many"] (ZgC K)) (g4_ : FOk P w K mg base 6 "_law_heap" ["_law_deck_here", "_law_most"] ZgB) (g26_ : FOk P w K mg base 6 "verdict" ["H"] X5) (g5_ : FOk P w K mg base 6 "_law_judged" ["_law_heap_here"] Zcp) (g0_ : FOk P w K mg base 6 "_law_alike" ["_law_found", "_law_due"] (Zfw 3)) :
  FnOk P w K mg base CX0 7 fa fd ["_law_script"] (Zfv K) := by
 refine Fl.ok scLaw (fun vs H Q E h => ?_) (fun cdv A outer s H vs Q E hr h => ?_)
 ·obtain ⟨a, ns, rfl, _⟩ := h
  rfl
 ·obtain ⟨a, ns, rfl, ha, hl, k⟩ := h
  refine ⟨_, (Zc (Zm (i := 1) scLaw.nd rfl (.inl rfl) (ZA g3_ hr (Za (pv 0) (Za Ze Zf))))
   (Zc (Zm (i := 2) scLaw.nd rfl (.inl rfl) (ZO ZE rfl B.tuple Yf (Za (Zi (Yi rfl) rfl B.sorted Yj (Za (XT (ZA g4_ hr (Za (pv 1) (Za Ze Zf)))) Zf)) Zf)))
   (Zc (Z2 (Ja (YM (ZA g5_ hr (Za (pv 2) Zf)))) (Zh (Zq Xk)) Zy)
   (Zc (Zm (i := 3) scLaw.nd rfl (.inl rfl) (ZA g26_ hr (Za (pv 2) Zf)))
   (Zc (Zm (i := 4) scLaw.nd rfl (.inl rfl) (ZO ZE rfl B.tuple Yf (Za (Zi (Yi rfl) rfl B.sorted Yj (Za (XT (ZA g4_ hr (Za (pv 1) (Za Ze Zf)))) Zf)) Zf)))
   (Zh (Zq (Jd (ZA g5_ hr (Za (pv 4) Zf)) (JP (ZA g0_ hr (Za (ZA g26_ hr (Za (pv 2) Zf)) (Za (pv 3) Zf)))))))))))), ?_⟩
  refine ⟨_, rfl, a, ns, 520, rfl, ha, hl, by decide, fun Dk H1 s1 hD1 => ?_⟩
  refine ⟨_, rfl, Dk, 60, 155, rfl, by decide, by decide, hD1, fun d H2 ks g L sb2 hD2 hd hG hne => ?_⟩
  have hkf := hG.few
  refine ⟨d, _, rfl, hd, fun p2 hp2 => ⟨p2, d, ks, fun x => .int (g x), rfl, Zd, Zb hp2 _ _ hd, hG.nd, by omega, fun D1 H7 vs ss s7 hpm hsrt hD1' hvl hv => ⟨D1, vs, rfl, .inl ⟨SqL.of hD1', fun q hq => ?_⟩⟩⟩⟩
  have sq := Zb (o := .tup vs) hq
  have hF := hG.hpy hne hpm hsrt
  have hV : HeapV (upd H7 q (.tup vs)) (.ref q) (ss.map fun x => (x, g x)) := ⟨q, vs, rfl, Zd, (Zaw hvl hv).same sq.tup⟩
  have hD8 : DK (upd H7 q (.tup vs)) Dk 155 := ((hD2.same (Zb hp2)).same s7).same sq
  generalize ss.map (fun x => (x, g x)) = es at hF hV
  generalize upd H7 q (.tup vs) = H8 at hV hD8
  obtain ⟨e0, es0, rfl⟩ : ∃ e es', es = e :: es' := List.exists_cons_of_ne_nil hF.ne
  clear hD1' hpm hsrt hvl hv sq s7 hd hG hne hkf sb2 hD2 hD1 hp2 hq
  refine ⟨_, rfl, .ref q, e0, es0, L, rfl, hV, hF, fun H9 s9 => ⟨_, rfl, Yl (by decide) ?_⟩⟩
  have hV9 := hV.same s9
  have hD9 := hD8.same s9
  refine ⟨_, rfl, .ref q, e0, es0, L, rfl, hV9, hF, fun v' H10 s10 hver => ?_⟩
  have hV10 := hV9.same s10
  have hD10 := hD9.same s10
  clear hV hV9 hD8 hD9 s9 s10
  refine ⟨_, rfl, Dk, 12, 0, rfl, by decide, by decide, hD10.less (by decide), fun d2 H11 ks2 g2 L2 sb11 hD11 hd2 hG2 hne2 => ?_⟩
  have tb := ZjQ sb11 hD10
  have hV11 := ZgU hV10 tb
  have hver11 := ZjE hver tb
  have hkf2 := hG2.few
  refine ⟨d2, _, rfl, hd2, fun p3 hp3 => ⟨p3, d2, ks2, fun x => .int (g2 x), rfl, Zd, Zb hp3 _ _ hd2, hG2.nd, by omega, fun D2 H12 ws st s12 hpm2 hsrt2 hD2 hwl hw => ⟨D2, ws, rfl, .inl ⟨SqL.of hD2, fun q2 hq2 => ?_⟩⟩⟩⟩
  have sq2 := Zb (o := .tup ws) hq2
  have hF2 := hG2.hpy hne2 hpm2 hsrt2
  have hV2 : HeapV (upd H12 q2 (.tup ws)) (.ref q2) (st.map fun x => (x, g2 x)) := ⟨q2, ws, rfl, Zd, (Zaw hwl hw).same sq2.tup⟩
  have s13 := ((Zb (o := _) hp3).trans s12).trans sq2
  have hV13 := hV11.same s13
  have hver13 := hver11.same s13
  generalize st.map (fun x => (x, g2 x)) = es2 at hF2 hV2
  generalize upd H12 q2 (.tup ws) = H13 at hV2 hV13 hver13
  obtain ⟨e1, es1, rfl⟩ : ∃ e es', es2 = e :: es' := List.exists_cons_of_ne_nil hF2.ne
  refine ⟨_, rfl, .ref q2, e1, es1, L2, rfl, hV2, hF2, fun H14 s14 => ⟨true, rfl, Yx rfl ?_⟩⟩
  refine ⟨_, rfl, .ref q, e0, es0, L, rfl, hV13.same s14, hF, fun v2 H15 s15 hver2 => ?_⟩
  obtain ⟨dd, r1, r2, fl⟩ := Zg6 hF.fine hver2 ((hver13.same s14).same s15)
  exact ⟨_, rfl, 3, Nat.le_refl _, v2, v', dd, rfl, r1, r2, fl, fun H16 s16 => k _⟩
end
end Sh
namespace Sh
open PySem L2
theorem blt_mk {K : PySem.W.Frag} {h : Heap} {mg : Str → Option Value} (X : K.In h) (G : h.Ns mainGlobals mg) (z0 : PySem.W.nsIn K mainGlobals "isinstance" = some none) (z1 : PySem.W.nsIn K mainGlobals "int" = some none) (z2 : PySem.W.nsIn K mainGlobals "bool" = some none) (z3 : PySem.W.nsIn K mainGlobals "str" = some none) (z4 : PySem.W.nsIn K mainGlobals "tuple" = some none) (z5 : PySem.W.nsIn K mainGlobals "list" = some none) (z6 : PySem.W.nsIn K mainGlobals "len" = some none) (z7 : PySem.W.nsIn K mainGlobals "range" = some none) (z8 : PySem.W.nsIn K mainGlobals "all" = some none) (z9 : PySem.W.nsIn K mainGlobals "min" = some none) (z10 : PySem.W.nsIn K mainGlobals "sorted" = some none) (z11 : PySem.W.nsIn K mainGlobals "reversed" = some none) (z12 : PySem.W.nsIn K mainGlobals "zip" = some none) (z13 : PySem.W.nsIn K mainGlobals "sum" = some none) (z14 : PySem.W.nsIn K mainGlobals "set" = some none) (z15 : PySem.W.nsIn K mainGlobals "dict" = some none) : Blt mg :=
 ⟨PySem.W.mg_none_of X G z0, PySem.W.mg_none_of X G z1, PySem.W.mg_none_of X G z2, PySem.W.mg_none_of X G z3, PySem.W.mg_none_of X G z4, PySem.W.mg_none_of X G z5, PySem.W.mg_none_of X G z6, PySem.W.mg_none_of X G z7, PySem.W.mg_none_of X G z8, PySem.W.mg_none_of X G z9, PySem.W.mg_none_of X G z10, PySem.W.mg_none_of X G z11, PySem.W.mg_none_of X G z12, PySem.W.mg_none_of X G z13, PySem.W.mg_none_of X G z14, PySem.W.mg_none_of X G z15⟩
theorem all_mk {l : PySem.W.OpenLaw} {w : World} {K : PySem.W.Frag} {h : Heap} {mg : Str → Option Value} {fa f0 : Addr} (X : K.In h) (G : h.Ns mainGlobals mg) (hfa : mg "law" = some (.ref fa)) {oc kV dc pm cd ct : Value} {od an : Option Addr} {sl : Array (Option Value)}
  (B : Blt mg)
  (D0 : HasDef K mg "begin_of" Zan ["piece"])
  (D1 : HasDef K mg "end_of" Zd2 ["piece"])
  (D2 : HasDef K mg "ties_of" ZbI ["H"])
  (D3 : HasDef K mg "points_of" YL ["H"])
  (D4 : HasDef K mg "more_out" Zak ["H"])
  (D5 : HasDef K mg "begins_of" Xh ["H"])
  (D6 : HasDef K mg "start_of" Zaj ["H", "wish"])
  (D7 : HasDef K mg "tied_points" Y9 ["H"])
  (D8 : HasDef K mg "part_of" ZbJ ["H"])
  (D9 : HasDef K mg "hangs" Zd1 ["H"])
  (D10 : HasDef K mg "numbers_out" Xa ["ties"])
  (D11 : HasDef K mg "is_way" Zd0 ["ties", "begin", "numbers"])
  (D12 : HasDef K mg "way_of" ZdU ["ties", "begin"])
  (D13 : HasDef K mg "text_from" Xf ["ties", "begin"])
  (D14 : HasDef K mg "has_many_begins" Ya ["H"])
  (D15 : HasDef K mg "verdict" Zai ["H"])
  (D16 : HasDef K mg "_law_mixed" ZbL ["_law_row", "_law_k"])
  (D17 : HasDef K mg "_law_deck" ZdY ["_law_script", "_law_many"])
  (D18 : HasDef K mg "_law_letters" X9 ["_law_deck_here", "_law_few"])
  (D19 : HasDef K mg "_law_signs" ZbK ["_law_deck_here", "_law_some", "_law_long"])
  (D20 : HasDef K mg "_law_text" ZdW ["_law_deck_here", "_law_most"])
  (D21 : HasDef K mg "_law_torn" ZdV ["_law_signs_here", "_law_long"])
  (D22 : HasDef K mg "_law_pieces" Zal ["_law_deck_here", "_law_most"])
  (D23 : HasDef K mg "_law_heap" ZdX ["_law_deck_here", "_law_most"])
  (D24 : HasDef K mg "_law_alike" Zam ["_law_found", "_law_due"])
  (D25 : HasDef K mg "_law_begins" XQ ["_law_heap_here"])
  (D26 : HasDef K mg "_law_come" ZdZ ["_law_heap_here"])
  (D27 : HasDef K mg "_law_judged" Xg ["_law_heap_here"])
  (a0 : PySem.W.nsIn K mainGlobals "law" = some (some (.ref f0))) (l0 : K.lookup f0 = some ⟨oc, od, .func (PySem.W.fnOf "law" "law" (YT ZfF) (Yt ZfF) (Zk ZfF) .none kV dc pm an cd ct), sl⟩) (c0 : PySem.W.codeIn K cd "law" = true) (k0 : PySem.W.keepIn K (.ref f0) = true) :
  ∃ fd : FuncData, (∀ (s : Shared) (v : Value), BindsTo s fd ⟨[v], []⟩ [("_law_script", v)]) ∧ ∀ base : Heap, K.In base → base.Ns mainGlobals mg → FnOk l.prog w K mg base CX0 7 fa fd ["_law_script"] (Zfv K) := by
 have e := hfa.symm.trans (PySem.W.mg_of X G a0)
 cases e
 refine ⟨PySem.W.fnOf "law" "law" (YT ZfF) (Yt ZfF) (Zk ZfF) .none kV dc pm an cd ct, fun s v => .of_eq rfl, fun base _ _ => ?_⟩
 have W0 := ZbW (P := l.prog) (w := w) (base := base) D0
 have W1 := Zer (P := l.prog) (w := w) (base := base) D1
 have W2 := Zc7 (P := l.prog) (w := w) (base := base) D2 W0 W1
 have W3 := Za9 (P := l.prog) (w := w) (base := base) D3 B W0 W1
 have W4 := ZbR (P := l.prog) (w := w) (base := base) D4 W0 W1
 have W5 := Zbb (P := l.prog) (w := w) (base := base) D5 B W4
 have W6 := ZbQ (P := l.prog) (w := w) (base := base) D6 B W5
 have W7 := JD (P := l.prog) (w := w) (base := base) D7 W0 W1
 have W8 := Zc8 (P := l.prog) (w := w) (base := base) D8 B (W0.mono (by decide)) W7
 have W9 := ZfO (P := l.prog) (w := w) (base := base) D9 B W8 (W3.mono (by decide))
 have W10 := JE (P := l.prog) (w := w) (base := base) D10 B
 have W11 := Zeq (P := l.prog) (w := w) (base := base) D11 B
 have W12 := Zek (P := l.prog) (w := w) (base := base) D12 B W10 W11
 have W13 := Za8 (P := l.prog) (w := w) (base := base) D13 B W12
 have W14 := ZbV (P := l.prog) (w := w) (base := base) D14 B W5
 have W15 := Zc6 (P := l.prog) (w := w) (base := base) D15 B W14 (W5.mono (by decide)) W9 (W8.mono (by decide)) (W2.mono (by decide)) (W0.mono (by decide)) W6 (W13.mono (by decide))
 have W16 := Zda (P := l.prog) (w := w) (base := base) D16 B
 have W17 := Zeo (P := l.prog) (w := w) (base := base) D17 B W16
 have W18 := Zba (P := l.prog) (w := w) (base := base) D18 B
 have W19 := Zc9 (P := l.prog) (w := w) (base := base) D19 B
 have W20 := Zem (P := l.prog) (w := w) (base := base) D20 B W18 W19
 have W21 := Zel (P := l.prog) (w := w) (base := base) D21 B
 have W22 := ZbS (P := l.prog) (w := w) (base := base) D22 B W18 W19
 have W23 := Zen (P := l.prog) (w := w) (base := base) D23 B (W22.mono (by decide)) (W20.mono (by decide)) (W21.mono (by decide)) (W19.mono (by decide))
 have W24 := XB (P := l.prog) (w := w) (base := base) D24 B 2
 have W28 := XB (P := l.prog) (w := w) (base := base) D24 B 3
 have W25 := ZbU (P := l.prog) (w := w) (base := base) D25 B
 have W26 := Zep (P := l.prog) (w := w) (base := base) D26 B
 have W27 := ZbT (P := l.prog) (w := w) (base := base) D27 B W15 (W25.mono (by decide)) (W24.mono (by decide)) (W26.mono (by decide)) (W21.mono (by decide))
 exact ZiK (ZeU (st := ZfF) l0 c0 k0) B (W17.mono (by decide)) (W23.mono (by decide)) (W15.mono (by decide)) W27 (W28.mono (by decide))
theorem walk {l : PySem.W.OpenLaw} {q : Program} {loose : List Str} {XP : (Str → Option Value) → Heap → Prop} {YP : World → Heap → Prop} {d : DefRec} {K : Params → PySem.W.Frag} (hn : l.most = some 63) (hdf : d.params.defaults = [])
  (hY : ∀ (w : World) (h : Heap), YP w h → (K w.params).In h)
  (F : ∀ (w : World) (mg : Str → Option Value) (fa : Addr) (h : Heap), (K w.params).In h → h.Ns mainGlobals mg → mg d.name = some (.ref fa) →
   ∃ fd : FuncData, (∀ (s : Shared) (u : Value), BindsTo s fd ⟨[u], []⟩ [("_law_script", u)]) ∧ ∀ base : Heap, (K w.params).In base → base.Ns mainGlobals mg → FnOk l.prog w (K w.params) mg base CX0 7 fa fd ["_law_script"] (Zfv (K w.params))) :
  PySem.W.WalkO q loose XP YP l.row.toRowW d [] (fun f vs => PySem.call f vs) :=
 L2.walk_of (n := 63) (k := 7) (x := "_law_script") (CX := fun _ => CX0) (sp := fun w => Zfv (K w.params)) hn (by decide) hdf ⟨rfl, by decide, by decide⟩ hY F (fun _ _ a ns hl _ hS => ⟨a, ns, rfl, hS, hl, fun _ => rfl⟩) fun _ _ _ _ _ z => z
end Sh
def PySem.W.Fast.tw8476094658746442440 : Unit := ()
def PySem.W.Fast.tw6873268401876998262 : Unit := ()
def PySem.W.Fast.tw15522193127841925803 : Unit := ()
def PySem.W.Fast.tw14764004991850927117 : Unit := ()
def PySem.W.Fast.tw8111827176009606420 : Unit := ()
def PySem.W.Fast.tw2581815425338708396 : Unit := ()
def PySem.W.Fast.tw16760538715880002840 : Unit := ()
def PySem.W.Fast.tw12342494862727013419 : Unit := ()
def PySem.W.Fast.tw13309846179622810033 : Unit := ()
def PySem.W.Fast.tw15419625395529078360 : Unit := ()
def PySem.W.Fast.tw16766829079873211230 : Unit := ()
def PySem.W.Fast.tw6727188356808467933 : Unit := ()
def PySem.W.Fast.tw6182956453869964870 : Unit := ()
def PySem.W.Fast.tw18240294421921780351 : Unit := ()
def PySem.W.Fast.tw2100092000506202329 : Unit := ()
open PySem PySem.W PyProof.Rows
set_option maxRecDepth 100000 in
theorem PySem.Challenge.cw_shredjoin_k22_whole_verdicts_holds : PySem.Challenge.rw_shredjoin_k22_whole_verdicts.Holds := by
 w_on; o_law; k_head; (case hw => w_witness2)
 k_fill
 refine Sh.walk (l := PySem.Challenge.rw_shredjoin_k22_whole_verdicts) rfl rfl (fun w h Y => PySem.W.kIn_of Y) ?F
 case F =>
  intro w mg fa h KX G hmg
  refine' Sh.all_mk KX G hmg ?B ?D0 ?D1 ?D2 ?D3 ?D4 ?D5 ?D6 ?D7 ?D8 ?D9 ?D10 ?D11 ?D12 ?D13 ?D14 ?D15 ?D16 ?D17 ?D18 ?D19 ?D20 ?D21 ?D22 ?D23 ?D24 ?D25 ?D26 ?D27 ?a0 ?l0 ?c0 ?k0
  case B =>
   refine' Sh.blt_mk KX G ?z0 ?z1 ?z2 ?z3 ?z4 ?z5 ?z6 ?z7 ?z8 ?z9 ?z10 ?z11 ?z12 ?z13 ?z14 ?z15
   (case z0 => k_is); (case z1 => k_is); (case z2 => k_is); (case z3 => k_is); (case z4 => k_is); (case z5 => k_is); (case z6 => k_is); (case z7 => k_is); (case z8 => k_is); (case z9 => k_is); (case z10 => k_is); (case z11 => k_is); (case z12 => k_is); (case z13 => k_is); (case z14 => k_is); (case z15 => k_is)
  case D0 =>
   refine' L2.hasDef_mk KX G ?a ?l ?c ?k ?b
   (case a => k_is); (case l => k_is); (case c => k_is); (case k => k_is)
   case b => exact fun _ _ _ _ _ _ us hl => match us, hl with | [_], _ => rfl
  case D1 =>
   refine' L2.hasDef_mk KX G ?a ?l ?c ?k ?b
   (case a => k_is); (case l => k_is); (case c => k_is); (case k => k_is)
   case b => exact fun _ _ _ _ _ _ us hl => match us, hl with | [_], _ => rfl
  case D2 =>
   refine' L2.hasDef_mk KX G ?a ?l ?c ?k ?b
   (case a => k_is); (case l => k_is); (case c => k_is); (case k => k_is)
   case b => exact fun _ _ _ _ _ _ us hl => match us, hl with | [_], _ => rfl
  case D3 =>
   refine' L2.hasDef_mk KX G ?a ?l ?c ?k ?b
   (case a => k_is); (case l => k_is); (case c => k_is); (case k => k_is)
   case b => exact fun _ _ _ _ _ _ us hl => match us, hl with | [_], _ => rfl
  case D4 =>
   refine' L2.hasDef_mk KX G ?a ?l ?c ?k ?b
   (case a => k_is); (case l => k_is); (case c => k_is); (case k => k_is)
   case b => exact fun _ _ _ _ _ _ us hl => match us, hl with | [_], _ => rfl
  case D5 =>
   refine' L2.hasDef_mk KX G ?a ?l ?c ?k ?b
   (case a => k_is); (case l => k_is); (case c => k_is); (case k => k_is)
   case b => exact fun _ _ _ _ _ _ us hl => match us, hl with | [_], _ => rfl
  case D6 =>
   refine' L2.hasDef_mk KX G ?a ?l ?c ?k ?b
   (case a => k_is); (case l => k_is); (case c => k_is); (case k => k_is)
   case b => exact fun _ _ _ _ _ _ us hl => match us, hl with | [_, _], _ => rfl
  case D7 =>
   refine' L2.hasDef_mk KX G ?a ?l ?c ?k ?b
   (case a => k_is); (case l => k_is); (case c => k_is); (case k => k_is)
   case b => exact fun _ _ _ _ _ _ us hl => match us, hl with | [_], _ => rfl
  case D8 =>
   refine' L2.hasDef_mk KX G ?a ?l ?c ?k ?b
   (case a => k_is); (case l => k_is); (case c => k_is); (case k => k_is)
   case b => exact fun _ _ _ _ _ _ us hl => match us, hl with | [_], _ => rfl
  case D9 =>
   refine' L2.hasDef_mk KX G ?a ?l ?c ?k ?b
   (case a => k_is); (case l => k_is); (case c => k_is); (case k => k_is)
   case b => exact fun _ _ _ _ _ _ us hl => match us, hl with | [_], _ => rfl
  case D10 =>
   refine' L2.hasDef_mk KX G ?a ?l ?c ?k ?b
   (case a => k_is); (case l => k_is); (case c => k_is); (case k => k_is)
   case b => exact fun _ _ _ _ _ _ us hl => match us, hl with | [_], _ => rfl
  case D11 =>
   refine' L2.hasDef_mk KX G ?a ?l ?c ?k ?b
   (case a => k_is); (case l => k_is); (case c => k_is); (case k => k_is)
   case b => exact fun _ _ _ _ _ _ us hl => match us, hl with | [_, _, _], _ => rfl
  case D12 =>
   refine' L2.hasDef_mk KX G ?a ?l ?c ?k ?b
   (case a => k_is); (case l => k_is); (case c => k_is); (case k => k_is)
   case b => exact fun _ _ _ _ _ _ us hl => match us, hl with | [_, _], _ => rfl
  case D13 =>
   refine' L2.hasDef_mk KX G ?a ?l ?c ?k ?b
   (case a => k_is); (case l => k_is); (case c => k_is); (case k => k_is)
   case b => exact fun _ _ _ _ _ _ us hl => match us, hl with | [_, _], _ => rfl
  case D14 =>
   refine' L2.hasDef_mk KX G ?a ?l ?c ?k ?b
   (case a => k_is); (case l => k_is); (case c => k_is); (case k => k_is)
   case b => exact fun _ _ _ _ _ _ us hl => match us, hl with | [_], _ => rfl
  case D15 =>
   refine' L2.hasDef_mk KX G ?a ?l ?c ?k ?b
   (case a => k_is); (case l => k_is); (case c => k_is); (case k => k_is)
   case b => exact fun _ _ _ _ _ _ us hl => match us, hl with | [_], _ => rfl
  case D16 =>
   refine' L2.hasDef_mk KX G ?a ?l ?c ?k ?b
   (case a => k_is); (case l => k_is); (case c => k_is); (case k => k_is)
   case b => exact fun _ _ _ _ _ _ us hl => match us, hl with | [_, _], _ => rfl
  case D17 =>
   refine' L2.hasDef_mk KX G ?a ?l ?c ?k ?b
   (case a => k_is); (case l => k_is); (case c => k_is); (case k => k_is)
   case b => exact fun _ _ _ _ _ _ us hl => match us, hl with | [_, _], _ => rfl
  case D18 =>
   refine' L2.hasDef_mk KX G ?a ?l ?c ?k ?b
   (case a => k_is); (case l => k_is); (case c => k_is); (case k => k_is)
   case b => exact fun _ _ _ _ _ _ us hl => match us, hl with | [_, _], _ => rfl
  case D19 =>
   refine' L2.hasDef_mk KX G ?a ?l ?c ?k ?b
   (case a => k_is); (case l => k_is); (case c => k_is); (case k => k_is)
   case b => exact fun _ _ _ _ _ _ us hl => match us, hl with | [_, _, _], _ => rfl
  case D20 =>
   refine' L2.hasDef_mk KX G ?a ?l ?c ?k ?b
   (case a => k_is); (case l => k_is); (case c => k_is); (case k => k_is)
   case b => exact fun _ _ _ _ _ _ us hl => match us, hl with | [_, _], _ => rfl
  case D21 =>
   refine' L2.hasDef_mk KX G ?a ?l ?c ?k ?b
   (case a => k_is); (case l => k_is); (case c => k_is); (case k => k_is)
   case b => exact fun _ _ _ _ _ _ us hl => match us, hl with | [_, _], _ => rfl
  case D22 =>
   refine' L2.hasDef_mk KX G ?a ?l ?c ?k ?b
   (case a => k_is); (case l => k_is); (case c => k_is); (case k => k_is)
   case b => exact fun _ _ _ _ _ _ us hl => match us, hl with | [_, _], _ => rfl
  case D23 =>
   refine' L2.hasDef_mk KX G ?a ?l ?c ?k ?b
   (case a => k_is); (case l => k_is); (case c => k_is); (case k => k_is)
   case b => exact fun _ _ _ _ _ _ us hl => match us, hl with | [_, _], _ => rfl
  case D24 =>
   refine' L2.hasDef_mk KX G ?a ?l ?c ?k ?b
   (case a => k_is); (case l => k_is); (case c => k_is); (case k => k_is)
   case b => exact fun _ _ _ _ _ _ us hl => match us, hl with | [_, _], _ => rfl
  case D25 =>
   refine' L2.hasDef_mk KX G ?a ?l ?c ?k ?b
   (case a => k_is); (case l => k_is); (case c => k_is); (case k => k_is)
   case b => exact fun _ _ _ _ _ _ us hl => match us, hl with | [_], _ => rfl
  case D26 =>
   refine' L2.hasDef_mk KX G ?a ?l ?c ?k ?b
   (case a => k_is); (case l => k_is); (case c => k_is); (case k => k_is)
   case b => exact fun _ _ _ _ _ _ us hl => match us, hl with | [_], _ => rfl
  case D27 =>
   refine' L2.hasDef_mk KX G ?a ?l ?c ?k ?b
   (case a => k_is); (case l => k_is); (case c => k_is); (case k => k_is)
   case b => exact fun _ _ _ _ _ _ us hl => match us, hl with | [_], _ => rfl
  (case a0 => k_is); (case l0 => k_is); (case c0 => k_is); (case k0 => k_is)
#print axioms PySem.Challenge.cw_shredjoin_k22_whole_verdicts_holds
